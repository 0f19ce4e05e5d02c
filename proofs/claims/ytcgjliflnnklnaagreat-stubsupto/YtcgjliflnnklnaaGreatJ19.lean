import Derived.Deep.RegionHeld3
import Derived.Deep.Cut
import Derived.Test.YtcgjliflnnklnaaGreatJ08
import Derived.Test.YtcgjliflnnklnaaGreatJ10
import Derived.Test.YtcgjliflnnklnaaGreatJ18
import Derived.Test.YtcgjliflnnklnaaGreatJ03
import Derived.Test.YtcgjliflnnklnaaGreatRwZez
namespace Go.Proofs.YtcgjliflnnklnaaGreat
open Go.RowKit Tryz
set_option maxRecDepth 100000
set_option maxHeartbeats 40000000
theorem zlF{w:World}{B:Nat}{s:PC}(h:CAt w B s):Rn s:=
 ⟨⟨h.rmem,h.rcnt⟩,h.rdata,h.rba,h.rbx,h.rb_y,h.rbs,h.rbp,h.rbpc⟩
theorem zfK:((List.range 56).all fun i=>(List.range 23).all fun m=> !zE i m||(m==20)||(m==21)||cdB (ya i m) (zd m))=true:=by kernel_rfl
theorem zbx{i m:Nat}(h:zE i m=true):m<23:=by
 unfold zE at h;simp only [Bool.or_eq_true,Bool.and_eq_true,beq_iff_eq] at h;rcases h with h|⟨_,h⟩
 ·obtain ⟨e,he,q⟩:=List.any_eq_true.1 h;have:∀e∈jG,e.2.2<23:=by
   intro e he;have:=List.all_eq_true.1 (show (jG.all fun e=>decide (e.2.2<23))=true from by kernel_rfl) e he;exact of_decide_eq_true this
  have h1:=this e he;simp only [Bool.and_eq_true,beq_iff_eq] at q;omega
 ·omega
theorem ziN{i m:Nat}(hi:i<56)(h:zE i m=true):Cd (ya i m) (zd m):=by
 have hm:=zbx h;have:=List.all_eq_true.1 (List.all_eq_true.1 zfK i (List.mem_range.2 hi)) m (List.mem_range.2 hm);rw [h] at this;simp only [Bool.not_true,Bool.false_or,Bool.or_eq_true,beq_iff_eq] at this;rcases this with (q|q)|q
 ·subst q;exact .seq (.inl rfl)
 ·subst q;exact .seq (.inr (.inl rfl))
 ·exact zf1 q
theorem zaK(op md:BA)(r:RG)(h:List Int):(zj op md r h).2.1<=5:=by
 unfold zj zZ;dsimp only;generalize (if md=(b3 122 112 121)\/md=(b3 97 98 121)\/md=(b3 105 122 121) then r.Y else r.X)=ix;generalize (if (h.length:Int)=2 then hd h 1 else if (h.length:Int)=3 then hd h 1+r.X else hd h 1+r.X+1)=iz;repeat' split
 all_goals (dsimp only;decide)
theorem ziO{s:PC}{r:RG}{i m:Nat}{h:List Int}(q:Midst s r i m h):h.length<=7:=by
 cases q with
 |one b0 e=>rw [e];simp
 |plc _ _ q=>
  cases q with
  |acc a fr _ _ _ p w=>
   have h5:=zaK (za i) (zd m) r (h++ []);rw [p []] at h5;have h6:(fr:Int)<=5:=h5;cases w with
   |due e=>omega
   |was _ e=>omega
   |new _ e=>omega
  |_=>simp
 |rel _ q=>cases q<;>simp
 |jmp _ q=>cases q<;>simp
 |jsr _ q=>cases q<;>simp
 |back _ q=>cases q<;>simp
 |push _ q=>cases q<;>simp
 |pull _ q=>cases q<;>simp
 |int _ q=>cases q<;>simp
theorem zfL:((List.range 56).all fun i=>(List.range 23).all fun m=> !zE i m|| !(decide (ya i m=b3 74 77 80))||(m==13)||(m==14))=true:=by kernel_rfl
theorem ziP{s:PC}{r:RG}{i m:Nat}{h:List Int}(hi:i<56)(hok:zE i m=true)(q:Midst s r i m h)(e:ya i m=b3 74 77 80):h.length<=4:=by
 have:=List.all_eq_true.1 (List.all_eq_true.1 zfL i (List.mem_range.2 hi)) m (List.mem_range.2 (zbx hok));rw [hok,e] at this;simp only [Bool.not_true,Bool.false_or,decide_true,Bool.or_eq_true,beq_iff_eq] at this;cases q with
 |one b0 e=>rw [e];simp
 |jmp _ q=>cases q<;>simp
 |plc h1 h2 _=>omega
 |rel h1 _=>omega
 |jsr h1 _=>omega
 |back h1 _=>omega
 |push h1 _=>omega
 |pull h1 _=>omega
 |int h1 _=>omega
theorem GF{s:PC}{t:RS}(H:Alike s t)(hj:t.r.jam=false):(t.h≠ [] ->Cd t.op t.md)/\t.h.length<=90/\(t.op=b3 74 77 80->t.h.length<=4)/\Byt t.h:=by
 cases H.way with
 |idle e _ _=>exact ⟨fun q=>absurd e q,by rw [e];simp,fun _=>by rw [e];simp,by rw [e];intro b hb;cases hb⟩
 |midst i m _ _ hi hok hop hmd _ hB _ hM=>exact ⟨fun _=>by rw [hop,hmd];exact ziN hi hok,by have:=ziO hM;omega,fun e=>ziP hi hok hM (hop.symm.trans e),hB⟩
 |jam e _ _=>rw [hj] at e;cases e
theorem zcY{t:RS}(hm:∀i,i<65536->0<=t.mem i/\t.mem i<256)(k0:0<=t.cnt/\t.cnt<256){a:Int}(ha:0<=a/\a<65536):0<=t.peek a/\t.peek a<256:=by
 unfold RS.peek;split
 ·exact k0
 ·split
  ·split<;>decide
  ·exact hm _ zza
theorem Xu{t:RS}(nmi irq:Bool)(rg:Rg t.r)(hB:Byt t.h)(hm:∀i,i<65536->0<=t.mem i/\t.mem i<256)(k0:0<=t.cnt/\t.cnt<256):(0<=(t.cycle nmi irq).2.data/\(t.cycle nmi irq).2.data<256)/\0<=(t.cycle nmi irq).2.addr/\(t.cycle nmi irq).2.addr<65536:=by
 obtain ⟨a,ea⟩:∃a,(if (t.pins nmi).h.length>0 then (zo (t.pins nmi).op (t.pins nmi).md (t.pins nmi).r (t.pins nmi).h).1 else ⟨(t.pins nmi).r.PC,false,0,true⟩)=a:=⟨_,rfl⟩
 have rg1:Rg (t.pins nmi).r:=⟨rg.A,rg.X,rg.Y,rg.S,rg.P,rg.PC⟩;have oa:(a.wr=true->0<=a.data/\a.data<256)/\a.addr<65536/\0<=a.addr:=by
  rw [<-ea];split
  ·exact (za1 _ _ _ _ rg1 hB).2
  ·exact ⟨fun q=>(by cases q),rg1.PC.2,rg1.PC.1⟩
 obtain ⟨tb,b,eb⟩:∃tb b,(t.pins nmi).bus a=(tb,b):=⟨_,_,rfl⟩
 have e:(t.cycle nmi irq).2=b:=by rw [Zw];exact Gy ea eb
 rw [e];have e2:((t.pins nmi).bus a).2=b:=by rw [eb]
 rw [<-e2];refine ⟨?_,by rw [Gx];exact ⟨oa.2.2,oa.2.1⟩⟩;unfold RS.bus;by_cases q:a.wr=false
 ·rw [if_pos q];exact zcY (t:=t.pins nmi) hm k0 ⟨oa.2.2,oa.2.1⟩
 ·have q2:a.wr=true:=by cases h:a.wr;exact absurd h q;rfl
  rw [if_neg q];split
  ·exact oa.1 q2
  ·split<;>exact oa.1 q2
theorem zdJ:(prog.info? 3).map (fun i=>(i.zero,i.size,i.bytes))=some (some (.int .i64 0),1,8):=by kernel_rfl
theorem zbR:prog.underlying 30=some (.slice 3):=by kernel_rfl
theorem zdK:∃Z:Array Value,(∀i,i<65536->Z[i]?=some (.int .i64 0))/\∀w:World,Sem.run prog (Instr.makeSlice 30 (.int .i64 65536) (.int .i64 65536)) w=.ok (.slice (some ⟨w.heap.size,0,none⟩) 65536 65536) (w.alloc (.cells Z 3)):=by
 obtain ⟨i0,hi,hz0,hz1,hz2⟩:=info_parts zdJ;refine ⟨madeCells (Value.int .i64 0).cells (65536*i0.size),fun i hi=>?_,fun w=>?_⟩
 ·rw [hz1];have:(madeCells (Value.int .i64 0).cells (65536*1)).toList=List.replicate (65536*1) (.int .i64 0):=toList_madeCells_one _ _;rw [<-Array.getElem?_toList,this,List.getElem?_replicate];simp [hi]
 ·exact run_make (P:=prog) w 30 3 i0 _ zbR hi hz0 .i64 .i64 65536 65536 zzb zzb (by rw [hz2];decide) zzb
def RS.bare(rom:Int)(m:Nat->Int):RS:=⟨m,rom*256,⟨0,0,0,0,0,0,0,false⟩,0,false,false,false,⟨#[]⟩,⟨#[]⟩,[]⟩
def RS.fresh(rom:Int)(cs:List Chn):RS:=
 let m:=yW (fun _=>0) cs
 {RS.bare rom m with r:=⟨0,0,0,253,36,m 65532+256*m 65533,0,false⟩ }
theorem zgp{w W:World}{Z:Array Value}{rom:Int}(hZ:∀i,i<65536->Z[i]?=some (.int .i64 0))(hM:W.heap[w.heap.size]?=some (.cells Z 3 (0,0)))(k:Nat)
  (hB:Blk W k #[.slice (some ⟨w.heap.size,0,none⟩) 65536 65536,.int .i64 (rom*256),.int .i64 0,.int .i64 0,.int .i64 0,.int .i64 0,.int .i64 0,.int .i64 0,.int .i64 0,.bool false,.int .i64 0,.bool false,.bool false,.bool false,.string ⟨#[]⟩,.string ⟨#[]⟩,.slice none 0 0] 194) (hk:k≠w.heap.size):
  MAt W k w.heap.size (MV w.heap.size (.slice none 0 0) (RS.bare rom fun _=>0)) fun _=>0:=by
 refine ⟨rfl,fun i hi=>?_,hB.free,fun i hi=>?_,fun o=>by simp [World.frozen?,hM],hk⟩
 ·rw [hB.cell i];match i,hi with
  |0,_=>rfl
  |1,_=>rfl
  |2,_=>rfl
  |3,_=>rfl
  |4,_=>rfl
  |5,_=>rfl
  |6,_=>rfl
  |7,_=>rfl
  |8,_=>rfl
  |9,_=>rfl
  |10,_=>rfl
  |11,_=>rfl
  |12,_=>rfl
  |13,_=>rfl
  |14,_=>rfl
  |15,_=>rfl
  |16,_=>rfl
  |i+17,hi=>exact absurd hi zza
 ·rw [cell_of_row W w.heap.size i Z 3 (0,0) hM];exact hZ i hi
theorem Yh(w:World)(n:Nat)(vs:Array Value)(T:TypeId)(h:w.heap.size=n):Blk (w.alloc (.cells vs T)) n vs T:=h ▸ Blk.new w vs T
theorem zbS(m:Nat->Int)(hm:∀i,0<=m i/\m i<256)(at_:Int)(bs:List UInt8):∀i,0<=xS m at_ bs i/\xS m at_ bs i<256:=by
 unfold xS;generalize bs.zipIdx=l;induction l generalizing m with
 |nil=>exact hm
 |cons p r ih=>
  rw [List.foldl_cons];exact ih _ (fun i=>by unfold vH;split;exact zd6 p.1;exact hm i)
theorem Vd(m:Nat->Int)(hm:∀i,0<=m i/\m i<256)(cs:List Chn):∀i,0<=yW m cs i/\yW m cs i<256:=by
 unfold yW;induction cs generalizing m with
 |nil=>exact hm
 |cons p r ih=>rw [List.foldl_cons];exact ih _ (zbS m hm _ _)
theorem zgq(N:Nat)(v:Value)(cs:List Chn)(rom:Int)(w:World)(hc:CfAt N w v cs)(hl:cs.length<=100000000)(hb:yq cs<=100000000)(hv:yt rom cs=false):Calls prog 61 #[.agg #[v,.int .i64 rom]] w fun e w'=>e=.returned (.tuple #[.pointer none,.int .i64 1])/\Below w.heap.size w w':=by
 have V:=fun o=>zjS N v cs rom (w.alloc o) (hc.below (Below.refl _ _|>.alloc (Nat.le_refl _) _)) hl hb
 rw [hv] at V;obtain ⟨p,cap,rfl, -⟩:=hc;go_enter func61,ntmps61;go_wp2_with (first|(go_at_call 90;refine (V _).mono ?_;rintro e w1 ⟨rfl,hbl⟩;have HB:Hid (Below w.heap.size w w1):=((Below.refl _ _).alloc (Nat.le_refl _) _).trans (hbl.mono zzc);clear hbl V));go_ret2;exact ⟨rfl,HB.out⟩
theorem zgr(N:Nat)(v:Value)(cs:List Chn)(rom:Int)(w:World)(hN:N<=w.heap.size)(hc:CfAt N w v cs)(hl:cs.length<=100000000)(hb:yq cs<=100000000)(hv:yt rom cs=true):Calls prog 61 #[.agg #[v,.int .i64 rom]] w fun e w'=> ∃B M,w.heap.size<=B/\w.heap.size<=M/\e=.returned (.tuple #[.pointer (some ⟨B,0,none⟩),.int .i64 0])/\MAt w' B M (MV M (.slice none 0 0) (RS.fresh rom cs)) (RS.fresh rom cs).mem/\Below w.heap.size w w':=by
 have V:=fun o=>zjS N v cs rom (w.alloc o) (hc.below (Below.refl _ _|>.alloc (Nat.le_refl _) _)) hl hb
 rw [hv] at V;have HN:Hid (N<=w.heap.size/\CfAt N w v cs):=⟨hN,hc⟩;obtain ⟨Z,hZ,hmk⟩:=zdK;have HZ:Hid (∀i,i<65536->Z[i]?=some (.int .i64 0)):=hZ;unfold yt at hv;simp only [Bool.and_eq_true,decide_eq_true_eq] at hv;obtain ⟨⟨r0,r1,r2⟩,hall,htot⟩:=hv;have HA:Hid (cs.all xO=true/\yq cs<=4096):=⟨hall,htot⟩;obtain ⟨p,cap,rfl,H⟩:=hc;clear hall htot hZ hb H hN;go_enter func61,ntmps61;go_upto_region 4 with (first|(go_at_call 90;refine (V _).mono ?_;rintro e w1 ⟨rfl,hbl⟩;have HB:Hid (Below (w.alloc (.cells #[.slice p cs.length cap,.int .i64 rom] 26)).heap.size (w.alloc (.cells #[.slice p cs.length cap,.int .i64 rom] 26)) w1):=hbl;clear hbl V));have hK:Blk w1 w.heap.size #[.slice p cs.length cap,.int .i64 rom] 26:=(Blk.new w _ _).below HB.out;have HB2:Hid (Below w.heap.size w w1):=((Below.refl _ _).alloc (Nat.le_refl _) _).trans (HB.out.mono zzc);clear HB;have e0:w1.cell? ⟨w.heap.size,0,none⟩=some (.slice p cs.length cap):=hK.cell 0;have e1:w1.cell? ⟨w.heap.size,1,none⟩=some (.int .i64 rom):=hK.cell 1;have e2:=hK.lt;have HK:Hid (Blk w1 w.heap.size #[.slice p cs.length cap,.int .i64 rom] 26):=hK;clear hK;go_cut [5] from 8 (fun s wx=> ∃B M,s=.pointer (some ⟨B,0,none⟩)/\w1.heap.size<=B/\w1.heap.size<=M/\MAt wx B M (MV M (.slice none 0 0) (RS.bare rom fun _=>0)) (fun _=>0)/\Below w1.heap.size w1 wx)
 case first=>
  go_region;go_wp2;go_meet;case rel=>exact ⟨w1.heap.size+1,w1.heap.size,rfl,by omega,Nat.le_refl _,zgp (w:=w1) (rom:=rom) HZ.out (Blk.alloc (Blk.new w1 Z 3) _).drew (w1.heap.size+1) (Yh _ _ _ _ (World.size_alloc _ _)).drew zza,(((Below.refl _ _).alloc (Nat.le_refl _) _).alloc zzc _).drew⟩
 case rest=>
  obtain ⟨B,M,rfl,hB,hM,hA0,hb0⟩:=hcut;have HI:Hid (MAt wc B M (MV M (.slice none 0 0) (RS.bare rom fun _=>0)) (fun _=>0)/\Below w1.heap.size w1 wc):=⟨hA0,hb0⟩;clear hA0 hb0 hmk e0 e1;go_wp2;go_loopw [6] (fun i wr=> ∃k:Nat,k<=cs.length/\i=.int .i64 k/\MAt wr B M (MV M (.slice none 0 0) (RS.bare rom fun _=>0)) (yW (fun _=>0) (cs.take k))/\Below w1.heap.size w1 wr) (fun i _=>cs.length-(intOf i).toNat);case atStart=>exact ⟨0,Nat.zero_le _,rfl,HI.out⟩
  case round=>
   clear HI;obtain ⟨k,hk,rfl,hA,hBl⟩:=hrel;have HI:Hid (MAt wr B M (MV M (.slice none 0 0) (RS.bare rom fun _=>0)) (yW (fun _=>0) (cs.take k))/\Below w1.heap.size w1 wr):=⟨hA,hBl⟩;have e0:wr.cell? ⟨w.heap.size,0,none⟩=some (.slice p cs.length cap):=(hBl.cell (p:=⟨w.heap.size,0,none⟩) e2).trans (HK.out.cell 0);have lt1:w.heap.size<wr.heap.size:=Nat.lt_of_lt_of_le e2 hBl.size;by_cases hl2:k<cs.length
   ·obtain ⟨p',cap',ev,H⟩:=HN.out.2;injection ev with ev1 ev2 ev3;subst ev1;obtain ⟨b,off,rfl,hbN,HC⟩:=H (by intro e;rw [e] at hl2;simp at hl2);obtain ⟨c1,c2,p2,cap2,hv,hB2⟩:=HC k hl2;have hBw:Below w.heap.size w wr:=HB2.out.trans (hBl.mono zza);have d1:=(hBw.cell (p:=⟨b,off+k*2,none⟩) (yc (by rw [c1];simp))).trans c1;have d2:=(hBw.cell (p:=⟨b,off+k*2+1,none⟩) (yc (by rw [c2];simp))).trans c2;rw [hv] at d2;have HF:Hid (yW (fun _=>0) (cs.take (k+1))=xS (yW (fun _=>0) (cs.take k)) cs[k].at_ cs[k].bs):=Vt (fun _=>0) cs k hl2;have oc:=List.all_eq_true.1 HA.out.1 _ (List.getElem_mem hl2);unfold xO at oc;obtain ⟨a0,a1⟩:=of_decide_eq_true oc;have hL:cs[k].bs.length<=4096:=Nat.le_trans (Kw (List.getElem_mem hl2)) HA.out.2;have HD:Hid (w.cell? ⟨b,off+k*2,none⟩=some (.int .i64 cs[k].at_)/\w.cell? ⟨b,off+k*2+1,none⟩=some (.slice p2 cs[k].bs.length cap2)):=⟨c1,hv ▸ c2⟩;have HB3:Hid (cs[k].bs≠ [] ->∃b off,p2=some ⟨b,off,none⟩/\b<N/\zy w b off cs[k].bs):=hB2;clear oc c1 c2 hv HC hA hBl H hBw hB2;generalize yW (fun _=>0) (cs.take k)=Mk at*;generalize cs[k].at_=A at*;generalize cs[k].bs=l at*;go_wp2;go_loopw [7] (fun i wq=> ∃j:Nat,j<=l.length/\i=.int .i64 j/\MAt wq B M (MV M (.slice none 0 0) (RS.bare rom fun _=>0)) (xS Mk A (l.take j))/\Below w1.heap.size w1 wq) (fun i _=>l.length-(intOf i).toNat);case atStart=>exact ⟨0,Nat.zero_le _,rfl,HI.out⟩
    case round=>
     clear HI e0 lt1 d1 d2;obtain ⟨j,hj,rfl,hA,hBl⟩:=hrel;have HI:Hid (MAt wr B M (MV M (.slice none 0 0) (RS.bare rom fun _=>0)) (xS Mk A (l.take j))/\Below w1.heap.size w1 wr):=⟨hA,hBl⟩;have e0:wr.cell? ⟨w.heap.size,0,none⟩=some (.slice (some ⟨b,off,none⟩) cs.length cap):=(hBl.cell (p:=⟨w.heap.size,0,none⟩) e2).trans (HK.out.cell 0);have lt1:w.heap.size<wr.heap.size:=Nat.lt_of_lt_of_le e2 hBl.size;have hBw:Below w.heap.size w wr:=HB2.out.trans (hBl.mono zza);have d1:=(hBw.cell (p:=⟨b,off+k*2,none⟩) (yc (by rw [HD.out.1];simp))).trans HD.out.1;have d2:=(hBw.cell (p:=⟨b,off+k*2+1,none⟩) (yc (by rw [HD.out.2];simp))).trans HD.out.2;by_cases hlj:j<l.length
     ·obtain ⟨b2,off2,rfl,hb2,hBy⟩:=HB3.out (by intro e;rw [e] at hlj;simp at hlj);have hcell:=(hBw.cell (p:=⟨b2,off2+j,none⟩) (yc (by rw [hBy j hlj];simp))).trans (hBy j hlj);have HS:Hid (xS Mk A (l.take (j+1))=vH (xS Mk A (l.take j)) ((A+(j:Int))%65536).toNat (l[j].toNat:Int)):=Vs Mk A l j hlj;have hm:=hA.m ((A+(j:Int))%65536).toNat zza;have fq:=hA.fm ((A+(j:Int))%65536).toNat;have m0:wr.cell? ⟨B,0,none⟩=some (.slice (some ⟨M,0,none⟩) 65536 65536):=hA.c 0 zzb;have qlt:=hA.ltM;have i0:0<=A+(j:Int):=by omega
      have i1:0<=(A+(j:Int))%65536:=by omega
      have i2:(A+(j:Int))%65536<65536:=by omega
      have hu:=zd6 l[j];have hwx:IntKind.i64.wrap (l[j].toNat:Int)=(l[j].toNat:Int):=by rw [IntKind.wrap_i64];omega
      have n1:M≠w.heap.size:=by omega
      have n2:M≠b:=by have:=HN.out.1;omega
      have n3:M≠b2:=by have:=HN.out.1;omega
      have n4:M≠B:=Ne.symm hA.ne;have n5:w.heap.size≠M:=by omega
      have n6:b≠M:=by have:=HN.out.1;omega
      have n7:b2≠M:=by have:=HN.out.1;omega
      have n8:B≠M:=hA.ne;have hwr:IntKind.i64.wrap (A+(j:Int))=A+(j:Int):=by rw [IntKind.wrap_i64];omega
      clear hA hBl hBy hBw;generalize xS Mk A (l.take j)=M2 at*;generalize l[j]=x at*;go_wp2_with fail;go_region_held3 (fun w'=>w'.cell? ⟨w.heap.size,0,none⟩=some (.slice (some ⟨b,off,none⟩) cs.length cap)/\w'.cell? ⟨b,off+k*2,none⟩=some (.int .i64 A)/\w'.cell? ⟨b,off+k*2+1,none⟩=some (.slice (some ⟨b2,off2,none⟩) l.length cap2)/\w'.cell? ⟨b2,off2+j,none⟩=some (.int .u8 (x.toNat:Int))/\w'.cell? ⟨B,0,none⟩=some (.slice (some ⟨M,0,none⟩) 65536 65536)) (go_keep) (first|(go_at_call 91;with_reducible refine (zD _ _).mono ?_;rintro e w2 ⟨rfl,hw⟩;subst hw))
      all_goals
       go_wp2;go_roundw;case rel=>exact ⟨j+1,by omega,by go_num,by rw [HS.out];exact (((TM.refl HI.out.1).setM zza).drew).c,(HI.out.2.setCell hM _).drew⟩
       case measure=>simp [intOf];omega
     ·have hke:l.take j=l:=List.take_of_length_le zza;rw [hke, <-HF.out] at HI;clear hA hBl hBw hke;go_wp2;go_roundw;case rel=>exact ⟨k+1,by omega,by go_num,HI.out⟩
      case measure=>simp [intOf];omega
   ·have hke:cs.take k=cs:=List.take_of_length_le zza;rw [hke] at hA HI;have m0:wr.cell? ⟨B,0,none⟩=some (.slice (some ⟨M,0,none⟩) 65536 65536):=hA.c 0 zzb;have x1:=hA.m 65532 zzb;have x2:=hA.m 65533 zzb;have y1:=Vd (fun _=>0) (fun _=>by decide) cs 65532;have y2:=Vd (fun _=>0) (fun _=>by decide) cs 65533;have qlt:=hA.ltM;have blt:=hA.lt;have fz:=hA.fr;have hne:=hA.ne;have s2:wr.cell? ⟨B,2,none⟩=some (.int .i64 0):=hA.c 2 zzb;have s3:wr.cell? ⟨B,3,none⟩=some (.int .i64 0):=hA.c 3 zzb;have s4:wr.cell? ⟨B,4,none⟩=some (.int .i64 0):=hA.c 4 zzb;have s5:wr.cell? ⟨B,5,none⟩=some (.int .i64 0):=hA.c 5 zzb;have s6:wr.cell? ⟨B,6,none⟩=some (.int .i64 0):=hA.c 6 zzb;have s7:wr.cell? ⟨B,7,none⟩=some (.int .i64 0):=hA.c 7 zzb;have s8:wr.cell? ⟨B,8,none⟩=some (.int .i64 0):=hA.c 8 zzb;have s9:wr.cell? ⟨B,9,none⟩=some (.bool false):=hA.c 9 zzb;have HE:Hid ((RS.fresh rom cs).mem=yW (fun _=>0) cs/\MV M (.slice none 0 0) (RS.fresh rom cs)=MV M (.slice none 0 0) {RS.bare rom (fun _=>0) with r:=⟨0,0,0,253,36,yW (fun _=>0) cs 65532+256*yW (fun _=>0) cs 65533,0,false⟩ }):=⟨rfl,rfl⟩;clear hA hBl hke;generalize yW (fun _=>0) cs=Mk at*;generalize Mk 65532=q1 at*;generalize Mk 65533=q2 at*;go_wp2_with fail;go_region
    all_goals
     go_wp2;go_ret2;refine ⟨B,M,by omega,by omega,rfl,?_,HB2.out.trans (((((((((HI.out.2.setCell hB _).setCell hB _).setCell hB _).setCell hB _).setCell hB _).setCell hB _).setCell hB _).setCell hB _).drew.mono zza)⟩;rw [HE.out.1,HE.out.2];refine TM.c (w0:=wr) ?_;apply TM.eq;case h=>(repeat (first|with_reducible exact TM.refl HI.out.1|with_reducible apply TM.drew|((with_reducible apply TM.set);(case hi=>decide))))
     case e=>rfl
     case e2=>rfl
theorem U1{rom:Int}{cs:List Chn}{R:Nat->Option Value}:Alike (PC.fresh rom cs R) (RS.fresh rom cs):=by
 have e:(PC.fresh rom cs R).bpc=(RS.fresh rom cs).r.PC:=by
  show zn (yW (fun _=>0) cs 65532) (yW (fun _=>0) cs 65533)=yW (fun _=>0) cs 65532+256*yW (fun _=>0) cs 65533;unfold zn;omega
 exact ⟨rfl,rfl,rfl,rfl,rfl,rfl,rfl,.idle rfl rfl ⟨rfl,⟨rfl,rfl,rfl,rfl,rfl,e⟩,rfl,rfl,rfl,rfl,rfl,e⟩⟩
theorem RgR.of{r:RG}(h:Rg r):RgR r:=⟨h.A,h.X,h.Y,h.S,h.P,h.PC⟩
structure Pair (w:World) (base B R M:Nat) (s:PC) (t:RS) (vh:Value):Prop where
 x:CAt w B s
 y:MAt w R M (MV M vh t) t.mem
 o:HV w base R M vh t.h
 al:Alike s t
 nr:B≠R
 nm:B≠M
 nv:∀g,vh.ownBlock=some g->g≠B
structure Four (B R M:Nat) (r:Option Nat) (w w':World):Prop where
 os:w'.os=w.os
 tape:w'.tape=w.tape
 output:w'.output=w.output
 size:w.heap.size<=w'.heap.size
 block:∀k,k<w.heap.size->k≠B->k≠R->k≠M->some k≠r->w'.heap[k]?=w.heap[k]?
section
variable {B R M:Nat} {r:Option Nat} {w w':World}
theorem Four.refl(B R M:Nat)(r:Option Nat)(w:World):Four B R M r w w:=⟨rfl,rfl,rfl,Nat.le_refl _,fun _ _ _ _ _ _=>rfl⟩
theorem Four.trans{a b c:World}(h:Four B R M r a b)(k:Four B R M r b c):Four B R M r a c:=
 ⟨k.os.trans h.os,k.tape.trans h.tape,k.output.trans h.output,Nat.le_trans h.size k.size,fun i h1 h2 h3 h4 h5=>(k.block i (Nat.lt_of_lt_of_le h1 h.size) h2 h3 h4 h5).trans (h.block i h1 h2 h3 h4 h5)⟩
theorem Four.below(h:Below w.heap.size w w'):Four B R M r w w':=⟨h.os,h.tape,h.output,h.size,fun k hk _ _ _ _=>h.block k hk⟩
theorem Four.tn(h:w.grownBy w' (some B)):Four B R M r w w':=⟨h.os,h.tape,h.output,h.size,fun k hk h1 _ _ _=>h.block k hk (by intro e;injection e with e;exact h1 e)⟩
theorem Four.row{r2:Option Nat}{a b c:World}(h:Four B R M r a b)(k:Four B R M r2 b c)(hr:∀g,r2=some g->r=some g\/a.heap.size<=g):Four B R M r a c:=
 ⟨k.os.trans h.os,k.tape.trans h.tape,k.output.trans h.output,Nat.le_trans h.size k.size,fun i h1 h2 h3 h4 h5=>(k.block i (Nat.lt_of_lt_of_le h1 h.size) h2 h3 h4 (fun e=>by
  rcases hr i e.symm with q|q
  ·exact h5 q.symm
  ·omega)).trans (h.block i h1 h2 h3 h4 h5)⟩
variable {base:Nat} {s:PC} {t:RS} {vh:Value}
theorem Pair.kept(p:Pair w base B R M s t vh)(hb:Below w.heap.size w w'):Pair w' base B R M s t vh:=
 ⟨p.x.same (hb.block _ p.x.lt),p.y.same (hb.block _ p.y.lt) (hb.block _ p.y.ltM),p.o.kept (Two.below hb),p.al,p.nr,p.nm,p.nv⟩
end
def Ran(w:World)(base B R M:Nat)(vh:Value)(w':World):Prop:= ∃s' t' vh',Pair w' base B R M s' t' vh'/\Four B R M vh.ownBlock w w'/\∀g,vh'.ownBlock=some g->vh.ownBlock=some g\/w.heap.size<=g
theorem Ran.below{w w1 w2:World}{base B R M:Nat}{vh:Value}(h:Ran w base B R M vh w1)(hb:Below w1.heap.size w1 w2):Ran w base B R M vh w2:=by
 obtain ⟨s',t',vh',p,f,o⟩:=h;exact ⟨s',t',vh',p.kept hb,f.trans (Four.below hb),o⟩
theorem zaQ{s:PC}{t:RS}(H:Alike s t)(b:Int):s.peek b=t.peek (b%65536):=by
 unfold PC.peek PC.look RS.peek;rw [H.cnt,H.calls,H.mem]
