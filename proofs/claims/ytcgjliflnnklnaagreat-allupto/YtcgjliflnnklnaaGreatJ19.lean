import Derived.Deep.RegionHeld3
import Derived.Deep.Cut
import Derived.Test.YtcgjliflnnklnaaGreatJ08
import Derived.Test.YtcgjliflnnklnaaGreatJ10
import Derived.Test.YtcgjliflnnklnaaGreatJ18
import Derived.Test.YtcgjliflnnklnaaGreatJ03
import Derived.Test.YtcgjliflnnklnaaGreatRwZez
namespace Go.Proofs.YtcgjliflnnklnaaGreat
open Go.RowKit Tryz
set_option maxRecDepth 100000
set_option maxHeartbeats 40000000
theorem zlF{w:World}{B:Nat}{s:PC}(h:CAt w B s):Rn s:=
 ⟨⟨h.rmem,h.rcnt⟩,h.rdata,h.rba,h.rbx,h.rb_y,h.rbs,h.rbp,h.rbpc⟩
theorem zfK:((List.range 56).all fun i=>(List.range 23).all fun m=> !zE i m||(m==20)||(m==21)||cdB (ya i m) (zd m))=true:=by kernel_rfl
theorem zbx{i m:Nat}(h:zE i m=true):m<23:=by
 unfold zE at h;simp only [Bool.or_eq_true,Bool.and_eq_true,beq_iff_eq] at h;rcases h with h|⟨_,h⟩
 ·obtain ⟨e,he,q⟩:=List.any_eq_true.1 h;have:∀e∈jG,e.2.2<23:=by
   intro e he;have:=List.all_eq_true.1 (show (jG.all fun e=>decide (e.2.2<23))=true from by kernel_rfl) e he;exact of_decide_eq_true this
  have h1:=this e he;simp only [Bool.and_eq_true,beq_iff_eq] at q;omega
 ·omega
theorem ziN{i m:Nat}(hi:i<56)(h:zE i m=true):Cd (ya i m) (zd m):=by
 have hm:=zbx h;have:=List.all_eq_true.1 (List.all_eq_true.1 zfK i (List.mem_range.2 hi)) m (List.mem_range.2 hm);rw [h] at this;simp only [Bool.not_true,Bool.false_or,Bool.or_eq_true,beq_iff_eq] at this;rcases this with (q|q)|q
 ·subst q;exact .seq (.inl rfl)
 ·subst q;exact .seq (.inr (.inl rfl))
 ·exact zf1 q
theorem zaK(op md:BA)(r:RG)(h:List Int):(zj op md r h).2.1<=5:=by
 unfold zj zZ;dsimp only;generalize (if md=(b3 122 112 121)\/md=(b3 97 98 121)\/md=(b3 105 122 121) then r.Y else r.X)=ix;generalize (if (h.length:Int)=2 then hd h 1 else if (h.length:Int)=3 then hd h 1+r.X else hd h 1+r.X+1)=iz;repeat' split
 all_goals (dsimp only;decide)
theorem ziO{s:PC}{r:RG}{i m:Nat}{h:List Int}(q:Midst s r i m h):h.length<=7:=by
 cases q with
 |one b0 e=>rw [e];simp
 |plc _ _ q=>
  cases q with
  |acc a fr _ _ _ p w=>
   have h5:=zaK (za i) (zd m) r (h++ []);rw [p []] at h5;have h6:(fr:Int)<=5:=h5;cases w with
   |due e=>omega
   |was _ e=>omega
   |new _ e=>omega
  |_=>simp
 |rel _ q=>cases q<;>simp
 |jmp _ q=>cases q<;>simp
 |jsr _ q=>cases q<;>simp
 |back _ q=>cases q<;>simp
 |push _ q=>cases q<;>simp
 |pull _ q=>cases q<;>simp
 |int _ q=>cases q<;>simp
theorem zfL:((List.range 56).all fun i=>(List.range 23).all fun m=> !zE i m|| !(decide (ya i m=b3 74 77 80))||(m==13)||(m==14))=true:=by kernel_rfl
theorem ziP{s:PC}{r:RG}{i m:Nat}{h:List Int}(hi:i<56)(hok:zE i m=true)(q:Midst s r i m h)(e:ya i m=b3 74 77 80):h.length<=4:=by
 have:=List.all_eq_true.1 (List.all_eq_true.1 zfL i (List.mem_range.2 hi)) m (List.mem_range.2 (zbx hok));rw [hok,e] at this;simp only [Bool.not_true,Bool.false_or,decide_true,Bool.or_eq_true,beq_iff_eq] at this;cases q with
 |one b0 e=>rw [e];simp
 |jmp _ q=>cases q<;>simp
 |plc h1 h2 _=>omega
 |rel h1 _=>omega
 |jsr h1 _=>omega
 |back h1 _=>omega
 |push h1 _=>omega
 |pull h1 _=>omega
 |int h1 _=>omega
theorem GF{s:PC}{t:RS}(H:Alike s t)(hj:t.r.jam=false):(t.h≠ [] ->Cd t.op t.md)/\t.h.length<=90/\(t.op=b3 74 77 80->t.h.length<=4)/\Byt t.h:=by
 cases H.way with
 |idle e _ _=>exact ⟨fun q=>absurd e q,by rw [e];simp,fun _=>by rw [e];simp,by rw [e];intro b hb;cases hb⟩
 |midst i m _ _ hi hok hop hmd _ hB _ hM=>exact ⟨fun _=>by rw [hop,hmd];exact ziN hi hok,by have:=ziO hM;omega,fun e=>ziP hi hok hM (hop.symm.trans e),hB⟩
 |jam e _ _=>rw [hj] at e;cases e
theorem zcY{t:RS}(hm:∀i,i<65536->0<=t.mem i/\t.mem i<256)(k0:0<=t.cnt/\t.cnt<256){a:Int}(ha:0<=a/\a<65536):0<=t.peek a/\t.peek a<256:=by
 unfold RS.peek;split
 ·exact k0
 ·split
  ·split<;>decide
  ·exact hm _ zza
theorem Xu{t:RS}(nmi irq:Bool)(rg:Rg t.r)(hB:Byt t.h)(hm:∀i,i<65536->0<=t.mem i/\t.mem i<256)(k0:0<=t.cnt/\t.cnt<256):(0<=(t.cycle nmi irq).2.data/\(t.cycle nmi irq).2.data<256)/\0<=(t.cycle nmi irq).2.addr/\(t.cycle nmi irq).2.addr<65536:=by
 obtain ⟨a,ea⟩:∃a,(if (t.pins nmi).h.length>0 then (zo (t.pins nmi).op (t.pins nmi).md (t.pins nmi).r (t.pins nmi).h).1 else ⟨(t.pins nmi).r.PC,false,0,true⟩)=a:=⟨_,rfl⟩
 have rg1:Rg (t.pins nmi).r:=⟨rg.A,rg.X,rg.Y,rg.S,rg.P,rg.PC⟩;have oa:(a.wr=true->0<=a.data/\a.data<256)/\a.addr<65536/\0<=a.addr:=by
  rw [<-ea];split
  ·exact (za1 _ _ _ _ rg1 hB).2
  ·exact ⟨fun q=>(by cases q),rg1.PC.2,rg1.PC.1⟩
 obtain ⟨tb,b,eb⟩:∃tb b,(t.pins nmi).bus a=(tb,b):=⟨_,_,rfl⟩
 have e:(t.cycle nmi irq).2=b:=by rw [Zw];exact Gy ea eb
 rw [e];have e2:((t.pins nmi).bus a).2=b:=by rw [eb]
 rw [<-e2];refine ⟨?_,by rw [Gx];exact ⟨oa.2.2,oa.2.1⟩⟩;unfold RS.bus;by_cases q:a.wr=false
 ·rw [if_pos q];exact zcY (t:=t.pins nmi) hm k0 ⟨oa.2.2,oa.2.1⟩
 ·have q2:a.wr=true:=by cases h:a.wr;exact absurd h q;rfl
  rw [if_neg q];split
  ·exact oa.1 q2
  ·split<;>exact oa.1 q2
theorem zdJ:(prog.info? 3).map (fun i=>(i.zero,i.size,i.bytes))=some (some (Iq 0),1,8):=by kernel_rfl
theorem zbR:prog.underlying 30=some (.slice 3):=by kernel_rfl
theorem zdK:∃Z:Array Value,(∀i,i<65536->Z[i]?=some (Iq 0))/\∀w:World,Sem.run prog (Instr.makeSlice 30 (Iq 65536) (Iq 65536)) w=.ok (Sq w.heap.size 65536 65536) (w.alloc (.cells Z 3)):=by
 obtain ⟨i0,hi,hz0,hz1,hz2⟩:=info_parts zdJ;refine ⟨madeCells (Iq 0).cells (65536*i0.size),fun i hi=>?_,fun w=>?_⟩
 ·rw [hz1];have:(madeCells (Iq 0).cells (65536*1)).toList=List.replicate (65536*1) (Iq 0):=toList_madeCells_one _ _;rw [<-Array.getElem?_toList,this,List.getElem?_replicate];simp [hi]
 ·exact run_make (P:=prog) w 30 3 i0 _ zbR hi hz0 .i64 .i64 65536 65536 zzb zzb (by rw [hz2];decide) zzb
def RS.bare(rom:Int)(m:Nat->Int):RS:=⟨m,rom*256,⟨0,0,0,0,0,0,0,false⟩,0,false,false,false,⟨#[]⟩,⟨#[]⟩,[]⟩
def RS.fresh(rom:Int)(cs:List Chn):RS:=
 let m:=yW (fun _=>0) cs
 {RS.bare rom m with r:=⟨0,0,0,253,36,m 65532+256*m 65533,0,false⟩ }
theorem zgp{w W:World}{Z:Array Value}{rom:Int}(hZ:∀i,i<65536->Z[i]?=some (Iq 0))(hM:W.heap[w.heap.size]?=some (.cells Z 3 (0,0)))(k:Nat)
  (hB:Blk W k #[Sq w.heap.size 65536 65536,Iq (rom*256),Iq 0,Iq 0,Iq 0,Iq 0,Iq 0,Iq 0,Iq 0,Tq false,Iq 0,Tq false,Tq false,Tq false,Zq ⟨#[]⟩,Zq ⟨#[]⟩,Nq] 194) (hk:k≠w.heap.size):
  MAt W k w.heap.size (MV w.heap.size (Nq) (RS.bare rom fun _=>0)) fun _=>0:=by
 refine ⟨rfl,fun i hi=>?_,hB.free,fun i hi=>?_,fun o=>by simp [World.frozen?,hM],hk⟩
 ·rw [hB.cell i];match i,hi with
  |0,_=>rfl
  |1,_=>rfl
  |2,_=>rfl
  |3,_=>rfl
  |4,_=>rfl
  |5,_=>rfl
  |6,_=>rfl
  |7,_=>rfl
  |8,_=>rfl
  |9,_=>rfl
  |10,_=>rfl
  |11,_=>rfl
  |12,_=>rfl
  |13,_=>rfl
  |14,_=>rfl
  |15,_=>rfl
  |16,_=>rfl
  |i+17,hi=>exact absurd hi zza
 ·rw [cell_of_row W w.heap.size i Z 3 (0,0) hM];exact hZ i hi
theorem Yh(w:World)(n:Nat)(vs:Array Value)(T:TypeId)(h:w.heap.size=n):Blk (w.alloc (.cells vs T)) n vs T:=h ▸ Blk.new w vs T
theorem zbS(m:Nat->Int)(hm:∀i,0<=m i/\m i<256)(at_:Int)(bs:List UInt8):∀i,0<=xS m at_ bs i/\xS m at_ bs i<256:=by
 unfold xS;generalize bs.zipIdx=l;induction l generalizing m with
 |nil=>exact hm
 |cons p r ih=>
  rw [List.foldl_cons];exact ih _ (fun i=>by unfold vH;split;exact zd6 p.1;exact hm i)
theorem Vd(m:Nat->Int)(hm:∀i,0<=m i/\m i<256)(cs:List Chn):∀i,0<=yW m cs i/\yW m cs i<256:=by
 unfold yW;induction cs generalizing m with
 |nil=>exact hm
 |cons p r ih=>rw [List.foldl_cons];exact ih _ (zbS m hm _ _)
theorem zgq(N:Nat)(v:Value)(cs:List Chn)(rom:Int)(w:World)(hc:CfAt N w v cs)(hl:cs.length<=100000000)(hb:yq cs<=100000000)(hv:yt rom cs=false):Cq 61 #[.agg #[v,Iq rom]] w (.tuple #[.pointer none,Iq 1]) fun w'=>Bq w w':=by
 have V:=fun o=>zjS N v cs rom (w.alloc o) (hc.below (Below.refl _ _|>.alloc (Nat.le_refl _) _)) hl hb
 rw [hv] at V;obtain ⟨p,cap,rfl, -⟩:=hc;go_enter func61,ntmps61;go_wp2_with (first|(go_at_call 90;refine (V _).mono ?_;rintro e w1 ⟨rfl,hbl⟩;have HB:Hid (Bq w w1):=qBa.trans (hbl.mono zzc);clear hbl V));go_ret2;exact ⟨rfl,HB.out⟩
theorem zgr(N:Nat)(v:Value)(cs:List Chn)(rom:Int)(w:World)(hN:N<=w.heap.size)(hc:CfAt N w v cs)(hl:cs.length<=100000000)(hb:yq cs<=100000000)(hv:yt rom cs=true):Calls prog 61 #[.agg #[v,Iq rom]] w fun e w'=> ∃B M,w.heap.size<=B/\w.heap.size<=M/\e=.returned (.tuple #[Pq B,Iq 0])/\MAt w' B M (MV M (Nq) (RS.fresh rom cs)) (RS.fresh rom cs).mem/\Bq w w':=by
 have V:=fun o=>zjS N v cs rom (w.alloc o) (hc.below (Below.refl _ _|>.alloc (Nat.le_refl _) _)) hl hb
 rw [hv] at V;have HN:=qH2 hN hc;obtain ⟨Z,hZ,hmk⟩:=zdK;have HZ:=qH1 hZ;unfold yt at hv;simp only [Bool.and_eq_true,decide_eq_true_eq] at hv;obtain ⟨⟨r0,r1,r2⟩,hall,htot⟩:=hv;have HA:=qH2 hall htot;obtain ⟨p,cap,rfl,H⟩:=hc;clear hall htot hZ hb H hN;go_enter func61,ntmps61;go_upto_region 4 with (first|(go_at_call 90;refine (V _).mono ?_;rintro e w1 ⟨rfl,hbl⟩;have HB:=qH1 hbl;clear hbl V));have hK:Blk w1 w.heap.size #[.slice p cs.length cap,Iq rom] 26:=(Blk.new w _ _).below HB.out;have HB2:Hid (Bq w w1):=qBa.trans (HB.out.mono zzc);clear HB;have e0:=hK.cq 0;have e1:=hK.cq 1;have e2:=hK.lt;have HK:=qH1 hK;clear hK;go_cut [5] from 8 (fun s wx=> ∃B M,s=Pq B/\w1.heap.size<=B/\w1.heap.size<=M/\MAt wx B M (MV M (Nq) (RS.bare rom fun _=>0)) (fun _=>0)/\Bq w1 wx)
 case first=>
  go_region;go_wp2;go_meet;case rel=>exact ⟨w1.heap.size+1,w1.heap.size,rfl,by omega,Nat.le_refl _,zgp (w:=w1) (rom:=rom) HZ.out (Blk.alloc (Blk.new w1 Z 3) _).drew (w1.heap.size+1) (Yh _ _ _ _ (World.size_alloc _ _)).drew zza,(qBa.alloc zzc _).drew⟩
 case rest=>
  obtain ⟨B,M,rfl,hB,hM,hA0,hb0⟩:=hcut;have HI:=qH2 hA0 hb0;clear hA0 hb0 hmk e0 e1;go_wp2;go_loopw [6] (fun i wr=> ∃k:Nat,k<=cs.length/\i=Iq k/\MAt wr B M (MV M (Nq) (RS.bare rom fun _=>0)) (yW (fun _=>0) (cs.take k))/\Bq w1 wr) (fun i _=>cs.length-(intOf i).toNat);case atStart=>exact ⟨0,Nat.zero_le _,rfl,HI.out⟩
  case round=>
   clear HI;obtain ⟨k,hk,rfl,hA,hBl⟩:=hrel;have HI:=qH2 hA hBl;have e0:wr.cell? (Aq w.heap.size 0)=some (.slice p cs.length cap):=(hBl.cell (p:=(Aq w.heap.size 0)) e2).trans (HK.out.cell 0);have lt1:w.heap.size<wr.heap.size:=Nat.lt_of_lt_of_le e2 hBl.size;by_cases hl2:k<cs.length
   ·obtain ⟨p',cap',ev,H⟩:=HN.out.2;injection ev with ev1 ev2 ev3;subst ev1;obtain ⟨b,off,rfl,hbN,HC⟩:=H (by intro e;rw [e] at hl2;simp at hl2);obtain ⟨c1,c2,p2,cap2,hv,hB2⟩:=HC k hl2;have hBw:Bq w wr:=HB2.out.trans (hBl.mono zza);have d1:=(hBw.cell (p:=⟨b,off+k*2,none⟩) (yc (by rw [c1];simp))).trans c1;have d2:=(hBw.cell (p:=⟨b,off+k*2+1,none⟩) (yc (by rw [c2];simp))).trans c2;rw [hv] at d2;have HF:Hid (yW (fun _=>0) (cs.take (k+1))=xS (yW (fun _=>0) (cs.take k)) cs[k].at_ cs[k].bs):=Vt (fun _=>0) cs k hl2;have oc:=List.all_eq_true.1 HA.out.1 _ (List.getElem_mem hl2);unfold xO at oc;obtain ⟨a0,a1⟩:=of_decide_eq_true oc;have hL:cs[k].bs.length<=4096:=Nat.le_trans (Kw (List.getElem_mem hl2)) HA.out.2;have HD:Hid (w.cell? ⟨b,off+k*2,none⟩=some (Iq cs[k].at_)/\w.cell? ⟨b,off+k*2+1,none⟩=some (.slice p2 cs[k].bs.length cap2)):=⟨c1,hv ▸ c2⟩;have HB3:=qH1 hB2;clear oc c1 c2 hv HC hA hBl H hBw hB2;generalize yW (fun _=>0) (cs.take k)=Mk at*;generalize cs[k].at_=A at*;generalize cs[k].bs=l at*;go_wp2;go_loopw [7] (fun i wq=> ∃j:Nat,j<=l.length/\i=Iq j/\MAt wq B M (MV M (Nq) (RS.bare rom fun _=>0)) (xS Mk A (l.take j))/\Bq w1 wq) (fun i _=>l.length-(intOf i).toNat);case atStart=>exact ⟨0,Nat.zero_le _,rfl,HI.out⟩
    case round=>
     clear HI e0 lt1 d1 d2;obtain ⟨j,hj,rfl,hA,hBl⟩:=hrel;have HI:=qH2 hA hBl;have e0:wr.cell? (Aq w.heap.size 0)=some (.slice (some (Aq b off)) cs.length cap):=(hBl.cell (p:=(Aq w.heap.size 0)) e2).trans (HK.out.cell 0);have lt1:w.heap.size<wr.heap.size:=Nat.lt_of_lt_of_le e2 hBl.size;have hBw:Bq w wr:=HB2.out.trans (hBl.mono zza);have d1:=(hBw.cell (p:=⟨b,off+k*2,none⟩) (yc (by rw [HD.out.1];simp))).trans HD.out.1;have d2:=(hBw.cell (p:=⟨b,off+k*2+1,none⟩) (yc (by rw [HD.out.2];simp))).trans HD.out.2;by_cases hlj:j<l.length
     ·obtain ⟨b2,off2,rfl,hb2,hBy⟩:=HB3.out (by intro e;rw [e] at hlj;simp at hlj);have hcell:=(hBw.cell (p:=⟨b2,off2+j,none⟩) (yc (by rw [hBy j hlj];simp))).trans (hBy j hlj);have HS:Hid (xS Mk A (l.take (j+1))=vH (xS Mk A (l.take j)) ((A+(j:Int))%65536).toNat (l[j].toNat:Int)):=Vs Mk A l j hlj;have hm:=hA.m ((A+(j:Int))%65536).toNat zza;have fq:=hA.fm ((A+(j:Int))%65536).toNat;have m0:wr.cell? (Aq B 0)=some (Sq M 65536 65536):=hA.c 0 zzb;have qlt:=hA.ltM;have i0:0<=A+(j:Int):=by omega
      have i1:0<=(A+(j:Int))%65536:=by omega
      have i2:(A+(j:Int))%65536<65536:=by omega
      have hu:=zd6 l[j];have hwx:IntKind.i64.wrap (l[j].toNat:Int)=(l[j].toNat:Int):=by rw [IntKind.wrap_i64];omega
      have n1:M≠w.heap.size:=by omega
      have n2:M≠b:=by have:=HN.out.1;omega
      have n3:M≠b2:=by have:=HN.out.1;omega
      have n4:M≠B:=Ne.symm hA.ne;have n5:w.heap.size≠M:=by omega
      have n6:b≠M:=by have:=HN.out.1;omega
      have n7:b2≠M:=by have:=HN.out.1;omega
      have n8:B≠M:=hA.ne;have hwr:IntKind.i64.wrap (A+(j:Int))=A+(j:Int):=by rw [IntKind.wrap_i64];omega
      clear hA hBl hBy hBw;generalize xS Mk A (l.take j)=M2 at*;generalize l[j]=x at*;go_wp2_with fail;go_region_held3 (fun w'=>w'.cell? (Aq w.heap.size 0)=some (.slice (some (Aq b off)) cs.length cap)/\w'.cell? ⟨b,off+k*2,none⟩=some (Iq A)/\w'.cell? ⟨b,off+k*2+1,none⟩=some (.slice (some (Aq b2 off2)) l.length cap2)/\w'.cell? ⟨b2,off2+j,none⟩=some (Uq (x.toNat:Int))/\w'.cell? (Aq B 0)=some (Sq M 65536 65536)) (go_keep) (first|(go_at_call 91;with_reducible refine (zD _ _).mono ?_;rintro e w2 ⟨rfl,hw⟩;subst hw))
      all_goals
       go_wp2;go_roundw;case rel=>exact ⟨j+1,by omega,by go_num,by rw [HS.out];exact (((TM.refl HI.out.1).setM zza).drew).c,(HI.out.2.setCell hM _).drew⟩
       case measure=>simp [intOf];omega
     ·have hke:l.take j=l:=List.take_of_length_le zza;rw [hke, <-HF.out] at HI;clear hA hBl hBw hke;go_wp2;go_roundw;case rel=>exact ⟨k+1,by omega,by go_num,HI.out⟩
      case measure=>simp [intOf];omega
   ·have hke:cs.take k=cs:=List.take_of_length_le zza;rw [hke] at hA HI;have m0:wr.cell? (Aq B 0)=some (Sq M 65536 65536):=hA.c 0 zzb;have x1:=hA.m 65532 zzb;have x2:=hA.m 65533 zzb;have y1:=Vd (fun _=>0) (fun _=>by decide) cs 65532;have y2:=Vd (fun _=>0) (fun _=>by decide) cs 65533;have qlt:=hA.ltM;have blt:=hA.lt;have fz:=hA.fr;have hne:=hA.ne;have s2:wr.cell? (Aq B 2)=some (Iq 0):=hA.c 2 zzb;have s3:wr.cell? (Aq B 3)=some (Iq 0):=hA.c 3 zzb;have s4:wr.cell? (Aq B 4)=some (Iq 0):=hA.c 4 zzb;have s5:wr.cell? (Aq B 5)=some (Iq 0):=hA.c 5 zzb;have s6:wr.cell? (Aq B 6)=some (Iq 0):=hA.c 6 zzb;have s7:wr.cell? (Aq B 7)=some (Iq 0):=hA.c 7 zzb;have s8:wr.cell? (Aq B 8)=some (Iq 0):=hA.c 8 zzb;have s9:wr.cell? (Aq B 9)=some (Tq false):=hA.c 9 zzb;have HE:Hid ((RS.fresh rom cs).mem=yW (fun _=>0) cs/\MV M (Nq) (RS.fresh rom cs)=MV M (Nq) {RS.bare rom (fun _=>0) with r:=⟨0,0,0,253,36,yW (fun _=>0) cs 65532+256*yW (fun _=>0) cs 65533,0,false⟩ }):=⟨rfl,rfl⟩;clear hA hBl hke;generalize yW (fun _=>0) cs=Mk at*;generalize Mk 65532=q1 at*;generalize Mk 65533=q2 at*;go_wp2_with fail;go_region
    all_goals
     go_wp2;go_ret2;refine ⟨B,M,by omega,by omega,rfl,?_,HB2.out.trans (((((((((HI.out.2.setCell hB _).setCell hB _).setCell hB _).setCell hB _).setCell hB _).setCell hB _).setCell hB _).setCell hB _).drew.mono zza)⟩;rw [HE.out.1,HE.out.2];refine TM.c (w0:=wr) ?_;apply TM.eq;case h=>(repeat (first|with_reducible exact TM.refl HI.out.1|with_reducible apply TM.drew|((with_reducible apply TM.set);(case hi=>decide))))
     case e=>rfl
     case e2=>rfl
theorem U1{rom:Int}{cs:List Chn}{R:Nat->Option Value}:Alike (PC.fresh rom cs R) (RS.fresh rom cs):=by
 have e:(PC.fresh rom cs R).bpc=(RS.fresh rom cs).r.PC:=by
  show zn (yW (fun _=>0) cs 65532) (yW (fun _=>0) cs 65533)=yW (fun _=>0) cs 65532+256*yW (fun _=>0) cs 65533;unfold zn;omega
 exact ⟨rfl,rfl,rfl,rfl,rfl,rfl,rfl,.idle rfl rfl ⟨rfl,⟨rfl,rfl,rfl,rfl,rfl,e⟩,rfl,rfl,rfl,rfl,rfl,e⟩⟩
theorem zoH(b:BusI)(w:World):Cq 64 #[b.val,b.val] w (Tq true) fun w'=>Bq w w':=by
 obtain ⟨a,d,r,f⟩:=b;unfold BusI.val;go_enter func64,ntmps64;go_wp2;go_ret;exact ⟨by simp,qBa.alloc zzc _⟩
theorem zoy(r:RG)(w:World):Cq 65 #[r.val,r.val] w (Tq true) fun w'=>Bq w w':=by
 obtain ⟨a,x,y,s,p,pc,c,j⟩:=r;unfold RG.val;go_enter func65,ntmps65;go_wp2;go_ret;exact ⟨by simp,qBa.alloc zzc _⟩
theorem zql(c n:Int)(w:World)(h:1<=n)(h2:n<=9223372036854775807)(hc1: -9223372036854775808<=c)(hc2:c<=9223372036854775807):Calls prog 43 #[Iq c,Iq n] w fun e w'=>(∃r:Nat,(r:Int)<n/\e=.returned (Iq r))/\w'=w:=by
 go_enter func43,ntmps43;go_wp2;all_goals go_ret
 ·have hc:c<0:=by assumption
  have:=za9 c n h hc;exact ⟨⟨(-(c+1).tmod n).toNat,by omega,xT zza⟩,rfl⟩
 ·have h0:=Int.emod_nonneg c (show n≠0 by omega);have h1:=Int.emod_lt_of_pos c (show 0<n by omega);exact ⟨⟨(c%n).toNat,by omega,xT zza⟩,rfl⟩
theorem zoT{B M:Nat}{t:RS}{vh:Value}{w:World}(h0:MAt w B M (MV M vh t) t.mem)(hj:t.r.jam=true)(nmi irq:Bool):Cq 63 #[Pq B,Tq nmi,Tq irq] w (.tuple #[BusI.val ⟨0,0,false,false⟩,Tq false]) fun w'=>Bq w w':=by
 have lt1:=h0.lt;have m1:w.heap.size≠B:=by omega
 have m3:B≠w.heap.size:=by omega
 have c9:=h0.cs.2.2.2.2.2.2.2.2.2.1;rw [hj] at c9;clear h0;unfold BusI.val;go_enter func63,ntmps63;go_wp2_with fail;go_returns;exact ⟨rfl,by go_grown⟩
theorem zpI:(jG.all fun e=>decide (e.2.2≠0))=true:=by kernel_rfl
theorem zpJ{i m:Nat}(h:zE i m=true):m≠0:=by
 unfold zE at h;simp only [Bool.or_eq_true,Bool.and_eq_true,beq_iff_eq] at h;rcases h with h|⟨_,h⟩
 ·obtain ⟨e,he,q⟩:=List.any_eq_true.1 h;have h1:=of_decide_eq_true (List.all_eq_true.1 zpI e he);simp only [Bool.and_eq_true,beq_iff_eq] at q;omega
 ·omega
theorem zpt{s:PC}{t:RS}(H:Alike s t):s.st=1->s.md≠0:=by
 intro h;cases H.way with
 |idle _ _ f=>rw [f.st] at h;cases h
 |midst i m _ _ _ hok _ _ hL _ _ _=>rw [hL.md];have:=zpJ hok;omega
 |jam _ e _=>rw [e] at h;cases h
theorem RgR.of{r:RG}(h:Rg r):RgR r:=⟨h.A,h.X,h.Y,h.S,h.P,h.PC⟩
theorem zo4{R M base:Nat}{s:PC}{t:RS}{vh:Value}{w:World}(h0:MAt w R M (MV M vh t) t.mem)(hv:HV w base R M vh t.h)(hbs:base<=w.heap.size)(al:Alike s t)(rn:Rn s)(nmi irq:Bool):Cq 63 #[Pq R,Tq nmi,Tq irq] w (.tuple #[(zcE s nmi irq).2.1.val,Tq (zcE s nmi irq).2.2]) fun w'=>
   ∃t' vh',Alike (zcE s nmi irq).1 t'/\MAt w' R M (MV M vh' t') t'.mem/\HV w' base R M vh' t'.h/\Tri R M vh.ownBlock w w'/\∀g,vh'.ownBlock=some g->vh.ownBlock=some g\/w.heap.size<g:=by
 have hjm:=qj s t al;unfold zcE;cases hj:t.r.jam
 ·rw [hj] at hjm;have h5:¬s.st=5:=by simpa using hjm
  simp only [if_neg h5];obtain ⟨q1,q2,q3,q4⟩:=GF al hj;have rg:=al.rg rn;have hmem:∀i,i<65536->0<=t.mem i/\t.mem i<256:=al.mem ▸ rn.bytes.1
  have hcnt:0<=t.cnt/\t.cnt<256:=al.cnt ▸ rn.bytes.2;obtain ⟨e1,e2⟩:=Zx s t nmi irq al rn hj;obtain ⟨d,ad⟩:=Xu nmi irq rg q4 hmem hcnt;refine (zkm h0 hv hbs hj (RgR.of rg) hcnt q1 q2 q3 (fun i _=>qO t.h q4 i) nmi irq d ad).mono ?_;rintro e w' ⟨rfl,vh',p1,p2,p3,p4⟩;exact ⟨by rw [e1],(t.cycle nmi irq).1,vh',e2,p1,p2,p3,p4⟩
 ·rw [hj] at hjm;have h5:s.st=5:=by simpa using hjm
  simp only [if_pos h5];refine (zoT h0 hj nmi irq).mono ?_;rintro e w' ⟨rfl,hb⟩;have hT:=(TM.refl h0).below hb;exact ⟨rfl,t,vh,al,hT.c,hv.kept hT.g,Tri.two hT.g,fun g hg=>.inl hg⟩
structure Pair (w:World) (base B R M:Nat) (s:PC) (t:RS) (vh:Value):Prop where
 x:CAt w B s
 y:MAt w R M (MV M vh t) t.mem
 o:HV w base R M vh t.h
 al:Alike s t
 nr:B≠R
 nm:B≠M
 nv:∀g,vh.ownBlock=some g->g≠B
structure Four (B R M:Nat) (r:Option Nat) (w w':World):Prop where
 os:w'.os=w.os
 tape:w'.tape=w.tape
 output:w'.output=w.output
 size:w.heap.size<=w'.heap.size
 block:∀k,k<w.heap.size->k≠B->k≠R->k≠M->some k≠r->w'.heap[k]?=w.heap[k]?
section
variable {B R M:Nat} {r:Option Nat} {w w':World}
theorem Four.refl(B R M:Nat)(r:Option Nat)(w:World):Four B R M r w w:=⟨rfl,rfl,rfl,Nat.le_refl _,fun _ _ _ _ _ _=>rfl⟩
theorem Four.trans{a b c:World}(h:Four B R M r a b)(k:Four B R M r b c):Four B R M r a c:=
 ⟨k.os.trans h.os,k.tape.trans h.tape,k.output.trans h.output,Nat.le_trans h.size k.size,fun i h1 h2 h3 h4 h5=>(k.block i (Nat.lt_of_lt_of_le h1 h.size) h2 h3 h4 h5).trans (h.block i h1 h2 h3 h4 h5)⟩
theorem Four.below(h:Bq w w'):Four B R M r w w':=⟨h.os,h.tape,h.output,h.size,fun k hk _ _ _ _=>h.block k hk⟩
theorem Four.tri(h:Tri R M r w w'):Four B R M r w w':=⟨h.os,h.tape,h.output,h.size,fun k hk _ h2 h3 h4=>h.block k hk h2 h3 h4⟩
theorem Four.tn(h:w.grownBy w' (some B)):Four B R M r w w':=⟨h.os,h.tape,h.output,h.size,fun k hk h1 _ _ _=>h.block k hk (by intro e;injection e with e;exact h1 e)⟩
theorem Four.row{r2:Option Nat}{a b c:World}(h:Four B R M r a b)(k:Four B R M r2 b c)(hr:∀g,r2=some g->r=some g\/a.heap.size<=g):Four B R M r a c:=
 ⟨k.os.trans h.os,k.tape.trans h.tape,k.output.trans h.output,Nat.le_trans h.size k.size,fun i h1 h2 h3 h4 h5=>(k.block i (Nat.lt_of_lt_of_le h1 h.size) h2 h3 h4 (fun e=>by
  rcases hr i e.symm with q|q
  ·exact h5 q.symm
  ·omega)).trans (h.block i h1 h2 h3 h4 h5)⟩
theorem Blk.by4{n:Nat}{vs:Array Value}{T:TypeId}(b:Blk w n vs T)(h:Four B R M r w w')(h1:n≠B)(h2:n≠R)(h3:n≠M)(h4:some n≠r):Blk w' n vs T:=b.same (h.block n b.lt h1 h2 h3 h4)
variable {base:Nat} {s:PC} {t:RS} {vh:Value}
theorem Pair.kept(p:Pair w base B R M s t vh)(hb:Bq w w'):Pair w' base B R M s t vh:=
 ⟨p.x.same (hb.block _ p.x.lt),p.y.same (hb.block _ p.y.lt) (hb.block _ p.y.ltM),p.o.kept (Two.below hb),p.al,p.nr,p.nm,p.nv⟩
theorem Pair.half{s':PC}(p:Pair w base B R M s t vh)(h:Tn B s' w w'):MAt w' R M (MV M vh t) t.mem/\HV w' base R M vh t.h:=
 have k:∀n,n≠B->n<w.heap.size->w'.heap[n]?=w.heap[n]?:=fun n h1 h2=>h.g.block n h2 (by intro e;injection e with e;exact h1 e)
 ⟨p.y.same (k _ p.nr.symm p.y.lt) (k _ p.nm.symm p.y.ltM),⟨zG p.o.o (fun g hg=>k g (p.nv g hg) (p.o.o.lt g hg).2),p.o.ne⟩⟩
end
def opW(k a b:Int)(S:BA)(n q:Bool)(ca:Option Addr)(cl cc:Nat)(rom:Int):Array Value:=#[Iq k,Iq a,Iq b,Zq S,Tq n,Tq q,.slice ca cl cc,Iq rom]
def Ran(w:World)(base B R M:Nat)(vh:Value)(w':World):Prop:= ∃s' t' vh',Pair w' base B R M s' t' vh'/\Four B R M vh.ownBlock w w'/\∀g,vh'.ownBlock=some g->vh.ownBlock=some g\/w.heap.size<=g
theorem Ran.below{w w1 w2:World}{base B R M:Nat}{vh:Value}(h:Ran w base B R M vh w1)(hb:Bq w1 w2):Ran w base B R M vh w2:=by
 obtain ⟨s',t',vh',p,f,o⟩:=h;exact ⟨s',t',vh',p.kept hb,f.trans (Four.below hb),o⟩
theorem zo2(w:World)(base B R M:Nat)(s:PC)(t:RS)(vh:Value)(h:Pair w base B R M s t vh)(hbs:base<=w.heap.size)(a b:Int)(S:BA)(n q:Bool)(ca:Option Addr)(cl cc:Nat)(rom:Int)(hb1: -9223372036854775808<=b)(hb2:b<=9223372036854775807):Cq 42 #[.agg (opW 2 a b S n q ca cl cc rom),.agg #[Pq B,Pq R]] w (Tq true) fun w'=>Ran w base B R M vh w':=by
 have lB:=h.x.lt;have lR:=h.y.lt;have lM:=h.y.ltM;have HG:Hid (∀g,vh.ownBlock=some g->g<w.heap.size):=fun g hg=>(h.o.o.lt g hg).2
 have PK:=fun w=>zql b 300 w zzb zzb hb1 hb2
 unfold opW;go_enter func42,ntmps42;go_wp2_with (first|(go_at_call 43;refine (PK _).mono ?_;rintro e w1 ⟨⟨r0,hr0,rfl⟩,rfl⟩));have hO:Blk ((w.alloc (.cells #[Iq 2,Iq a,Iq b,Zq S,Tq n,Tq q,.slice ca cl cc,Iq rom] 29)).alloc (.cells #[Pq B,Pq R] 134)) w.heap.size #[Iq 2,Iq a,Iq b,Zq S,Tq n,Tq q,.slice ca cl cc,Iq rom] 29:=(Blk.new w _ _).alloc _;have hQ:Blk ((w.alloc (.cells #[Iq 2,Iq a,Iq b,Zq S,Tq n,Tq q,.slice ca cl cc,Iq rom] 29)).alloc (.cells #[Pq B,Pq R] 134)) (w.heap.size+1) #[Pq B,Pq R] 134:=Yh _ _ _ _ zzc;have hL:Bq w ((w.alloc (.cells #[Iq 2,Iq a,Iq b,Zq S,Tq n,Tq q,.slice ca cl cc,Iq rom] 29)).alloc (.cells #[Pq B,Pq R] 134)):=qBa.alloc zzc _;generalize (w.alloc (.cells #[Iq 2,Iq a,Iq b,Zq S,Tq n,Tq q,.slice ca cl cc,Iq rom] 29)).alloc (.cells #[Pq B,Pq R] 134)=W at*;have HW:=qH4 hO hQ hL hQ.lt;have HP:Hid (Pair W base B R M s t vh):=h.kept hL;clear h hO hQ hL;go_loopw [5] (fun i wr=> ∃m:Int, -1<=m/\m<=300/\i=Iq m/\Ran W base B R M vh wr) (fun i _=>((intOf i)+1).toNat);case atStart=>exact ⟨(r0:Int),by omega,by omega,rfl,s,t,vh,HP.out,Four.refl _ _ _ _ _,fun g hg=>.inl hg⟩
 case round=>
  clear HP;obtain ⟨m,hm1,hm2,rfl,hR⟩:=hrel;have HR:=qH1 hR;clear hR;by_cases hlt:0<=m
  ·obtain ⟨s',t',vh',hP,hF,hown⟩:=HR.out;have hW:=HW.out;have k1:w.heap.size≠B:=by omega
   have k2:w.heap.size≠R:=by omega
   have k3:w.heap.size≠M:=by omega
   have k4:w.heap.size+1≠B:=by omega
   have k5:w.heap.size+1≠R:=by omega
   have k6:w.heap.size+1≠M:=by omega
   have k7:∀g,vh'.ownBlock=some g->w.heap.size≠g/\w.heap.size+1≠g:=fun g hg=>by
    rcases hown g hg with z|z
    ·have:=HG.out g z;omega
    ·have:=hW.2.2.2;omega
   have hO1:=hW.1.by4 hF k1 k2 k3 (fun e=>by have:=HG.out _ e.symm;omega);have hQ1:=hW.2.1.by4 hF k4 k5 k6 (fun e=>by have:=HG.out _ e.symm;omega);have HX:=zoZ (Tn.refl hP.x) n q (zpt hP.al);have HY:=fun (w1:World) (o:Obj) (hT:Tn B (zcE s' n q).1 wr w1)=>zo4 (s:=s') (nmi:=n) (irq:=q) (base:=base) ((TM.refl (hP.half hT).1).alloc o).c ((hP.half hT).2.kept ((TM.refl (hP.half hT).1).alloc o).g) (by have h1:=hT.g.size;have h2:=hF.size;have h3:=hW.2.2.1.size;simp;omega) hP.al (zlF hP.x)
   have HC:=qH3 hP hF hown;have lw:W.heap.size<=wr.heap.size:=hF.size;clear HR hP hF hown;generalize (zcE s' n q).1=sX at*;generalize (zcE s' n q).2.1=bx at*;generalize (zcE s' n q).2.2=ox at*;have SB:=fun w=>zoH bx w
   unfold BusI.val at HX HY SB;have o4:=hO1.cq 4;have o5:=hO1.cq 5;have q0:=hQ1.cq 0;go_wp2_with fail;refine HX.mono ?_;rintro e w1 ⟨rfl,hT1⟩;clear o4 o5 q0 HX;have f1:Four B R M vh'.ownBlock wr w1:=Four.tn hT1.g;have hO2:=hO1.by4 f1 k1 k2 k3 (fun e=>(k7 _ e.symm).1 rfl);have hQ2:=hQ1.by4 f1 k4 k5 k6 (fun e=>(k7 _ e.symm).2 rfl);have HY2:=HY w1 (.cells #[Iq bx.addr,Iq bx.data,Tq bx.wr,Tq bx.ft] 53) hT1;have o4:=hO2.cq 4;have o5:=hO2.cq 5;have q1:=hQ2.cq 1;have l1:=hO2.lt;have l2:=hQ2.lt;go_wp2_with fail;refine HY2.mono ?_;rintro e w2 ⟨rfl,t2,vh2,al2,y2,ov2,tri2,own2⟩;clear o4 o5 q1 HY HY2;have hA2:=(Blk.new w1 #[Iq bx.addr,Iq bx.data,Tq bx.wr,Tq bx.ft] 53).same (tri2.block w1.heap.size zzc zza zza (fun e=>by have:=HC.out.1.o.o.lt _ e.symm;have:=f1.size;omega));obtain ⟨y0,y1,y3,y4, -,yl⟩:=hA2.four;go_wp2_with fail;refine (SB _).mono ?_;rintro e w3 ⟨rfl,hb3⟩;have hsz:(w1.alloc (.cells #[Iq bx.addr,Iq bx.data,Tq bx.wr,Tq bx.ft] 53)).heap.size=w1.heap.size+1:=World.size_alloc _ _;have HN:Hid (Ran W base B R M vh w3):=by
    obtain ⟨hP,hF,hown⟩:=HC.out;have f2:Four B R M vh'.ownBlock wr w2:=(f1.trans (Four.below qBa)).trans (Four.tri tri2);have f3:Four B R M vh'.ownBlock w2 w3:=(Four.below qBa).trans (Four.below hb3);have lx:=hT1.c.lt;have x2:CAt w2 B sX:=(hT1.c.same (Below.heap_alloc _ _ _ lx)).same (tri2.block B (by rw [hsz];omega) hP.nr hP.nm (fun e=>hP.nv _ e.symm rfl));have p2:Pair w2 base B R M sX t2 vh2:=⟨x2,y2,ov2,al2,hP.nr,hP.nm,fun g hg=>by
     rcases own2 g hg with z|z
     ·exact hP.nv g z
     ·rw [hsz] at z;omega⟩
    have p3:=(p2.kept qBa).kept hb3;refine ⟨sX,t2,vh2,p3,hF.row (f2.trans f3) hown,fun g hg=>?_⟩;rcases own2 g hg with z|z
    ·exact hown g z
    ·rw [hsz] at z;exact .inr (by have:=f1.size;omega)
   clear hb3 y2 ov2 al2 tri2 own2 hA2 y0 y1 y3 y4 yl SB HC hT1 f1 hO1 hO2 hQ1 hQ2;go_wp2_with fail;go_roundw;case rel=>exact ⟨m-1,by omega,by omega,by go_num,HN.out⟩
   case measure=>simp [intOf];omega
  ·have HE:Hid (Ran w base B R M vh wr):=by
    obtain ⟨s',t',vh',p,f,o⟩:=HR.out;have hs:=HW.out.2.2.1.size;exact ⟨s',t',vh',p,(Four.below (HW.out.2.2.1)).trans f,fun g hg=>(o g hg).imp id (fun z=>by omega)⟩
   clear HR;go_wp2;go_ret;exact ⟨rfl,HE.out⟩
theorem zo3{s:PC}{t:RS}(H:Alike s t):s.regs.val=t.r.val:=by
 have b:=H.way.beh;have j:=qj s t H;unfold PC.regs RegI.val RG.val;dsimp only;rw [b.a,b.x,b.y,b.sp,b.p,b.pc,H.cyc,j]
theorem zaQ{s:PC}{t:RS}(H:Alike s t)(b:Int):s.peek b=t.peek (b%65536):=by
 unfold PC.peek PC.look RS.peek;rw [H.cnt,H.calls,H.mem]
theorem zph(w:World)(base B R M:Nat)(s:PC)(t:RS)(vh:Value)(h:Pair w base B R M s t vh)(a b:Int)(S:BA)(n q:Bool)(ca:Option Addr)(cl cc:Nat)(rom:Int):Cq 42 #[.agg (opW 4 a b S n q ca cl cc rom),.agg #[Pq B,Pq R]] w (Tq true) fun w'=>Ran w base B R M vh w':=by
 have hL:Bq w ((w.alloc (.cells #[Iq 4,Iq a,Iq b,Zq S,Tq n,Tq q,.slice ca cl cc,Iq rom] 29)).alloc (.cells #[Pq B,Pq R] 134)):=qBa.alloc zzc _;have hP:=h.kept hL;have HX:=zpe (Tn.refl hP.x) b;have HY:=zkc (TM.refl hP.y) b;rw [zaQ hP.al b] at HX;have HE:Hid (Ran w base B R M vh ((w.alloc (.cells #[Iq 4,Iq a,Iq b,Zq S,Tq n,Tq q,.slice ca cl cc,Iq rom] 29)).alloc (.cells #[Pq B,Pq R] 134))):=⟨s,t,vh,hP,Four.below hL,fun g hg=>.inl hg⟩;generalize t.peek (b%65536)=v at*;clear h hP hL;unfold opW;go_enter func42,ntmps42;go_wp2_with (first|(go_at_call 21;refine HX.mono ?_;rintro e w1 ⟨rfl,rfl⟩)|(go_at_call 67;refine HY.mono ?_;rintro e w1 ⟨rfl,rfl⟩));go_ret;exact ⟨by simp,HE.out⟩
theorem zpi(w:World)(base B R M:Nat)(s:PC)(t:RS)(vh:Value)(h:Pair w base B R M s t vh)(a b:Int)(S:BA)(n q:Bool)(ca:Option Addr)(cl cc:Nat)(rom:Int):Cq 42 #[.agg (opW 3 a b S n q ca cl cc rom),.agg #[Pq B,Pq R]] w (Tq true) fun w'=>Ran w base B R M vh w':=by
 have hL:Bq w ((w.alloc (.cells #[Iq 3,Iq a,Iq b,Zq S,Tq n,Tq q,.slice ca cl cc,Iq rom] 29)).alloc (.cells #[Pq B,Pq R] 134)):=qBa.alloc zzc _;have hQ:Blk ((w.alloc (.cells #[Iq 3,Iq a,Iq b,Zq S,Tq n,Tq q,.slice ca cl cc,Iq rom] 29)).alloc (.cells #[Pq B,Pq R] 134)) (w.heap.size+1) #[Pq B,Pq R] 134:=Yh _ _ _ _ zzc;have hP:=h.kept hL;have HX:=zpf (Tn.refl hP.x);rw [zo3 hP.al] at HX;unfold RG.val at HX;have HY:=fun w' (hb:Below ((w.alloc (.cells #[Iq 3,Iq a,Iq b,Zq S,Tq n,Tq q,.slice ca cl cc,Iq rom] 29)).alloc (.cells #[Pq B,Pq R] 134)).heap.size ((w.alloc (.cells #[Iq 3,Iq a,Iq b,Zq S,Tq n,Tq q,.slice ca cl cc,Iq rom] 29)).alloc (.cells #[Pq B,Pq R] 134)) w')=>zqp (TM.refl (hP.kept hb).y)
 have SR:=fun w=>zoy t.r w
 unfold RG.val at HY SR;have HP:=qH2 hP hL;clear h hP hL;unfold opW;go_enter func42,ntmps42;go_wp2_with fail;refine HX.mono ?_;rintro e w1 ⟨rfl,hb1⟩;have hQ1:=hQ.below hb1;have q1:=hQ1.cq 1;have l1:=hQ1.lt;go_upto_region 14 with fail;have hA:=Blk.new w1 #[Iq t.r.A,Iq t.r.X,Iq t.r.Y,Iq t.r.S,Iq t.r.P,Iq t.r.PC,Iq t.r.cyc,Tq t.r.jam] 37;have hQ2:=hQ1.alloc (.cells #[Iq t.r.A,Iq t.r.X,Iq t.r.Y,Iq t.r.S,Iq t.r.P,Iq t.r.PC,Iq t.r.cyc,Tq t.r.jam] 37);have hW2:Below ((w.alloc (.cells #[Iq 3,Iq a,Iq b,Zq S,Tq n,Tq q,.slice ca cl cc,Iq rom] 29)).alloc (.cells #[Pq B,Pq R] 134)).heap.size ((w.alloc (.cells #[Iq 3,Iq a,Iq b,Zq S,Tq n,Tq q,.slice ca cl cc,Iq rom] 29)).alloc (.cells #[Pq B,Pq R] 134)) (w1.alloc (.cells #[Iq t.r.A,Iq t.r.X,Iq t.r.Y,Iq t.r.S,Iq t.r.P,Iq t.r.PC,Iq t.r.cyc,Tq t.r.jam] 37)):=hb1.trans (qBa.mono hb1.size);generalize w1.alloc (.cells #[Iq t.r.A,Iq t.r.X,Iq t.r.Y,Iq t.r.S,Iq t.r.P,Iq t.r.PC,Iq t.r.cyc,Tq t.r.jam] 37)=W2 at*;generalize w1.heap.size=A0 at*;have HW2:=qH1 hW2;have x0:=hA.cq 0;have x1:=hA.cq 1;have x2:=hA.cq 2;have x3:=hA.cq 3;have x4:=hA.cq 4;have x5:=hA.cq 5;have x6:=hA.cq 6;have x7:=hA.cq 7;have lA:=hA.lt;have q2:=hQ2.cq 1;have lQ:=hQ2.lt;clear HX hb1 q1 l1 hA hQ hQ1 hQ2 hW2;go_region_held3 (fun w'=>w'.cell? (Aq A0 0)=some (Iq t.r.A)/\w'.cell? (Aq A0 1)=some (Iq t.r.X)/\w'.cell? (Aq A0 2)=some (Iq t.r.Y)/\w'.cell? (Aq A0 3)=some (Iq t.r.S)/\w'.cell? (Aq A0 4)=some (Iq t.r.P)/\w'.cell? (Aq A0 5)=some (Iq t.r.PC)/\w'.cell? (Aq A0 6)=some (Iq t.r.cyc)/\w'.cell? (Aq A0 7)=some (Tq t.r.jam)/\w'.cell? ⟨w.heap.size+1,1,none⟩=some (Pq R)) (go_keep) (first|(go_at_call 66;refine (HY _ HW2.out.drew).mono ?_;rintro e w5 ⟨rfl,hb5⟩;obtain ⟨cA,fA,sz5,bl5⟩:=jL hb5;have k0:=(cA _ 0 lA).trans x0;have k1:=(cA _ 1 lA).trans x1;have k2:=(cA _ 2 lA).trans x2;have k3:=(cA _ 3 lA).trans x3;have k4:=(cA _ 4 lA).trans x4;have k5:=(cA _ 5 lA).trans x5;have k6:=(cA _ 6 lA).trans x6;have k7:=(cA _ 7 lA).trans x7;have kq:=(cA _ 1 lQ).trans q2;have lA3:=Nat.lt_of_lt_of_le lA sz5;have lQ3:=Nat.lt_of_lt_of_le lQ sz5;have HB5:=qH1 bl5;clear hb5 cA fA bl5 sz5)|(go_at_call 65;refine (SR _).mono ?_;rintro e w6 ⟨rfl,hb4⟩;have j0:=(hb4.cell (p:=(Aq A0 0)) lA3).trans k0;have j1:=(hb4.cell (p:=(Aq A0 1)) lA3).trans k1;have j2:=(hb4.cell (p:=(Aq A0 2)) lA3).trans k2;have j3:=(hb4.cell (p:=(Aq A0 3)) lA3).trans k3;have j4:=(hb4.cell (p:=(Aq A0 4)) lA3).trans k4;have j5:=(hb4.cell (p:=(Aq A0 5)) lA3).trans k5;have j6:=(hb4.cell (p:=(Aq A0 6)) lA3).trans k6;have j7:=(hb4.cell (p:=(Aq A0 7)) lA3).trans k7;have jq:=(hb4.cell (p:=⟨w.heap.size+1,1,none⟩) lQ3).trans kq;have HB6:Hid (Bq W2 w6):=HB5.out.trans (hb4.mono HB5.out.size);clear hb4))
 all_goals
  have HE:Hid (Ran w base B R M vh w6):=by
   obtain ⟨hP,hL⟩:=HP.out;have h2:=hP.kept (HW2.out.trans (HB6.out.mono HW2.out.size));exact ⟨s,t,vh,h2,(Four.below hL).trans (Four.below (HW2.out.trans (HB6.out.mono HW2.out.size))),fun g hg=>.inl hg⟩
  clear HB6 HB5 HP HY SR HW2;go_wp2;go_ret;exact ⟨rfl,HE.out⟩
