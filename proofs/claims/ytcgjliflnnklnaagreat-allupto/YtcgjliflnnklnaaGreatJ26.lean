import Derived.Deep.CutRange
import Derived.Test.YtcgjliflnnklnaaGreatJ25
import Derived.Test.YtcgjliflnnklnaaGreatDsLz
namespace Go.Proofs.YtcgjliflnnklnaaGreat
open Go.RowKit Tryz
set_option maxRecDepth 100000
set_option maxHeartbeats 20000000
def SB.patchI(S:SB)(a:List UInt8):SB × List UInt8:=match yP a with
 |none=>(S,eT 49)
 |some l=>if l.length<2 then (S,eT 49) else S.addPat (yo l) (l.drop 2)
theorem Y7{S:SB}{a:List UInt8}(h:a.length<4\/a.length%2≠0\/yP a=none):S.patchI a=(S,[69,49]):=by
 unfold SB.patchI;cases hq:yP a with
 |none=>rfl
 |some o=>
  have:=vu _ _ _ (Nat.le_refl _) hq;rw [hq] at h;have h:a.length<4\/a.length%2≠0:=by rcases h with h|h|h;exact .inl h;exact .inr h;cases h
  show (if o.length<2 then (S,eT 49) else _)=_;rw [if_pos zza];rfl
theorem vM(o:List UInt8):0<=yo o/\yo o<65536:=by
 unfold yo zn;have:=(o.getD 0 0).toNat_lt;have:=(o.getD 1 0).toNat_lt;omega
theorem GS(n:Nat)(a:Int)(bs:List UInt8):(xt n a bs).bytes=bs.map fun b=>(b.toNat:Int):=by
 unfold Pat.bytes xt;apply List.ext_getElem?;intro i;by_cases h:i<bs.length
 ·simp [h]
 ·simp [h]
theorem zjh(a:List UInt8)(i:Nat)(h:i+2<=a.length)(w:World):Sem.run prog (Instr.slice 9 (Zq ⟨a.toArray⟩) (some (Iq (i:Int))) (some (Iq ((i:Int)+2))) none) w=.ok (Zq ⟨[a.getD i 0,a.getD (i+1) 0].toArray⟩) w:=by
 rw [run_slice_string (P:=prog) w 9 ⟨a.toArray⟩ .i64 .i64 (i:Int) ((i:Int)+2) underlying9 zza zza (by show _<=((a.toArray.size:Nat):Int);simp;omega)];have e:(⟨a.toArray⟩:ByteArray).extract (i:Int).toNat ((i:Int)+2).toNat=⟨[a.getD i 0,a.getD (i+1) 0].toArray⟩:=by
  have q:((⟨a.toArray⟩:ByteArray).extract (i:Int).toNat ((i:Int)+2).toNat).data.toList=[a.getD i 0,a.getD (i+1) 0]:=by
   rw [ByteArray.data_extract,Array.toList_extract,List.extract_eq_take_drop];rw [show ((i:Int)+2).toNat-(i:Int).toNat=2 from by omega,Int.toNat_natCast];have h1:i<a.length:=by omega
   have h2:i+1<a.length:=by omega
   rw [List.drop_eq_getElem_cons h1,List.drop_eq_getElem_cons h2];rw [List.getD_eq_getElem?_getD,List.getD_eq_getElem?_getD,List.getElem?_eq_getElem h1,List.getElem?_eq_getElem h2];rfl
  have q2:((⟨a.toArray⟩:ByteArray).extract (i:Int).toNat ((i:Int)+2).toNat).data=[a.getD i 0,a.getD (i+1) 0].toArray:=Array.ext' (q.trans zzc);exact congrArg ByteArray.mk q2
 rw [e]
theorem zfY(a:List UInt8)(h:4<=a.length)(w:World):Sem.run prog (Instr.slice 9 (Zq ⟨a.toArray⟩) none (some (Iq 4)) none) w=.ok (Zq ⟨(a.take 4).toArray⟩) w:=by
 rw [run_slice_string_h (P:=prog) (ht:=underlying9) (h0:=by decide) (h2:=by show (4:Int)<=((a.toArray.size:Nat):Int);simp;omega)];have e:(⟨a.toArray⟩:ByteArray).extract 0 (4:Int).toNat=⟨(a.take 4).toArray⟩:=by
  have q:((⟨a.toArray⟩:ByteArray).extract 0 4).data.toList=a.take 4:=by
   rw [ByteArray.data_extract,Array.toList_extract,List.extract_eq_take_drop];simp
  exact congrArg ByteArray.mk (Array.ext' (q.trans zzc))
 rw [e]
theorem XY(l:List UInt8)(w:World)(h:l.length<=8):Cq 159 #[Zq ⟨l.toArray⟩] w (Iq (yJ l)) fun w'=>w'=w:=rhex ⟨l.toArray⟩ w (by show l.toArray.size<=8;simpa using h)
theorem zn8:(prog.info? 272).map (fun i=>(i.zero,i.size,i.bytes))=some (some (.agg #[Iq 0,Nq]),2,32):=by kernel_rfl
theorem zn9:prog.underlying 195=some (.slice 272):=by kernel_rfl
theorem zfZ(x:Int)(a:Option Addr)(n c:Nat):∀u∈ ([Iq x,.slice a n c]:List Value),u.oneCell'=true:=by
 intro u hu;simp at hu;rcases hu with rfl|rfl<;>rfl
theorem zf0(w:World)(a b:Value)(T:TypeId):∀j u,([a,b]:List Value)[j]?=some u->((w.alloc (.cells #[a,b] T)).drew).cell? (((Aq w.heap.size 0):Addr).add j)=some u:=
 World.news_of_block (w:=(w.alloc (.cells #[a,b] T)).drew) (cs:=#[a,b]) (t:=T) (fr:=(0,0)) (heap_alloc_new w _)
theorem zaW{S:SB}{p:Pat}(hb:S.pc.betw=true)(hp:S.pa=[]):SB.settle {S with pa:=S.pa++ [p] }={S with pc:={S.pc with mem:=lay S.pc.mem p.at_ p.bytes p.bytes.length} }:=by
 unfold SB.settle;rw [if_pos (show ({S with pa:=S.pa++ [p] }:SB).pc.betw=true from hb),QW];obtain ⟨_,_,_,_,_,_,_,_,_,_,_,_⟩:=S;simp only at hp;subst hp;rfl
theorem zqr{p:Prop} (q:p:=by
 clear h hi;go_enter func163,ntmps163;go_wp2;go_ret;exact ⟨rfl,HE.out _ (Below.refl _ _)⟩):p:=q
theorem zlT{w:World}{base:Nat}{tag:Nat->Nat}{f:DF}{S:SB}(h:DS w base tag f S)(hi:S.pc.betw=true->S.pa=[])(h4:S.pa.length<=4)(a:List UInt8)(ha:a.length<=200)(hb:base<=w.heap.size):Cq 163 #[Pq f.Q,Zq ⟨a.toArray⟩] w (Zq ⟨(S.patchI a).2.toArray⟩) fun w'=>Dn tag w base f.Q (S.patchI a).1 w':=by
 obtain ⟨i0,hi0,hz0,hz1,hz2⟩:=info_parts zdZ;have HD:Hid (DS w base tag f S):=h;have HE:Hid (∀w',Bq w w'->Dn tag w base f.Q S w'):=fun w' hw=>⟨tag,f,rfl,h.below hw,Chg.below tag hw⟩
 by_cases h1:a.length<4
 ·rw [Y7 (.inl h1)];have h1':(a.length:Int)<4:=by omega
  exact zqr
 ·have h1':¬(a.length:Int)<4:=by omega
  by_cases h2:a.length%2=0
  ·obtain ⟨m,hm⟩:∃m,a.length=2*m:=⟨a.length/2,by omega⟩
   have hm2:2<=m:=by omega
   have HM:Hid (a.length=2*m):=hm;have h2':(a.length:Int).tmod 2=0:=by rw [Int.tmod_eq_emod_of_nonneg zza];omega
   have h2q:(a.length:Int)%2=0:=by omega
   have S4:=zfY a zza;have H4:=fun w=>XY (a.take 4) w (by rw [List.length_take];omega)
   have HP:Hid (Prs a 2 (decide (0<=yJ (a.take 4))) []):=Prs.first zza;have HA:Hid (∀o,yP a=some o->2<=o.length/\yJ (a.take 4)=yo o):=fun o ho=>by
    have:=vu _ _ _ (Nat.le_refl _) ho;exact ⟨by omega,JJ ho zza⟩
   obtain ⟨x4,hx4⟩:∃x4,yJ (a.take 4)=x4:=⟨_,rfl⟩
   rw [hx4] at H4 HP HA;clear hx4 h hm h2;go_enter func163,ntmps163;go_wp2_with (first|(go_at_call 159;refine (H4 _).mono ?_;rintro e w1 ⟨rfl,hw1⟩;subst w1));go_loopw [6,7] (fun o i wr=> ∃(k:Nat) (B:List Int) (ok:Bool) (vb:Value),2<=k/\k<=m/\i=Iq ((2*k:Nat):Int)/\o=Tq ok/\Hid (Prs a k ok B)/\Hid (Bq w wr/\Blk wr w.heap.size #[Iq x4,vb] 272/\wr.ownsRow (w.heap.size+1) 3 1 vb B.length (xY B))) (fun _ i _=>2*m-(intOf i).toNat);case atStart=>exact ⟨2,[],_,_,by omega,hm2,rfl,rfl,HP.out,qBa,Blk.new _ _ _,World.ownsRow_nil _ _ _ _⟩
   case round=>
    obtain ⟨k,B,ok,vb,hk2,hkm,rfl,rfl,HPr,HW⟩:=hrel;by_cases hlt:k<m
    ·have hml:=HM.out;have hB:B.length<=200:=by have:=HPr.out.len;omega
     obtain ⟨j,hj⟩:∃j,2*k=j:=⟨_,rfl⟩
     have HN:=HPr.out.next zza hk2;rw [hj] at HN;have HJ:Hid (2*k=j):=hj;have SS:=zjh a j zza;have HX:=fun w=>XY [a.getD j 0,a.getD (j+1) 0] w zzc
     rw [hj];have hj1:(j:Int)<(a.length:Int):=by omega
     have hj2:(j:Int)<=200:=by omega
     generalize yJ [a.getD j 0,a.getD (j+1) 0]=z at*;generalize [a.getD j 0,a.getD (j+1) 0]=pr at*;have HN:Hid (Prs a (k+1) (ok&&decide (0<=z)) (B++ [z])):=HN;obtain ⟨av,cv,rfl,hav⟩:=yG HW.out.2.2;have hown:=HW.out.2.2;have p1:wr.cell? (Aq w.heap.size 1)=some (.slice av B.length cv):=HW.out.2.1.cell 1;have pf:=HW.out.2.1.free 1;have plt:=HW.out.2.1.lt;have HB1:Hid (w.heap.size<wr.heap.size):=plt;clear hj hml hav S4 H4 HP HA;go_upto_region 9 with (first|(go_at_call 159;refine (HX _).mono ?_;rintro e w1 ⟨rfl,hw1⟩;subst w1));go_cut [6] from 38 to 42 (fun o wx=>o=Tq (ok&&decide (0<=z))/\wx=wr)
     case first=>
      cases ok
      all_goals
       go_wp2;go_meet;case rel=>exact ⟨rfl,rfl⟩
     case rest=>
      obtain ⟨rfl,hwc⟩:=hcut;subst wc;go_wp2_with (first|(at_builtin;go_must (refine wpList_append_lies _ rfl (.tmp 44) (.tmp 46) 30 rfl (w.heap.size+1) 3 i0 (Iq 0) 1 8 zd0 hi0 hz0 hz1 hz2 rfl zzb (.slice av B.length cv) B.length (xY B) rfl (by exact (hown.alloc _)) (Aq wr.heap.size 0) 1 1 [Iq z] rfl rfl (ye _ _ _) (zd1 _) zzb zze zza zzd _ rfl ?_;intro g' cap' w1 hown' hgrow hat hlt';have kq:=(hgrow.block w.heap.size zzd (fun e=>by have:=(hown.lt _ e.symm).1;omega)).trans (Below.heap_alloc _ _ _ plt);have r1:w1.cell? (Aq w.heap.size 1)=some (.slice av B.length cv):=(World.cell?_of_block (a:=(Aq w.heap.size 1)) kq).trans p1;have rf:w1.frozen? (Aq w.heap.size 1)=false:=(World.frozen?_of_block (a:=(Aq w.heap.size 1)) kq).trans pf;have HO:Hid (Bq w w1/\Blk w1 w.heap.size #[Iq x4,.slice av B.length cv] 272/\w1.ownsRow (w.heap.size+1) 3 1 (Sq g' (B.length+1) cap') (B.length+1) (xY B++ [Iq z])):=⟨(HW.out.1.alloc (Nat.le_of_lt plt) _).grown hgrow zzd (fun k e=>by have:=(hown.lt k e).1;omega),HW.out.2.1.same kq,hown'⟩;clear hown' hgrow hat hlt' kq)));go_roundw;case rel=>
       refine ⟨k+1,B++ [z],_,Sq g' (B.length+1) cap',by omega,by omega,?_,rfl,HN.out,HO.out.1.setCell (Nat.le_refl _) _,HO.out.2.1.put 1 _,?_⟩
       ·rw [show 2*(k+1)=j+2 from by have:=HJ.out;omega];go_num
       ·rw [List.length_append,show xY (B++ [z])=xY B++ [Iq z] from by simp [xY]];exact zG HO.out.2.2 (fun g e=>Below.heap_setCell _ _ _ _ (fun q=>by have:=(HO.out.2.2.lt g e).1;have q:g=w.heap.size:=q;omega))
      case measure=>have:=HJ.out;have:=HM.out;simp [intOf];omega
    ·obtain rfl:k=m:=by omega
     have hT:a.take (2*k)=a:=List.take_of_length_le (by have:=HM.out;omega);have hok:=HPr.out.ok;have hval:=HPr.out.val;rw [hT] at hok hval;have hB:B.length<=200:=by have:=HPr.out.len;have:=HM.out;omega
     rw [<-HM.out];clear HP S4 H4 h1' h2' h2q h1 hk2 hkm hlt hm2 ha;cases hx:yP a with
     |none=>
      rw [hx] at hok;replace hok:ok=false:=hok;subst hok;have HR:Hid (S.patchI a=(S,[69,49])):=Y7 (.inr (.inr hx));clear hT hval hx hi;go_wp2;go_ret;exact ⟨by rw [HR.out];rfl,by rw [HR.out];exact HE.out _ HW.out.1⟩
     |some o=>
      rw [hx] at hok;replace hok:ok=true:=hok;subst hok;obtain ⟨ho2,rfl⟩:=HA.out o hx;have hval:=hval o hx;have HQ:Hid (S.patchI a=if B.length<1\/8<B.length then (S,[69,50]) else if S.pa.length=4 then (S,[69,52]) else (SB.settle {S with pa:=S.pa++ [xt S.pa.length (yo o) (o.drop 2)] },[79,75])):=by
       show _=_;unfold SB.patchI;rw [hx];show (if o.length<2 then (S,eT 49) else _)=_;rw [if_neg zza];unfold SB.addPat;rw [show B.length=(o.drop 2).length from by rw [hval,List.length_map]];rfl
      have HVal:Hid (B=(xt S.pa.length (yo o) (o.drop 2)).bytes):=by show _=_;rw [hval,GS]
      obtain ⟨av,cv,rfl,hav⟩:=yG HW.out.2.2;have p0:wr.cell? (Aq w.heap.size 0)=some (Iq (yo o)):=HW.out.2.1.cell 0;have p1:wr.cell? (Aq w.heap.size 1)=some (.slice av B.length cv):=HW.out.2.1.cell 1;have hno:=hid (vM o);have HI:Hid (S.pc.betw=true->S.pa=[]):=hi;clear hval HA hT hx hav hi ho2;by_cases hn1:B.length<1
      ·have HR:Hid (S.patchI a=(S,[69,50])):=by show _=_;rw [HQ.out,if_pos (.inl hn1)]
       have hn1':(B.length:Int)<1:=by omega
       go_wp2;go_ret;exact ⟨by rw [HR.out];rfl,by rw [HR.out];exact HE.out _ HW.out.1⟩
      ·have hn1':¬(B.length:Int)<1:=by omega
       by_cases hn8:8<B.length
       ·have HR:Hid (S.patchI a=(S,[69,50])):=by show _=_;rw [HQ.out,if_pos (.inr hn8)]
        have hn8':(8:Int)<(B.length:Int):=by omega
        go_wp2;go_ret;exact ⟨by rw [HR.out];rfl,by rw [HR.out];exact HE.out _ HW.out.1⟩
       ·have hn8':¬(8:Int)<(B.length:Int):=by omega
        have HR:Hid (S.patchI a=if S.pa.length=4 then (S,[69,52]) else (SB.settle {S with pa:=S.pa++ [xt S.pa.length (yo o) (o.drop 2)] },[79,75])):=by show _=_;rw [HQ.out,if_neg zza]
        have d:=HD.out.below HW.out.1;have q0:wr.cell? (Aq f.Q 0)=some (Pq f.R):=d.blk.cell 0;have MF:=Uw d.mch;obtain ⟨bt,hbt⟩:∃bt,(S.pc.st==0||S.pc.st==5)=bt:=⟨_,rfl⟩
        rw [hbt] at MF;have HB:Hid (S.pc.betw=bt):=hbt;clear hbt HQ;cases bt
        ·obtain ⟨ap,cp,ep,hap⟩:=yG d.c.pat.own;have q4:wr.cell? (Aq f.Q 4)=some (.slice ap S.pa.length cp):=(d.blk.cell 4).trans (congrArg some ep);have f4:wr.frozen? (Aq f.Q 4)=false:=d.blk.free 4;by_cases hp4:S.pa.length=4
         ·have HR2:Hid (S.patchI a=(S,[69,52])):=by show _=_;rw [HR.out,if_pos hp4]
          rw [hp4] at q4;clear d hp4 ep h4 hap HR;go_wp2_with (first|(go_at_call 200;refine MF.mono ?_;rintro e w1 ⟨rfl,hw1⟩;subst w1));go_ret;exact ⟨by rw [HR2.out];rfl,by rw [HR2.out];exact HE.out _ HW.out.1⟩
         ·have hp4':(S.pa.length:Int)<4:=by omega
          obtain ⟨i1,hi1,hy0,hy1,hy2⟩:=info_parts zn8;have HR2:Hid (S.patchI a=({S with pa:=S.pa++ [xt S.pa.length (yo o) (o.drop 2)] },[79,75])):=by
           show _=_;rw [HR.out,if_neg hp4];unfold SB.settle;rw [if_neg (by show ¬S.pc.betw=true;rw [HB.out];decide)]
          have hrow:=d.c.pat.own;rw [ep] at hrow;have qlt:f.Q<wr.heap.size:=d.blk.lt;have nQv:∀g,(Value.slice ap S.pa.length cp).ownBlock=some g->g≠f.Q:=fun g e q=>by
           have h1:=d.c.tp g (by rw [ep];exact e);rw [q,d.c.tQ] at h1;cases h1
          have hbw:base<=wr.heap.size:=Nat.le_trans hb HW.out.1.size;have HS:Hid (∀ (wa w4:World) (g' cap':Nat),Bq wr wa->wa.grownBy w4 (Value.slice ap S.pa.length cp).ownBlock->((Value.slice ap S.pa.length cp).ownBlock=some g'\/g'=wa.heap.size)->w4.ownsRow base 272 2 (Sq g' (S.pa.length+1) cap') (S.pa.length+1) (XA S.pa f.ps++ [Iq (yo o),.slice av B.length cv])->Dn tag w base f.Q {S with pa:=S.pa++ [xt S.pa.length (yo o) (o.drop 2)] } (w4.setCell (Aq f.Q 4) (Sq g' (S.pa.length+1) cap'))):=fun wa w4 g' cap' h1 h2 h3 h4=>by
           refine DS.pat (HD.out.old.below HW.out.1) ((Chg.old tag w).trans (Chg.below _ HW.out.1)) h1 (by rw [ep];exact h2) (by rw [ep];exact h3) (p:=xt S.pa.length (yo o) (o.drop 2)) (v:=.slice av B.length cv) h4 ?_ ?_
           ·rw [<-HVal.out];exact Ys HW.out.2.2 zza
           ·intro g e;have:=(HW.out.2.2.lt g e).1;exact ⟨xN zza,by omega⟩
          clear d hap ep HR HVal h4;go_upto_region 21 with (first|(go_at_call 200;refine MF.mono ?_;rintro e w1 ⟨rfl,hw1⟩;subst w1));go_region_law (first|(refine step_append_lies _ rfl (.tmp 80) (.tmp 82) 195 rfl base 272 i1 _ 2 32 zn9 hi1 hy0 hy1 hy2 rfl zzb (.slice ap S.pa.length cp) S.pa.length (XA S.pa f.ps) rfl ?_ (Aq wr.heap.size 0) 1 1 [Iq (yo o),.slice av B.length cv] rfl rfl ?_ ?_ zzb ?_ ?_ ?_ _ rfl ?_;exact hrow.alloc _;exact zf0 wr _ _ _;exact zfZ _ _ _ _;(unfold maxLen;omega);omega;(show base<=(wr.alloc _).heap.size;rw [World.size_alloc];omega);intro g' cap' w4 hown hgrow hat hlt;have HM:Hid (Dn tag w base f.Q {S with pa:=S.pa++ [xt S.pa.length (yo o) (o.drop 2)] } (w4.setCell (Aq f.Q 4) (Sq g' (S.pa.length+1) cap'))):=HS.out _ w4 g' cap' qBa.drew hgrow hat hown;have kq:=(hgrow.block f.Q zzd (fun e=>nQv _ e.symm rfl)).trans (Below.heap_alloc _ _ _ qlt);have r8:w4.cell? (Aq f.Q 4)=some (.slice ap S.pa.length cp):=(World.cell?_of_block (a:=(Aq f.Q 4)) kq).trans q4;have rf:w4.frozen? (Aq f.Q 4)=false:=(World.frozen?_of_block (a:=(Aq f.Q 4)) kq).trans f4;have rl:f.Q<w4.heap.size:=World.block_lt_of_cell? _ _ r8;clear hown hgrow hat hlt))
          all_goals
           go_wp2_with fail;go_ret;exact ⟨by rw [HR2.out];rfl,by rw [HR2.out];exact HM.out⟩
        ·have hst:S.pc.st=0\/S.pc.st=5:=by have:=HB.out;unfold PC.betw at this;simpa using this
         have hpa:=HI.out HB.out;obtain ⟨t,h0,hv,al,hj⟩:=d.mch;have hRQ:f.Q≠f.R:=fun e=>by have:=d.c.tQ;rw [e,d.c.tR] at this;cases this
         have hMQ:f.Q≠f.M:=fun e=>by have:=d.c.tQ;rw [e,d.c.tM] at this;cases this
         have hsz:=HW.out.1.size;obtain ⟨m1,m2, -, -⟩:=HD.out.mch.lt;have RP:=zf6 (d.blk.cell 0) h0 rfl ⟨hRQ,hMQ⟩ (yo o) hno.out.1 hno.out.2 B av cv zza (Zg HW.out.2.2 rfl) (fun x e=>by
          have:=HW.out.2.2.lt x.block (by rw [e];rfl);exact ⟨by omega,by omega,this.2⟩)
         have HN:Hid (∀w1,TM f.R f.M (MV f.M f.vh t) (lay t.mem (yo o) B B.length) wr w1->Dn tag w base f.Q (S.patchI a).1 w1):=fun w1 hT=>by
          obtain ⟨d2,cc⟩:=d.laid hst hv al hj hT;rw [HR.out,if_neg (by rw [hpa];decide)];show Dn tag w base f.Q (SB.settle _) w1;rw [zaW HB.out hpa, <-HVal.out,show S.pc.mem=t.mem from al.mem];exact ⟨_,_,rfl,d2,(Chg.below tag HW.out.1).trans cc⟩
         have HT:Hid ((S.patchI a).2=[79,75]):=by show _=_;rw [HR.out,if_neg (by rw [hpa];decide)]
         clear d h0 hv al hj hRQ hMQ hsz m1 m2 hpa hst HR HVal h4;go_wp2_with (first|(go_at_call 200;refine MF.mono ?_;rintro e w1 ⟨rfl,hw1⟩;subst w1)|(go_at_call 201;refine RP.mono ?_;rintro e w1 ⟨rfl,hT⟩;have HM:Hid (Dn tag w base f.Q (S.patchI a).1 w1):=HN.out w1 hT;clear hT));go_ret;exact ⟨by rw [HT.out];rfl,HM.out⟩
  ·rw [Y7 (.inr (.inl h2))];have h2':(a.length:Int).tmod 2=1:=by rw [Int.tmod_eq_emod_of_nonneg zza];omega
   have h2q:(a.length:Int)%2=1:=by omega
   exact zqr
theorem dig1(n:Nat)(w:World)(hn:n<=4611686018427387904):Calls prog 97 #[.int .i64 n,.int .i64 1] w fun e w'=>e=.returned (.string ⟨(zX n 1).toArray⟩)/\w'=w:=Yy n 1 w hn zzb
theorem dig6(n:Nat)(w:World)(hn:n<=4611686018427387904):Calls prog 97 #[.int .i64 n,.int .i64 6] w fun e w'=>e=.returned (.string ⟨(zX n 6).toArray⟩)/\w'=w:=Yy n 6 w hn zzb
theorem Dn.below{tag:Nat->Nat}{w w1 w2:World}{base Q:Nat}{S:SB}(h:Dn tag w base Q S w1)(hb:Below w1.heap.size w1 w2):Dn tag w base Q S w2:=by
 obtain ⟨t,f,e,d,c⟩:=h;exact ⟨t,f,e,d.below hb,c.trans (Chg.below t hb)⟩
theorem Dn.from{tag tag1:Nat->Nat}{w w1 w2:World}{base Q:Nat}{S:SB}(c:Chg tag tag1 w w1)(h:Dn tag1 w1 base Q S w2):Dn tag w base Q S w2:=by
 obtain ⟨t,f,e,d,c2⟩:=h;exact ⟨t,f,e,d,c.trans c2⟩
theorem IntsAt.drewN{w:World}{p:Option Addr}{l:List Int}(h:IntsAt w p l)(n:Nat):IntsAt (w.drewN n) p l:=fun i hi=>by
 obtain ⟨b,o,e,c⟩:=h i hi;exact ⟨b,o,e,(by simpa using c)⟩
structure GoR (F:Nat) (N:Int) (most:Int) (wh:Bool) (Gv:SB × List UInt8) (tag:Nat->Nat) (w:World) (base Q:Nat) (c d:Nat) (r:Int) (S1:SB) (wr:World):Prop where
 s:Dn tag w base Q S1 wr
 cF:c<=F
 dc:d<=c
 at_:(r= -1/\∃fu,GoP F N wh Gv S1 (most-if wh=true then (d:Int) else c) c fu)\/(∃why:Nat,r=why/\why<=4/\Gv=(S1,xD why c))
theorem DS.asks{w:World}{base:Nat}{tag:Nat->Nat}{f:DF}{S:SB}(h:DS w base tag f S):∃a c l,w.cell? ⟨f.Q,5,none⟩=some (.slice a l.length c)/\IntsAt w a l/\PtL l S.bp:=by
 obtain ⟨l,h1,h2⟩:=h.c.bk;obtain ⟨a,c,e,_⟩:=yG h1;exact ⟨a,c,l,by rw [<-e];exact h.blk.cell 5,Zg (e ▸ h1) rfl,h2⟩
theorem DS.asksW{w:World}{base:Nat}{tag:Nat->Nat}{f:DF}{S:SB}(h:DS w base tag f S):∃a c l,w.cell? ⟨f.Q,6,none⟩=some (.slice a l.length c)/\IntsAt w a l/\PtL l S.wp:=by
 obtain ⟨l,h1,h2⟩:=h.c.wt;obtain ⟨a,c,e,_⟩:=yG h1;exact ⟨a,c,l,by rw [<-e];exact h.blk.cell 6,Zg (e ▸ h1) rfl,h2⟩
theorem zj4{w:World}{base:Nat}{tag:Nat->Nat}{f:DF}{S:SB}(h:DS w base tag f S){N:Int}(hs:Sat S N)(hN:N<3000000000000000000)(most:Int)(l0:0<=most)(l1:most<=65535)(wh:Bool)(hb:base<=w.heap.size):Calls prog 166 #[.pointer (some ⟨f.Q,0,none⟩),.int .i64 most,.bool wh] w fun e w'=>
   e=.returned (.string ⟨(S.go (10*most.toNat+9) most wh 0).2.toArray⟩)/\Dn tag w base f.Q (S.go (10*most.toNat+9) most wh 0).1 w':=by
 have hF:10*most.toNat+9<=700000:=by omega
 have HP:Hid (GoP (10*most.toNat+9) N wh (S.go (10*most.toNat+9) most wh 0) S most 0 (10*most.toNat+9)):=GoP.first hs l0 l1;generalize S.go (10*most.toNat+9) most wh 0=Gv at*;generalize 10*most.toNat+9=F at*;have HD:Hid (Dn tag w base f.Q S w):=⟨tag,f,rfl,h,Chg.refl _ _⟩;clear h hs;go_enter func166,ntmps166;go_wp2_with fail;go_loopw [7,8,9] (fun x y z wr=> ∃(c d:Nat) (r:Int) (S1:SB),x=.int .i64 c/\y=.int .i64 d/\z=.int .i64 r/\GoR F N most wh Gv tag w base f.Q c d r S1 wr) (fun x _ z _=>2*(F-(intOf x).toNat)+if intOf z<0 then 1 else 0);case atStart=>exact ⟨0,0, -1,S,rfl,rfl,rfl,HD.out,by omega,by omega,.inl ⟨rfl,F,by have:=HP.out;cases wh<;>simpa using this⟩⟩
 case round=>
  obtain ⟨c,d,r,S1,rfl,rfl,rfl,hG⟩:=hrel;have hcF:(c:Int)<=700000:=by have:=hG.cF;omega
  have hdc:(d:Int)<=700000:=by have:=hG.cF;have:=hG.dc;omega
  rcases hG.at_ with ⟨rfl,fu,hP⟩|⟨why,rfl,h4,hv⟩
  ·have HC:Hid (c+fu<=F/\0<fu/\c<=F/\d<=c):=⟨by have:=hP.cf;omega,hP.pos,hG.cF,hG.dc⟩;have HG:Hid (Dn tag w base f.Q S1 wr):=hG.s;have HP1:Hid (GoP F N wh Gv S1 (most-if wh=true then (d:Int) else c) c fu):=hP;obtain ⟨tag1,f1,hfQ,ds,ch⟩:=hG.s;have HS:Hid (DS wr base tag1 f1 S1/\f1.Q=f.Q/\Chg tag tag1 w wr):=⟨ds,hfQ,ch⟩;have q0:wr.cell? ⟨f.Q,0,none⟩=some (.pointer (some ⟨f1.R,0,none⟩)):=by rw [<-hfQ];exact ds.blk.cell 0
   have MF:Calls prog 200 #[.pointer (some ⟨f1.R,0,none⟩)] wr fun e w'=>e=.returned (.bool (S1.pc.st==0||S1.pc.st==5))/\w'=wr:=Uw ds.mch
   obtain ⟨bt,hbt⟩:∃bt,(S1.pc.st==0||S1.pc.st==5)=bt:=⟨_,rfl⟩
   rw [hbt] at MF;have HB:Hid ((S1.pc.st==0||S1.pc.st==5)=bt):=hbt;have hl0:=hP.l0;clear hG hP ds hfQ ch hbt HP HD;go_upto_if 16 with fail;go_cut [10] from 13 to 17 (fun n wx=>n=.int .i64 (if wh=true then (d:Int) else c)/\wx=wr)
   case first=>
    cases wh
    all_goals
     go_wp2;go_meet;case rel=>exact ⟨rfl,rfl⟩
   case rest=>
    obtain ⟨rfl,hwc⟩:=hcut;subst wc;generalize hn:(if wh=true then (d:Int) else c)=n at*;have HN:Hid ((if wh=true then (d:Int) else c)=n):=hn;clear hn;by_cases hl:most<=n
    ·have HR:Hid (Gv=(S1,xD 0 (c:Int))):=HP1.out.stops (by unfold SB.look;rw [if_pos zza]);go_wp2_with (first|(go_at_call 200;refine MF.mono ?_;rintro e w1 ⟨rfl,hw1⟩;subst w1));go_roundw;case rel=>exact ⟨c,d,0,S1,rfl,rfl,rfl,HG.out,HC.out.2.2.1,HC.out.2.2.2,.inr ⟨0,rfl,by decide,HR.out⟩⟩
     case measure=>simp [intOf]
    ·have HL:Hid (most-n≠0):=by show ¬_=_;omega
     clear hl0;go_upto_region 18 with (first|(go_at_call 200;refine MF.mono ?_;rintro e w1 ⟨rfl,hw1⟩;subst w1));clear MF;have HJ:Hid (∃t,MAt wr f1.R f1.M (MV f1.M f1.vh t) t.mem/\t.r.PC=S1.pc.bpc/\t.r.jam=(S1.pc.st==5)):=by
      obtain ⟨t,h0,hv,al,hj⟩:=HS.out.1.mch;exact ⟨t,h0,al.way.beh.pc.symm,(qj _ _ al).symm⟩
     go_cut [47] from 48 to 79 (fun o wx=>o=.bool (decide (0<(c:Int)) &&S1.meets)/\Below wr.heap.size wr wx)
     case first=>
      cases bt
      ·have HM:Hid (S1.meets=false):=by show _=_;have:=HB.out;unfold SB.meets;simp at this;simp [this]
       go_quiet (fail);go_wp2;go_meet;case rel=>exact ⟨by rw [HM.out];simp,below_drewN (Below.refl _ _) _⟩
      ·by_cases hc:(0:Int)<c
       ·obtain ⟨a,cp,l,q5,hI,hL⟩:=HS.out.1.asks;rw [HS.out.2.1] at q5;have hl4:l.length<=100:=by rw [hL.len];have:=HP1.out.s.pts.1;omega
        have RA:∀n,Calls prog 202 #[.slice a l.length cp,.int .i64 S1.pc.bpc] (wr.drewN n) fun e w'=>e=.returned (.int .i64 (atI l S1.pc.bpc))/\w'=wr.drewN n:=fun n=>zlw l a cp S1.pc.bpc (wr.drewN n) hl4 (hI.drewN n)
        obtain ⟨t,h0,e1,e2⟩:=HJ.out;have c7:wr.cell? ⟨f1.R,7,none⟩=some (.int .i64 S1.pc.bpc):=by rw [<-e1];exact h0.c 7 zzb
        have c9:wr.cell? ⟨f1.R,9,none⟩=some (.bool (S1.pc.st==5)):=by rw [<-e2];exact h0.c 9 zzb
        have hk:=(UP l S1.pc.bpc).trans (hL.has S1.pc.bpc).symm;have HM:Hid (S1.meets=(!(S1.pc.st==5) &&decide (0<=atI l S1.pc.bpc))):=by
         show _=_;have hb:=HB.out;unfold SB.meets;rw [show decide (0<=atI l S1.pc.bpc)=S1.bp.has S1.pc.bpc from by rw [Bool.eq_iff_iff];simpa using hk];simp at hb;rcases hb with e|e<;>simp [e]
        generalize atI l S1.pc.bpc=k at*;generalize (S1.pc.st==5)=jm at*;have hc0:decide (0<(c:Int))=true:=decide_eq_true hc;have hc1:decide (0<c)=true:=decide_eq_true zza;have hc2:0<c:=by omega
        clear hk h0 e1 e2 hI hL hl4;cases hk0:decide (0<=k)<;>cases jm
        all_goals
         go_quiet ((go_at_call 202;with_reducible exact Calls.quiet_of_same (RA _)));go_wp2;go_meet;case rel=>exact ⟨by rw [HM.out,hc0,hk0];rfl,below_drewN (Below.refl _ _) _⟩
       ·have hc0:decide (0<(c:Int))=false:=decide_eq_false hc;have hc1:decide (0<c)=false:=decide_eq_false zza;have hc2:¬0<c:=by omega
        go_quiet (fail);go_wp2;go_meet;case rel=>exact ⟨by rw [hc0];rfl,below_drewN (Below.refl _ _) _⟩
     case rest=>
      obtain ⟨rfl,hbl⟩:=hcut;have HS2:Hid (DS wc base tag1 f1 S1/\f1.Q=f.Q/\Chg tag tag1 w wc):=⟨HS.out.1.below hbl,HS.out.2.1,HS.out.2.2.trans (Chg.below tag1 hbl)⟩;have HG2:Hid (Dn tag w base f.Q S1 wc):=⟨tag1,f1,HS2.out.2.1,HS2.out.1,HS2.out.2.2⟩;have HJ2:Hid (wc.cell? ⟨f1.R,9,none⟩=some (.bool (S1.pc.st==5))):=by
       obtain ⟨t,h0,hv,al,hj⟩:=HS2.out.1.mch;exact (h0.c 9 zzb).trans (by rw [qj _ _ al];rfl)
      clear HS HG HJ hbl q0;cases hmt:(decide (0<(c:Int)) &&S1.meets)
      ·have HM:Hid (¬(0<(c:Int)/\S1.meets=true)):=fun q=>by rw [Bool.and_eq_false_iff] at hmt;rcases hmt with z|z;exact absurd q.1 (by simpa using z);rw [q.2] at z;cases z
       have q0:wc.cell? ⟨f.Q,0,none⟩=some (.pointer (some ⟨f1.R,0,none⟩)):=by rw [<-HS2.out.2.1];exact HS2.out.1.blk.cell 0
       have c9:=HJ2.out;cases hj:(S1.pc.st==5)
       ·rw [hj] at c9;have H5:Hid (S1.pc.st≠5):=by show ¬_=_;simpa using hj
        go_upto_region 22 with fail;clear c9;obtain ⟨a,cp,q8⟩:∃a cp,wc.cell? ⟨f.Q,8,none⟩=some (.slice a S1.rc.n cp):=by
         obtain ⟨a,cp,e,_⟩:=yG HS2.out.1.c.rg;exact ⟨a,cp,by rw [<-HS2.out.2.1];exact (HS2.out.1.blk.cell 8).trans (congrArg some e)⟩
        have q7:wc.cell? ⟨f.Q,7,none⟩=some (.bool S1.re):=by rw [<-HS2.out.2.1];exact HS2.out.1.blk.cell 7
        have hrn:=HP1.out.s.rc.2;go_cut [89] from 90 to 101 (fun o wx=>o=.bool (S1.re&&decide (64<=(S1.rc.n:Int)))/\wx=wc)
        case first=>
         cases hre:S1.re
         all_goals
          rw [hre] at q7;go_wp2;go_meet;case rel=>exact ⟨by rw [hre];rfl,rfl⟩
        case rest=>
         obtain ⟨rfl,hwc⟩:=hcut;subst hwc;cases hfu:(S1.re&&decide (64<=(S1.rc.n:Int)))
         ·have HQ:Hid (¬(S1.re=true/\S1.rc.n=64)):=fun q=>by rw [q.1,q.2] at hfu;cases hfu
          have HK:Hid (S1.look (most-n) c=none):=by
           show _=_;unfold SB.look;rw [if_neg HL.out,if_neg HM.out,if_neg H5.out,if_neg HQ.out]
          have CY:=zib HS2.out.1 HP1.out.s.rn H5.out (fun e=>by have:=HP1.out.s.rc.2;have:¬S1.rc.n=64:=fun z=>HQ.out ⟨e,z⟩;omega) HP1.out.s.pa.1 HP1.out.s.pa.2 (Nat.le_trans hb HS2.out.2.2.size);rw [HS2.out.2.1] at CY;have HY:Hid ((S1.cyc1.1.wp.has S1.cyc1.2.addr=true->Gv=(S1.cyc1.1,xD 2 (c+1)))/\(S1.cyc1.1.wp.has S1.cyc1.2.addr=false->GoP F N wh Gv S1.cyc1.1 (if wh=false\/S1.cyc1.1.pc.betw=true then most-n-1 else most-n) (c+1) (fu-1))):=HP1.out.goes HK.out zza;have HW4:Hid (S1.cyc1.1.wp=S1.wp/\S1.wp.n<=4):=⟨by unfold SB.cyc1 SB.settle;split<;>rfl,HP1.out.s.pts.2⟩;unfold BusI.val at CY;generalize S1.cyc1=SC at*;have HCh:=hid HS2.out.2.2;clear q0 q7 q8;go_upto_region 9 with fail;go_cut [12] from 23 to 24 (fun b wx=> ∃g,b=.pointer (some ⟨g,0,none⟩)/\wx.cell? ⟨g,0,none⟩=some (.int .i64 SC.2.addr)/\Dn tag w base f.Q SC.1 wx)
          case first=>
           go_wp2_with (first|(go_at_call 204;refine CY.mono ?_;rintro e w1 ⟨rfl,hD⟩;have HD:=hid (Dn.from HCh.out hD);clear hD));go_meet;case rel=>exact ⟨w1.heap.size,rfl,by go_cell,HD.out.below ((Below.refl _ _).alloc (Nat.le_refl _) _)⟩
          case rest=>
           obtain ⟨g,rfl,cb,tag2,f2,hfQ,d2,ch2⟩:=hcut;have q0:wc.cell? ⟨f.Q,0,none⟩=some (.pointer (some ⟨f2.R,0,none⟩)):=by rw [<-hfQ];exact d2.blk.cell 0
           have MF:Calls prog 200 #[.pointer (some ⟨f2.R,0,none⟩)] wc fun e w'=>e=.returned (.bool (SC.1.pc.st==0||SC.1.pc.st==5))/\w'=wc:=Uw d2.mch
           obtain ⟨b2,hb2⟩:∃bt,(SC.1.pc.st==0||SC.1.pc.st==5)=bt:=⟨_,rfl⟩
           rw [hb2] at MF;have HB2:Hid (SC.1.pc.betw=b2):=hb2;obtain ⟨a,cp,l,q6,hI,hL⟩:=d2.asksW;rw [hfQ] at q6;have hl4:l.length<=100:=by rw [hL.len,HW4.out.1];have:=HW4.out.2;omega
           have RA:∀n,Calls prog 202 #[.slice a l.length cp,.int .i64 SC.2.addr] (wc.drewN n) fun e w'=>e=.returned (.int .i64 (atI l SC.2.addr))/\w'=wc.drewN n:=fun n=>zlw l a cp SC.2.addr (wc.drewN n) hl4 (hI.drewN n)
           have HA:Hid (decide (0<=atI l SC.2.addr)=SC.1.wp.has SC.2.addr):=by show _=_;rw [Bool.eq_iff_iff];simpa using (UP l SC.2.addr).trans (hL.has SC.2.addr).symm
           generalize atI l SC.2.addr=k at*;have HD:=hid (show Dn tag w base f.Q SC.1 wc from ⟨tag2,f2,hfQ,d2,ch2⟩);clear d2 ch2 hfQ hI hL hl4 hb2 HS2 HG2 HJ2 CY;go_upto_if 32 with (first|(go_at_call 200;refine MF.mono ?_;rintro e w1 ⟨rfl,hw1⟩;subst w1));go_cut [8] from 32 to 34 (fun y wx=>y=.int .i64 ((if b2=true then d+1 else d:Nat):Int)/\wx=wc)
           case first=>
            cases b2
            all_goals
             go_wp2;go_meet;case rel=>exact ⟨rfl,rfl⟩
           case rest=>
            obtain ⟨rfl,hwc⟩:=hcut;subst hwc;have HE:Hid ((if b2=true then d+1 else d)<=c+1/\(if wh=false\/b2=true then most-n-1 else most-n)=most-if wh=true then ((if b2=true then d+1 else d:Nat):Int) else ((c+1:Nat):Int)):=by
             refine ⟨?_,?_⟩
             ·have:=HC.out.2.2.2;split<;>omega
             ·rw [<-HN.out,zb8];cases b2<;>simp
            generalize (if b2=true then d+1 else d)=d' at*;cases hk0:decide (0<=k)
            ·have HZ:Hid (GoP F N wh Gv SC.1 (most-if wh=true then (d':Int) else ((c+1:Nat):Int)) ((c+1:Nat):Int) (fu-1)):=by
              have:=HY.out.2 (by rw [<-HA.out,hk0]);rw [HB2.out,HE.out.2] at this;exact this
             go_upto_region 14 with fail;go_quiet ((go_at_call 202;with_reducible exact Calls.quiet_of_same (RA _)));go_wp2;go_roundw;case rel=>exact ⟨c+1,d', -1,SC.1,by go_num,rfl,rfl,HD.out.below (below_drewN (Below.refl _ _) _),by have:=HC.out.1;have:=HC.out.2.1;omega,HE.out.1,.inl ⟨rfl,fu-1,HZ.out⟩⟩
             case measure=>have:=HC.out.1;have:=HC.out.2.1;simp [intOf];omega
            ·have HZ:Hid (Gv=(SC.1,xD 2 ((c+1:Nat):Int))):=HY.out.1 (by rw [<-HA.out,hk0]);go_upto_region 14 with fail;go_quiet ((go_at_call 202;with_reducible exact Calls.quiet_of_same (RA _)));go_wp2;go_roundw;case rel=>exact ⟨c+1,d',2,SC.1,by go_num,rfl,rfl,HD.out.below (below_drewN (Below.refl _ _) _),by have:=HC.out.1;have:=HC.out.2.1;omega,HE.out.1,.inr ⟨2,rfl,by decide,HZ.out⟩⟩
             case measure=>have:=HC.out.1;have:=HC.out.2.1;simp [intOf];omega
         ·have HR:Hid (Gv=(S1,xD 4 (c:Int))):=HP1.out.stops (by
           unfold SB.look;simp only [Bool.and_eq_true,decide_eq_true_eq] at hfu;rw [if_neg HL.out,if_neg HM.out,if_neg H5.out,if_pos ⟨hfu.1,by omega⟩])
          go_wp2;go_roundw;case rel=>exact ⟨c,d,4,S1,rfl,rfl,rfl,HG2.out,HC.out.2.2.1,HC.out.2.2.2,.inr ⟨4,rfl,by decide,HR.out⟩⟩
          case measure=>simp [intOf]
       ·rw [hj] at c9;have HR:Hid (Gv=(S1,xD 3 (c:Int))):=HP1.out.stops (by
         unfold SB.look;rw [if_neg HL.out,if_neg HM.out,if_pos (by simpa using hj)])
        go_wp2;go_roundw;case rel=>exact ⟨c,d,3,S1,rfl,rfl,rfl,HG2.out,HC.out.2.2.1,HC.out.2.2.2,.inr ⟨3,rfl,by decide,HR.out⟩⟩
        case measure=>simp [intOf]
      ·have HR:Hid (Gv=(S1,xD 1 (c:Int))):=HP1.out.stops (by
        unfold SB.look;simp only [Bool.and_eq_true,decide_eq_true_eq] at hmt;rw [if_neg HL.out,if_pos hmt])
       go_wp2;go_roundw;case rel=>exact ⟨c,d,1,S1,rfl,rfl,rfl,HG2.out,HC.out.2.2.1,HC.out.2.2.2,.inr ⟨1,rfl,by decide,HR.out⟩⟩
       case measure=>simp [intOf]
  ·have HV:Hid (Gv.2=[84]++zX why 1++zX c 6/\Dn tag w base f.Q Gv.1 wr):=⟨by rw [hv,zb7 _ _ h4],by rw [hv];exact hG.s⟩;have hw0:¬(why:Int)<0:=by omega
   have D1:=fun w=>dig1 why w zza
   have D6:=fun w=>dig6 c w zza
   have e1:=yz why 1;have e6:=yz c 6;generalize zX why 1=t1 at*;generalize zX c 6=t6 at*;clear hG hv;go_wp2_with (first|(go_at_call 97;first|(with_reducible refine (D1 _).mono ?_);(rintro e w1 ⟨rfl,hw1⟩);subst w1|(with_reducible refine (D6 _).mono ?_);(rintro e w1 ⟨rfl,hw1⟩);subst w1));go_ret;exact ⟨by rw [HV.out.1];simp only [xh];rfl,HV.out.2⟩
theorem zm0(s:ByteArray)(w:World)(hl:s.size<=1000):Calls prog 159 #[Zq s] w fun e w'=>(∃z,e=.returned (Iq z))/\w'=w:=by
 go_enter func159,ntmps159;go_wp2;go_loop [3,4] (fun n i=> ∃(j:Nat) (m:Int),j<=s.size/\n=Iq m/\i=Iq j) (fun _ i=>s.size-(intOf i).toNat);case atStart=>exact ⟨0,0,by omega,rfl,rfl⟩
 case round=>
  obtain ⟨j,m,hj,rfl,rfl⟩:=hrel;by_cases hlt:j<s.size
  ·have c8:(s[j].toNat:Int)<256:=by have:=s[j].toNat_lt;omega
   go_wp2;all_goals first
    |(go_round;(case rel=>exact ⟨j+1,_,by omega,rfl,by go_num⟩);(case measure=>simp [intOf];omega))
    |(go_ret;exact ⟨⟨_,rfl⟩,rfl⟩)
  ·go_wp2;go_ret;exact ⟨⟨_,rfl⟩,rfl⟩
theorem zeA(l:List UInt8)(w:World)(h:l.length<=1000):Calls prog 159 #[Zq ⟨l.toArray⟩] w fun e w'=>(∃z,e=.returned (Iq z))/\w'=w:=zm0 ⟨l.toArray⟩ w (by show l.toArray.size<=1000;simpa using h)
theorem ZF(c:UInt8)(r:List UInt8)(w:World):Sem.run prog (Instr.slice 9 (Zq ⟨(c::r).toArray⟩) none (some (Iq 1)) none) w=.ok (Zq ⟨[c].toArray⟩) w:=by
 rw [run_slice_string_h (P:=prog) (ht:=underlying9) (h0:=by decide) (h2:=by show (1:Int)<=(((c::r).toArray.size:Nat):Int);simp;omega)];have e:(⟨(c::r).toArray⟩:ByteArray).extract 0 (1:Int).toNat=⟨[c].toArray⟩:=by
  have q:((⟨(c::r).toArray⟩:ByteArray).extract 0 1).data.toList=[c]:=by
   rw [ByteArray.data_extract,Array.toList_extract,List.extract_eq_take_drop];simp
  exact congrArg ByteArray.mk (Array.ext' (q.trans zzc))
 rw [e]
section
variable {w w1:World} {base:Nat} {tag:Nat->Nat} {f:DF} {S:SB}
def YU(tag:Nat->Nat)(v:Value)(k:Nat):Nat->Nat:=fun g=>if v.ownBlock=some g then k else tag g
theorem Qn{v u:Value}{k:Nat}{w:World}{tag:Nat->Nat}(hu:∀g,u.ownBlock=some g->tag g=k)(h:v=u\/ ∀g,v.ownBlock=some g->w.heap.size<=g):∀g,g<w.heap.size->YU tag v k g=tag g:=fun g hg=>by
 unfold YU;split
 ·next e=>
  rcases h with rfl|h
  ·exact (hu g e).symm
  ·have:=h g e;omega
 ·rfl
theorem DS.brk(h:DS w base tag f S)(hb:Bq w w1)(v:Value)(l:List Int)(P:Pts)(hr:w1.ownsRow base 3 1 v l.length (xY l))(hP:PtL l P)(hv:v=f.vb\/ ∀g,v.ownBlock=some g->w.heap.size<=g):Dn tag w base f.Q {S with bp:=P} (w1.setCell (Aq f.Q 5) v):=by
 have ht:=Qn (w:=w) h.c.tb hv;have d:=DC.put (i:=5) (v:=v) h hb ht;exact ⟨YU tag v 7,{f with vb:=v},rfl,⟨(h.blk.below hb).put 5 v,d.mch,d.sc,d.pat,⟨l,zG hr (fun g e=>Below.heap_setCell _ _ _ _ (fun q=>by
  have h1:YU tag v 7 g=7:=if_pos e;have h2:=d.tQ;rw [q] at h1;exact absurd (h1.symm.trans h2) zzb)),hP⟩,d.wt,d.rg,d.ls,d.lo,d.tQ,d.tZ,d.tR,d.tM,d.th,d.tp,fun g e=>if_pos e,d.tw,d.tr,d.tl,d.ts⟩,Chg.put h hb ht⟩
theorem DS.wat(h:DS w base tag f S)(hb:Bq w w1)(v:Value)(l:List Int)(P:Pts)(hr:w1.ownsRow base 3 1 v l.length (xY l))(hP:PtL l P)(hv:v=f.vw\/ ∀g,v.ownBlock=some g->w.heap.size<=g):Dn tag w base f.Q {S with wp:=P} (w1.setCell (Aq f.Q 6) v):=by
 have ht:=Qn (w:=w) h.c.tw hv;have d:=DC.put (i:=6) (v:=v) h hb ht;exact ⟨YU tag v 8,{f with vw:=v},rfl,⟨(h.blk.below hb).put 6 v,d.mch,d.sc,d.pat,d.bk,⟨l,zG hr (fun g e=>Below.heap_setCell _ _ _ _ (fun q=>by
  have h1:YU tag v 8 g=8:=if_pos e;have h2:=d.tQ;rw [q] at h1;exact absurd (h1.symm.trans h2) zzb)),hP⟩,d.rg,d.ls,d.lo,d.tQ,d.tZ,d.tR,d.tM,d.th,d.tp,d.tb,fun g e=>if_pos e,d.tr,d.tl,d.ts⟩,Chg.put h hb ht⟩
theorem DS.on(h:DS w base tag f S)(b:Bool):Dn tag w base f.Q {S with re:=b} (w.setCell (Aq f.Q 7) (Tq b)):=by
 have d:=DC.put (i:=7) (v:=Tq b) (tag':=tag) h (Below.refl _ _) (fun _ _=>rfl);exact ⟨tag,f,rfl,⟨h.blk.put 7 _,d.mch,d.sc,d.pat,d.bk,d.wt,d.rg,d.ls,d.lo,d.tQ,d.tZ,d.tR,d.tM,d.th,d.tp,d.tb,d.tw,d.tr,d.tl,d.ts⟩,Chg.put h (Below.refl _ _) (fun _ _=>rfl)⟩
theorem DS.pins(h:DS w base tag f S)(n i:Bool):Dn tag w base f.Q {S with nmi:=n,irq:=i} ((w.setCell (Aq f.Q 2) (Tq n)).setCell (Aq f.Q 3) (Tq i)):=by
 have d:=DC.put (i:=2) (v:=Tq n) (tag':=tag) h (Below.refl _ _) (fun _ _=>rfl);have h2:DS (w.setCell (Aq f.Q 2) (Tq n)) base tag f {S with nmi:=n}:=⟨h.blk.put 2 _,d.mch,d.sc,d.pat,d.bk,d.wt,d.rg,d.ls,d.lo,d.tQ,d.tZ,d.tR,d.tM,d.th,d.tp,d.tb,d.tw,d.tr,d.tl,d.ts⟩;have d2:=DC.put (i:=3) (v:=Tq i) (tag':=tag) h2 (Below.refl _ _) (fun _ _=>rfl);exact ⟨tag,f,rfl,⟨h2.blk.put 3 _,d2.mch,d2.sc,d2.pat,d2.bk,d2.wt,d2.rg,d2.ls,d2.lo,d2.tQ,d2.tZ,d2.tR,d2.tM,d2.th,d2.tp,d2.tb,d2.tw,d2.tr,d2.tl,d2.ts⟩,(Chg.put h (Below.refl _ _) (fun _ _=>rfl)).trans (Chg.put h2 (Below.refl _ _) (fun _ _=>rfl))⟩
end
def sizeC(c:UInt8):Nat:=if c=109 then 6 else if c=98\/c=100\/c=118\/c=120\/c=115\/c=105 then 4 else if c=116\/c=112 then 1 else 0
theorem Yu{S:SB}{c:UInt8}{r:List UInt8}(h:c=119\/2<=r.length):S.doI (c::r)=match yP r with
  |none=>(S,eT 49)
  |some l=>if l.length<2 then (S,eT 49) else S.doW c (yo l) (l.drop 2):=by
 unfold SB.doI;rw [if_neg zzc];have k:∀x:UInt8,x≠119->c::r≠ [x]:=fun x hx e=>by
  injection e with e1 e2;rcases h with h|h
  ·exact hx (e1.symm.trans h)
  ·rw [e2] at h;simp at h
 have k2:∀x y:UInt8,x≠119->c::r≠ [x,y]:=fun x y hx e=>by
  injection e with e1 e2;rcases h with h|h
  ·exact hx (e1.symm.trans h)
  ·rw [e2] at h;simp at h
 rw [if_neg (k _ zzb),if_neg (k _ zzb),if_neg (k2 _ _ zzb),if_neg (k2 _ _ zzb),if_neg (k2 _ _ zzb),if_neg (k2 _ _ zzb),if_neg (k2 _ _ zzb),if_neg (k2 _ _ zzb)];rfl
theorem zm1(S:SB)(r:List UInt8):S.doI (119::r)=S.patchI r:=by
 rw [Yu (.inl rfl)];rfl
theorem zeB{S:SB}{c:UInt8}{r:List UInt8}(hw:c≠119)(h1:c::r≠ [103])(h2:c::r≠ [113])(h:r.length≠sizeC c\/sizeC c=0\/yJ r<0\/(c=116/\1<yJ r)\/(c=112/\3<yJ r)):S.doI (c::r)=(S,[69,49]):=by
 by_cases hr:2<=r.length
 ·rw [Yu (.inr hr)];cases hx:yP r with
  |none=>rfl
  |some l=>
   have hl:=vu _ _ _ (Nat.le_refl _) hx;have hneg:¬yJ r<0:=by rw [vJ (n:=l.length) hl,hx];simp
   show (if l.length<2 then (S,eT 49) else _)=_;by_cases hl2:l.length<2
   ·rw [if_pos hl2];rfl
   ·rw [if_neg hl2];have hd:(l.drop 2).length=l.length-2:=List.length_drop;unfold SB.doW;rw [if_neg hw];unfold sizeC at h;by_cases c1:c=109
    ·rw [if_pos c1] at h;rw [if_neg (fun q=>by rw [c1] at h;simp at h;have:=q.2;omega)];by_cases hz:0<(l.drop 2).length
     ·rw [if_pos hz];rfl
     ·subst c1;rw [if_neg hz];simp [eT]
    ·rw [if_neg (fun q=>c1 q.1)];rw [if_neg c1] at h;by_cases hz:0<(l.drop 2).length
     ·rw [if_pos hz];rfl
     ·rw [if_neg hz];have h4:r.length=4:=by omega
      by_cases c2:c=98\/c=100\/c=118\/c=120\/c=115\/c=105
      ·rw [if_pos c2] at h;exfalso;rcases c2 with rfl|rfl|rfl|rfl|rfl|rfl<;>simp [h4] at h<;>omega
      ·simp only [not_or] at c2;rw [if_neg c2.1,if_neg c2.2.1,if_neg c2.2.2.1,if_neg c2.2.2.2.1,if_neg c2.2.2.2.2.1,if_neg c2.2.2.2.2.2];rfl
 ·unfold SB.doI;rw [if_neg zzc,if_neg h1,if_neg h2];match r,hr with
  | [],_=>simp [yP,eT]
  | [x],_=>
   have e1:=GR x;have k:∀ (y z:UInt8) (n:Int),yJ [z]=n->(c=y->yJ [x]≠n)->c::[x]≠ [y,z]:=fun y z n hz hn e=>by
    injection e with e1 e2;injection e2 with e2;exact hn e1 (by rw [e2];exact hz)
   have hs:c=116->sizeC c=1:=fun e=>by subst e;rfl
   have hs2:c=112->sizeC c=1:=fun e=>by subst e;rfl
   have p16:c=116->yJ [x]<0\/1<yJ [x]:=fun e=>by
    rcases h with q|q|q|q|q
    ·rw [hs e] at q;simp at q
    ·rw [hs e] at q;cases q
    ·exact .inl q
    ·exact .inr q.2
    ·rw [e] at q;exact absurd q.1 zzb
   have p12:c=112->yJ [x]<0\/3<yJ [x]:=fun e=>by
    rcases h with q|q|q|q|q
    ·rw [hs2 e] at q;simp at q
    ·rw [hs2 e] at q;cases q
    ·exact .inl q
    ·rw [e] at q;exact absurd q.1 zzb
    ·exact .inr q.2
   rw [if_neg (k 116 48 0 zzf (fun e=>by have:=p16 e;omega)),if_neg (k 116 49 1 zzf (fun e=>by have:=p16 e;omega)),if_neg (k 112 48 0 zzf (fun e=>by have:=p12 e;omega)),if_neg (k 112 49 1 zzf (fun e=>by have:=p12 e;omega)),if_neg (k 112 50 2 zzf (fun e=>by have:=p12 e;omega)),if_neg (k 112 51 3 zzf (fun e=>by have:=p12 e;omega))];simp [yP,eT]
  |_::_::_,hr=>simp at hr
