import Derived.Deep.Cut
import Derived.Test.YtcgjliflnnklnaaGreatJ25
namespace Go.Proofs.YtcgjliflnnklnaaGreat
open Go.RowKit Tryz
set_option maxRecDepth 100000
set_option maxHeartbeats 20000000
theorem zp0{p:Prop} (q:p:=by
 rw [hft] at y3;go_wp2;go_meet;case rel=>exact ⟨by rw [<-HK.out,hft];rfl,rfl⟩):p:=q
theorem zp1{p:Prop} (q:p:=by
 rw [hwr] at y2 h3;go_wp2;go_meet;case rel=>exact ⟨by rw [h3];rfl,rfl⟩):p:=q
theorem zib{w:World}{base:Nat}{tag:Nat->Nat}{f:DF}{S:SB}(h:DS w base tag f S)(rn:Rn S.pc)(h5:S.pc.st≠5)(hr:S.re=true->S.rc.n<64)(hok:∀p∈S.pa,PatOk p)(h4:S.pa.length<=4)(hb:base<=w.heap.size):Cq 204 #[Pq f.Q] w S.cyc1.2.val fun w'=>Dn tag w base f.Q S.cyc1.1 w':=by
 have hQ:=h.blk.lt;have HY:Hid (S.cyc1=(({S with pc:=(S.pc.cycle S.nmi S.irq).1,rc:=if S.re=true then S.rc.put (S.pc.cycle S.nmi S.irq).2 else S.rc}:SB).settle,(S.pc.cycle S.nmi S.irq).2)):=rfl;generalize S.cyc1=SC at*;have HO:Hid (DS w base (yF w tag) f S):=h.old;clear h;go_enter func204,ntmps204;go_upto_region 1 with fail;have hB0:Blk (w.alloc (.cells #[Iq 0,Iq 0,Tq false,Tq false] 53)) w.heap.size #[Iq 0,Iq 0,Tq false,Tq false] 53:=Blk.new _ _ _;have hb0:Bq w (w.alloc (.cells #[Iq 0,Iq 0,Tq false,Tq false] 53)):=qBa;have hD:=HO.out.below hb0;have hsz:(w.alloc (.cells #[Iq 0,Iq 0,Tq false,Tq false] 53)).heap.size=w.heap.size+1:=World.size_alloc _ _;generalize w.alloc (.cells #[Iq 0,Iq 0,Tq false,Tq false] 53)=W at*;have HD:Hid (DS W base (yF w tag) f S/\Bq w W/\Blk W w.heap.size #[Iq 0,Iq 0,Tq false,Tq false] 53):=⟨hD,hb0,hB0⟩;have HZ:Hid (∀g,W.heap.size<=g->yF w tag g=0):=fun g hg=>xN zza
 have HR:Hid (∃b,(S.pc.cycle S.nmi S.irq).2=b):=⟨_,rfl⟩;have q0:W.cell? (Aq f.Q 0)=some (Pq f.R):=hD.blk.cell 0;have q2:W.cell? (Aq f.Q 2)=some (Tq S.nmi):=hD.blk.cell 2;have q3:W.cell? (Aq f.Q 3)=some (Tq S.irq):=hD.blk.cell 3;have HC:=fun w' (hw:Bq W w')=>zkZ (hD.below hw).mch (Nat.le_trans (Nat.le_trans hb hb0.size) hw.size) rn h5 S.nmi S.irq
 have HG:Hid ((0<=(S.pc.cycle S.nmi S.irq).2.addr/\(S.pc.cycle S.nmi S.irq).2.addr<65536)/\0<=(S.pc.cycle S.nmi S.irq).2.data/\(S.pc.cycle S.nmi S.irq).2.data<256):=zk0 hD.mch rn h5 _ _;have HF:Hid ((S.pc.cycle S.nmi S.irq).2.ft=true->(S.pc.cycle S.nmi S.irq).2.wr=false):=mft hD.mch rn h5 _ _;generalize S.pc.cycle S.nmi S.irq=r at*;obtain ⟨s',b⟩:=r;simp only at HC HG HY HR HF;unfold BusI.val at HC;obtain ⟨lR,lM, -,lh⟩:=hD.mch.lt;have nR:W.heap.size≠f.R:=by omega
 have nM:W.heap.size≠f.M:=by omega
 have nh:some W.heap.size≠f.vh.ownBlock:=fun e=>by have:=(lh _ e.symm).1;omega
 have mN:w.heap.size≠f.R/\w.heap.size≠f.M/\some w.heap.size≠f.vh.ownBlock:=by
  obtain ⟨a1,a2, -,a4⟩:=HO.out.mch.lt;exact ⟨by omega,by omega,fun e=>by have:=(a4 _ e.symm).1;omega⟩
 have hQW:=hD.blk.lt;have nQ:W.heap.size≠f.Q:=by omega
 have nQ':f.Q≠W.heap.size:=by omega
 have mR:f.Q≠f.R:=fun e=>by have:=hD.c.tQ;rw [e,hD.c.tR] at this;cases this
 have mM:f.Q≠f.M:=fun e=>by have:=hD.c.tQ;rw [e,hD.c.tM] at this;cases this
 have mh:some f.Q≠f.vh.ownBlock:=fun e=>by have:=hD.c.tQ;rw [hD.c.th _ e.symm] at this;cases this
 have hszl:w.heap.size<W.heap.size:=by omega
 clear hD hb0 hB0 hsz;go_cut [3,4] from 8 (fun s o wx=> ∃bB,s=Pq bB/\o=Tq true/\Gone (yF w tag) W base f.Q w.heap.size bB b {S with pc:=s'} wx)
 case first=>
  go_region_held3 (fun w'=>w'.cell? (Aq f.Q 0)=some (Pq f.R)/\w'.cell? (Aq f.Q 2)=some (Tq S.nmi)/\w'.cell? (Aq f.Q 3)=some (Tq S.irq)) (go_keep) (first|(go_at_call 63;refine (HC _ (by first|exact (Below.refl _ _).drew|exact qBa.drew)).mono ?_;rintro e w1 ⟨rfl,vh',hM,hT,ho⟩;have kk:=hT.block f.Q zzd mR mM mh;have p0:w1.cell? (Aq f.Q 0)=some (Pq f.R):=(World.cell?_of_block (a:=(Aq f.Q 0)) kk).trans (by first|exact q0|exact (World.cell?_alloc_past _ _ _ hQW).trans q0);have p2:w1.cell? (Aq f.Q 2)=some (Tq S.nmi):=(World.cell?_of_block (a:=(Aq f.Q 2)) kk).trans (by first|exact q2|exact (World.cell?_alloc_past _ _ _ hQW).trans q2);have p3:w1.cell? (Aq f.Q 3)=some (Tq S.irq):=(World.cell?_of_block (a:=(Aq f.Q 3)) kk).trans (by first|exact q3|exact (World.cell?_alloc_past _ _ _ hQW).trans q3);have n1:=World.new_ne w1 (Aq f.Q 0) p0;(try (have bb:Blk w1 W.heap.size #[Iq 0,Iq 0,Tq false,Tq false] 53:=(hT.block W.heap.size zzc nR nM nh).trans (Blk.new W _ _);obtain ⟨x0,x1,x2,x3,x4,x5⟩:=bb.four));have HH:Hid ((∃tag1,DS w1 base tag1 {f with vh:=vh'} {S with pc:=s'} /\Chg (yF w tag) tag1 W w1/\∀g,W.heap.size<=g->vh'.ownBlock≠some g->tag1 g=0)/\Mch w1 base f.R f.M vh' s'):=⟨zfy HD.out.1 (by first|exact (Below.refl _ _).drew|exact qBa.drew) HZ.out hM hT ho,hM⟩;clear hM))
  all_goals
   go_wp2;go_meet;case rel=>
    obtain ⟨⟨tag1,d,c,z⟩,hM⟩:=HH.out;first
     |exact ⟨w1.heap.size,rfl,rfl,zkt (f:={f with vh:=vh'}) d c z hszl (xN (Nat.le_refl _)) HD.out.2.2⟩
     |exact ⟨W.heap.size,rfl,rfl,zku (f:={f with vh:=vh'}) d c z hszl (xN (Nat.le_refl _)) HD.out.2.2 bb (fun e=>(ho _ e).elim (fun q=>nh q.symm) (fun q=>by simp at q;omega))⟩
 case rest=>
  obtain ⟨bB,rfl,rfl,hG⟩:=hcut;have HX:Hid (Gone (yF w tag) W base f.Q w.heap.size bB b {S with pc:=s'} wc):=hG;clear HC q0 q2 q3 nR nM nh mN nQ nQ' mR mM mh lR lM hQW;obtain ⟨tag1,f1,hfQ,d, -⟩:=hG;have q0:wc.cell? (Aq f.Q 0)=some (Pq f1.R):=by rw [<-hfQ];exact d.blk.cell 0
  have MF:=Uw d.mch;simp only at MF;obtain ⟨bt,hbt⟩:∃bt,(s'.st==0||s'.st==5)=bt:=⟨_,rfl⟩
  rw [hbt] at MF;have HB:Hid (s'.betw=bt):=hbt;clear d hfQ hbt;go_upto_if 29 with (first|(go_at_call 200;refine MF.mono ?_;rintro e w1 ⟨rfl,hw1⟩;subst w1));clear MF q0;go_cut [6] from 8 (fun _ wx=>Gone (yF w tag) W base f.Q w.heap.size bB b (({S with pc:=s'}:SB).settle) wx)
  case first=>
   cases bt
   ·have HE:Hid (Gone (yF w tag) W base f.Q w.heap.size bB b (({S with pc:=s'}:SB).settle) wc):=by
     have e:({S with pc:=s'}:SB).settle={S with pc:=s'}:=by unfold SB.settle;rw [if_neg (by show ¬s'.betw=true;rw [HB.out];decide)]
     show Gone _ _ _ _ _ _ _ _ _;rw [e];exact HX.out
    go_wp2;go_meet;case rel=>exact HE.out
   ·have hst:s'.st=0\/s'.st=5:=by have:=HB.out;unfold PC.betw at this;simpa using this
    go_wp2;go_loopw [6] (fun i wr=> ∃k:Nat,k<=S.pa.length/\i=Iq k/\Gone (yF w tag) W base f.Q w.heap.size bB b {S with pc:={s' with mem:=xw s'.mem (S.pa.take k)} } wr) (fun i _=>S.pa.length-(intOf i).toNat);case atStart=>exact ⟨0,by omega,rfl,HX.out⟩
    case round=>
     obtain ⟨k,hk,rfl,tag2,f2,hfQ,d,c2,bN,bb,tN,tB,ne⟩:=hrel;have HU:Hid (DS wr base tag2 f2 {S with pc:={s' with mem:=xw s'.mem (S.pa.take k)} } /\Chg (yF w tag) tag2 W wr/\Blk wr w.heap.size #[Iq 0,Iq 0,Tq false,Tq false] 53/\Blk wr bB #[Iq b.addr,Iq b.data,Tq b.wr,Tq b.ft] 53/\tag2 w.heap.size=0/\tag2 bB=0/\w.heap.size≠bB/\f2.Q=f.Q):=⟨d,c2,bN,bb,tN,tB,ne,hfQ⟩;have fz:wr.frozen? (Aq f.Q 4)=false:=by rw [<-hfQ];exact d.blk.free 4
     have qlt:f.Q<wr.heap.size:=by rw [<-hfQ];exact d.blk.lt
     by_cases hlt:k<S.pa.length
     ·obtain ⟨g,c,p,c3,ev,x0,x1,hI,np⟩:=zkv d k hlt;have q4:wr.cell? (Aq f.Q 4)=some (Sq g S.pa.length c):=by rw [<-hfQ, <-ev];exact d.blk.cell 4
      have hk1:(k:Int)<(S.pa.length:Int):=by omega
      have hk4:(k:Int)<=4:=by omega
      have hp8:=hok _ (List.getElem_mem hlt);obtain ⟨t,h0,hv,al,hj⟩:=d.mch;have hRQ:f2.Q≠f2.R:=fun e=>by have:=d.c.tQ;rw [e,d.c.tR] at this;cases this
      have hMQ:f2.Q≠f2.M:=fun e=>by have:=d.c.tQ;rw [e,d.c.tM] at this;cases this
      have RP:=zf6 (d.blk.cell 0) h0 rfl ⟨hRQ,hMQ⟩ S.pa[k].at_ hp8.a0 hp8.a1 S.pa[k].bytes p c3 (by have:=hp8.n8;simpa [Pat.bytes] using this) hI np;rw [hfQ] at RP;have HN:Hid (∀w1,TM f2.R f2.M (MV f2.M f2.vh t) (lay t.mem S.pa[k].at_ S.pa[k].bytes S.pa[k].bytes.length) wr w1->Gone (yF w tag) W base f.Q w.heap.size bB b {S with pc:={s' with mem:=xw s'.mem (S.pa.take (k+1))} } w1):=fun w1 hT=>by
       obtain ⟨d2,cc⟩:=d.laid hst hv al hj hT;rw [zbM _ _ _ hlt,show xw s'.mem (S.pa.take k)=t.mem from al.mem];exact Gone.move hfQ d2 c2 cc bN bb tN tB ne
      generalize S.pa[k].bytes.length=pl at*;generalize S.pa[k].at_=pt at*;clear HU d c2 bN bb tN tB ne hfQ hI np h0 hv al hj hRQ hMQ hp8 ev hst hok hr;go_wp2_with (first|(go_at_call 201;refine RP.mono ?_;rintro e w1 ⟨rfl,hT⟩;have HM:Hid (Gone (yF w tag) W base f.Q w.heap.size bB b {S with pc:={s' with mem:=xw s'.mem (S.pa.take (k+1))} } w1):=HN.out w1 hT;clear hT));go_roundw;case rel=>exact ⟨k+1,by omega,by go_num,HM.out⟩
      case measure=>simp [intOf];omega
     ·obtain ⟨a,c,ev,_⟩:=yG d.c.pat.own;have q4:wr.cell? (Aq f.Q 4)=some (.slice a S.pa.length c):=by rw [<-hfQ];exact (d.blk.cell 4).trans (congrArg some ev)
      have HM:Hid (Gone (yF w tag) W base f.Q w.heap.size bB b (({S with pc:=s'}:SB).settle) (wr.setCell (Aq f.Q 4) (Nq))):=by
       obtain ⟨d2,cc⟩:=d.nopat;rw [hfQ] at d2 cc;show Gone _ _ _ _ _ _ _ _ _;rw [show ({S with pc:=s'}:SB).settle={S with pc:={s' with mem:=xw s'.mem S.pa},pa:=[] } from by unfold SB.settle;rw [if_pos HB.out]];rw [List.take_of_length_le zza] at d2;exact Gone.move (f:={f2 with Q:=f.Q,vp:=Nq,ps:=[] }) rfl d2 c2 cc bN bb tN tB ne
      obtain rfl:k=S.pa.length:=by omega
      clear HU d c2 bN bb tN tB ne hfQ ev;go_wp2;go_meet;case rel=>exact HM.out
  case rest=>
   have HX2:Hid (Gone (yF w tag) W base f.Q w.heap.size bB b (({S with pc:=s'}:SB).settle) wc):=hcut;clear HX;obtain ⟨tag2,f2,hfQ,d,c2,bN,bb,tN,tB,ne⟩:=hcut;obtain ⟨eR,eC⟩:=zbN ({S with pc:=s'}:SB);have q7:wc.cell? (Aq f.Q 7)=some (Tq S.re):=by rw [<-hfQ];exact (d.blk.cell 7).trans (by rw [show (f2.cells (({S with pc:=s'}:SB).settle))[7]?=some (Tq (({S with pc:=s'}:SB).settle).re) from rfl,eR])
   go_upto_if 54 with fail;go_cut [7] from 8 (fun _ wx=>Gone (yF w tag) W base f.Q w.heap.size bB b SC.1 wx)
   case first=>
    cases hre:S.re
    ·have HE:Hid (Gone (yF w tag) W base f.Q w.heap.size bB b SC.1 wc):=by
      show Gone _ _ _ _ _ _ _ _ _;rw [HY.out,if_neg (by rw [hre];decide)];exact HX2.out
     clear d c2 bN bb;go_wp2;go_meet;case rel=>exact HE.out
    ·have hn:=hr hre;obtain ⟨x,ex,lx⟩:=qG HG.out.1;obtain ⟨y,ey,ly⟩:=qG HG.out.2;obtain ⟨y0,y1,y2,y3, -,yl⟩:=bb.four;rw [ex] at y0;rw [ey] at y1;obtain ⟨av,cv,ev,hav⟩:=yG d.c.rg;have hrg:=d.c.rg;rw [ev,eC] at hrg;have q8:wc.cell? (Aq f.Q 8)=some (.slice av S.rc.n cv):=by rw [<-hfQ];exact (d.blk.cell 8).trans (by rw [<-eC];exact congrArg some ev)
     have f8:wc.frozen? (Aq f.Q 8)=false:=by rw [<-hfQ];exact d.blk.free 8
     have qlt:f.Q<wc.heap.size:=by rw [<-hfQ];exact d.blk.lt
     have D4:=fun w=>zne x w zza
     have D2:=fun w=>zak y w zza
     have l4:=yz x 4;have l2:=yz y 2;obtain ⟨kd,hkd⟩:∃kd,VQ b=kd:=⟨_,rfl⟩
     have HT:Hid (xE b=zX x 4++zX y 2++ [kd]):=by show _=_;unfold xE;rw [ex,ey,hkd];rfl
     have HQ:Hid (DS wc base tag2 f2 (({S with pc:=s'}:SB).settle)/\Chg (yF w tag) tag2 W wc/\Blk wc w.heap.size #[Iq 0,Iq 0,Tq false,Tq false] 53/\Blk wc bB #[Iq b.addr,Iq b.data,Tq b.wr,Tq b.ft] 53/\tag2 w.heap.size=0/\tag2 bB=0/\w.heap.size≠bB/\f2.Q=f.Q):=⟨d,c2,bN,bb,tN,tB,ne,hfQ⟩;obtain ⟨i0,hi,hz0,hz1,hz2⟩:=info_parts zjW;generalize zX x 4=tx at*;generalize zX y 2=ty at*;rw [hre] at q7;have h3:kd=if b.wr=true then 119 else if b.ft=true then 102 else 114:=by
      have:=HF.out;rw [<-hkd];unfold VQ;cases h1:b.ft<;>cases h2:b.wr<;>simp_all
     have HV:Hid (f2.vr=.slice av S.rc.n cv/\((({S with pc:=s'}:SB).settle).rc=S.rc)):=⟨by rw [ev,eC],eC⟩;have hbw:base<=wc.heap.size:=Nat.le_trans hb (Nat.le_trans (Nat.le_of_lt hszl) c2.size);have nQv:∀g,(Value.slice av S.rc.n cv).ownBlock=some g->g≠f.Q:=fun g e q=>by
      have h1:=d.c.tr g (by rw [HV.out.1];exact e);rw [q, <-hfQ,d.c.tQ] at h1;cases h1
     have HS:Hid (∀ (wa w4:World) (g' cap':Nat),Bq wc wa->wa.grownBy w4 (Value.slice av S.rc.n cv).ownBlock->((Value.slice av S.rc.n cv).ownBlock=some g'\/g'=wa.heap.size)->w4.ownsRow base 9 1 (Sq g' (S.rc.n+1) cap') (S.rc.n+1) (qq S.rc++ [Zq (⟨tx.toArray⟩ ++ ⟨ty.toArray⟩ ++ ⟨#[kd]⟩)])->Gone (yF w tag) W base f.Q w.heap.size bB b SC.1 (w4.setCell (Aq f.Q 8) (Sq g' (S.rc.n+1) cap'))):=fun wa w4 g' cap' h1 h2 h3 h4=>by
      have e1:SC.1={(({S with pc:=s'}:SB).settle) with rc:=S.rc.put b}:=by rw [HY.out,if_pos hre];exact G9 ({S with pc:=s'}:SB) (S.rc.put b)
      rw [e1, <-hfQ];refine Gone.rec (rc:=S.rc.put b) d c2 bN bb tN tB ne h1 (by rw [HV.out.1];exact h2) (by rw [HV.out.1];exact h3) ?_;have e2:qq (S.rc.put b)=qq S.rc++ [Zq (⟨tx.toArray⟩ ++ ⟨ty.toArray⟩ ++ ⟨#[kd]⟩)]:=by
       unfold qq;rw [zfN _ _ hn,List.map_append,List.map_cons,List.map_nil,HT.out,show ((⟨tx.toArray⟩:ByteArray)++ ⟨ty.toArray⟩ ++ ⟨#[kd]⟩)=⟨(tx++ty++ [kd]).toArray⟩ from by rw [xh];exact xh _ [kd]]
      rw [e2];exact h4
     clear d c2 bN bb tN tB ne hfQ hav ev HX2 HG ex ey lx ly HF hkd HQ HT HY HR HV HD HO HZ HB eR eC lh hok hr h4 rn h5;obtain ⟨k1,hk1⟩:∃k1:UInt8,(if b.ft=true then 102 else 114)=k1:=⟨_,rfl⟩
     rw [hk1] at h3;have HK:Hid ((if b.ft=true then (102:UInt8) else 114)=k1):=hk1;clear hk1;obtain ⟨w5,h5w⟩:∃w5,w5=wc:=⟨_,rfl⟩
     subst wc;go_upto_if 56 with fail;go_cut [7] from 8 (fun s wx=>s=Zq ⟨#[k1]⟩/\wx=w5)
     case first=>
      cases hft:b.ft
      ·exact zp0
      ·exact zp0
     case rest=>
      obtain ⟨rfl,hw⟩:=hcut;subst wc;go_upto_if 58 with fail;go_cut [7] from 8 (fun s wx=>s=Zq ⟨#[kd]⟩/\wx=w5)
      case first=>
       cases hwr:b.wr
       ·exact zp1
       ·exact zp1
      case rest=>
       obtain ⟨rfl,hw⟩:=hcut;subst wc;clear h3 y2 y3;go_upto_region 15 with fail;go_region_law (first|(refine Vb rfl 97 (.tmp 65) (.const (Iq 4)) 3 3 rfl (Iq x) (Iq 4) rfl rfl Vc (Zq ⟨tx.toArray⟩) (D4 _) ?_)|(refine Vb rfl 97 (.tmp 68) (.const (Iq 2)) 3 3 rfl (Iq y) (Iq 2) rfl rfl Vc (Zq ⟨ty.toArray⟩) (D2 _) ?_)|(refine step_append_lies _ rfl (.tmp 63) (.tmp 73) 196 rfl base 9 i0 _ 1 16 JN hi hz0 hz1 hz2 rfl zzb (.slice av S.rc.n cv) S.rc.n (qq S.rc) rfl ?_ (Aq w5.heap.size 0) 1 1 [Zq (⟨tx.toArray⟩ ++ ⟨ty.toArray⟩ ++ ⟨#[kd]⟩)] rfl rfl ?_ ?_ zzb ?_ ?_ ?_ _ rfl ?_;exact hrg.alloc _;exact ye w5 _ _;(intro u hu;simp only [List.mem_singleton] at hu;subst hu;rfl);(unfold maxLen;omega);omega;(show base<=(w5.alloc _).heap.size;rw [World.size_alloc];omega);intro g' cap' w4 hown hgrow hat hlt;have HM:Hid (Gone (yF w tag) W base f.Q w.heap.size bB b SC.1 (w4.setCell (Aq f.Q 8) (Sq g' (S.rc.n+1) cap'))):=HS.out _ w4 g' cap' qBa.drew hgrow hat hown;have kq:=(hgrow.block f.Q zzd (fun e=>nQv _ e.symm rfl)).trans (Below.heap_alloc _ _ _ qlt);have r8:w4.cell? (Aq f.Q 8)=some (.slice av S.rc.n cv):=(World.cell?_of_block (a:=(Aq f.Q 8)) kq).trans q8;have rf:w4.frozen? (Aq f.Q 8)=false:=(World.frozen?_of_block (a:=(Aq f.Q 8)) kq).trans f8;have rl:f.Q<w4.heap.size:=World.block_lt_of_cell? _ _ r8;clear hown hgrow hat hlt))
       all_goals
        go_wp2_with fail;go_meet;case rel=>exact HM.out
   case rest=>
    obtain ⟨tag3,f3,hf3,d3,c3,bN3,bb3,tN3,tB3,ne3⟩:=hcut;obtain ⟨z0,z1,z2,z3,zf,zl⟩:=bN3.four;obtain ⟨y0,y1,y2,y3,yf,yl⟩:=bb3.four;have E2:Hid (SC.2=b):=by show _=_;rw [HY.out]
    have HE:Hid (∀w4:World,(∀g,g<wc.heap.size->g≠w.heap.size->w4.heap[g]?=wc.heap[g]?)->w4.os=wc.os->w4.tape=wc.tape->w4.output=wc.output->wc.heap.size<=w4.heap.size->Dn tag w base f.Q SC.1 w4):=fun w4 k1 k2 k3 k4 k5=>
     ⟨tag3,f3,hf3,d3.kept k5 (fun g h1 h2=>k1 g h1 (fun e=>h2 (by rw [e];exact tN3))) (fun _ _=>rfl),
      ⟨k2.trans (c3.os.trans HD.out.2.1.os),k3.trans (c3.tape.trans HD.out.2.1.tape),k4.trans (c3.output.trans HD.out.2.1.output),by have:=c3.size;omega,fun g h1 h2=>(k1 g (by have:=c3.size;omega) zza).trans ((c3.block g zza ((xM g h1).trans h2)).trans (HD.out.2.1.block g h1)),fun g h1 h2=>c3.tags g zza ((xM g h1).trans h2)⟩⟩
    clear d3 c3 bN3 bb3 HD HO HZ HY HR HX2 HG HF HB lh hok hr;go_wp2;refine bodyPost_ret (v:=b.val) (by simp [results,results204,go_sem,BusI.val,z0,z1,z2,z3]) rfl ⟨by rw [E2.out],HE.out _ (fun g _ h2=>(Below.heap_setCell _ _ _ _ h2).trans ((Below.heap_setCell _ _ _ _ h2).trans ((Below.heap_setCell _ _ _ _ h2).trans (Below.heap_setCell _ _ _ _ h2)))) rfl rfl rfl zzc⟩
