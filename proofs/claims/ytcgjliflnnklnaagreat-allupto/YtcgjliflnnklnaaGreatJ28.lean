import Derived.Test.YtcgjliflnnklnaaGreatJ27
import Derived.Test.YtcgjliflnnklnaaGreatJ25
import Derived.Test.YtcgjliflnnklnaaGreatJ01
import Derived.Test.YtcgjliflnnklnaaGreatJ24
import Derived.Test.YtcgjliflnnklnaaGreatJ19
namespace Go.Proofs.YtcgjliflnnklnaaGreat
open Go.RowKit Tryz
set_option maxRecDepth 100000
set_option maxHeartbeats 20000000
def vO(S:SB):Prop:=S.pc.betw=true->S.pa=[]
theorem qZ(S:SB):vO S.settle:=by
 unfold vO SB.settle;split
 ·intro _;rfl
 ·next h=>intro q;exact absurd q h
theorem za3(f:Nat):∀ (S:SB) (l:Int) (wh:Bool) (c:Int),vO S->vO (S.go f l wh c).1:=by
 induction f with
 |zero=>intro S l wh c h;exact h
 |succ f ih=>
  intro S l wh c h;unfold SB.go;split
  ·exact h
  ·split
   ·exact qZ _
   ·exact ih _ _ _ _ (qZ _)
theorem Kb{S:SB}(h:vO S)(a:Int)(bs:List UInt8):vO (S.addPat a bs).1:=by
 unfold SB.addPat;repeat' split
 ·exact h
 ·exact h
 ·exact qZ _
theorem zdA{S:SB}(h:vO S)(c:UInt8)(n:Int)(m:List UInt8):vO (S.doW c n m).1:=by
 unfold SB.doW;repeat' split
 all_goals first
  |exact h
  |exact Kb h _ _
  |exact za3 _ _ _ _ _ h
  |(unfold SB.goIns;split<;>first|exact h|exact za3 _ _ _ _ _ h)
theorem zdB{S:SB}(h:vO S)(b:List UInt8):vO (S.doI b).1:=by
 unfold SB.doI;repeat' split
 all_goals first
  |exact h
  |exact zdA h _ _ _
theorem Kc{S:SB}(h:vO S)(p:Pk):vO (S.ans p).1:=by
 unfold SB.ans;repeat' split
 all_goals first
  |exact h
  |exact zdB h _
section
variable {S:SB} {N:Int}
theorem Sat.ans(h:Sat S N)(hN:N<3000000000000000000)(p:Pk)(hl:p.body.length<=200)(hrp:S.rp.length<=80):Sat (S.ans p).1 (N+1000000):=by
 have h0:=h.cycs;obtain ⟨w,B,s,hc,hS,hI⟩:=h;obtain ⟨e,w',g,cap,s',_,_,_,_,hT,hS',hI'⟩:=Z1 (VY (Tn.refl hc) hS hI zza hN p hl hrp);exact ⟨w',B,s',hT.c,hS',hI'⟩
theorem Sat.scan(h:Sat S N)(l:List UInt8)(hl:l.length<=4000000):Sat {S with sc:=yA S.sc l} N:=by
 obtain ⟨w,B,s,hc,hS,hI⟩:=h;have hT:Tn B s w (w.alloc (.cells (zS l).toArray 5)):=(Tn.refl hc).alloc _;have hB:zy (w.alloc (.cells (zS l).toArray 5)) w.heap.size 0 l:=fun i hi=>by
  rw [Nat.zero_add];exact (World.cell?_alloc_at _ _ _ _ rfl).trans (by simp [zS,hi])
 have hp:=jX l S.sc;obtain ⟨e,w',v,_,F⟩:=Z1 (jO B w.heap.size 0 l.length S.sc l _ (hS.scs hT) zza hB (by have:=hc.lt;omega) zza);obtain ⟨s1,T1,V1⟩:=scanned hT hS F;exact ⟨w',B,s1,T1.c,V1,hI.like rfl rfl⟩
theorem Yf(ps:List Pk)(k:Nat)(hk:k<ps.length):S.answers (ps.take (k+1))=(((S.answers (ps.take k)).1.ans ps[k]).1,(S.answers (ps.take k)).2++((S.answers (ps.take k)).1.ans ps[k]).2):=by
 rw [List.take_succ_eq_append_getElem hk,Yw]
end
section
variable {w w1:World} {base:Nat} {tag:Nat->Nat} {f:DF} {S:SB}
theorem DS.scan(h:DS w base tag f S){v:Value}{c:Sc}{ps:List Pk}(F:FedR f.Z w w1 v c ps):DS w1 base tag f {S with sc:=c} /\Chg tag tag w w1:=by
 have hk:∀g,g<w.heap.size->tag g≠2->w1.heap[g]?=w.heap[g]?:=fun g h1 h2=>F.grown.block g h1 (fun e=>by injection e with e;exact h2 (by rw [e];exact h.c.tZ))
 obtain ⟨m1,m2,m3,m4⟩:=h.c.mch.lt;obtain ⟨lb,b1,b2⟩:=h.c.bk;obtain ⟨lw,e1,e2⟩:=h.c.wt;have own:∀ {te size n:Nat} {v:Value} {xs:List Value} {m:Nat},w.ownsRow base te size v n xs->(∀g,v.ownBlock=some g->tag g=m+3)->∀g,v.ownBlock=some g->w1.heap[g]?=w.heap[g]?:=fun o hm g e=>hk g (o.lt g e).2 (by rw [hm g e];omega)
 refine ⟨⟨h.blk.same (hk _ h.blk.lt (by rw [h.c.tQ];decide)),h.c.mch.same (hk _ m1 (by rw [h.c.tR];decide)) (hk _ m2 (by rw [h.c.tM];decide)) (fun g e=>hk g (m4 g e).1 (by rw [h.c.th g e];decide)),F.sc,h.c.pat.same (own h.c.pat.own h.c.tp) (fun i v hv g e=>hk g (h.c.pat.blk hv g e) (by rw [h.c.ts i v hv g e];decide)),⟨lb,zG b1 (own b1 h.c.tb),b2⟩,⟨lw,zG e1 (own e1 h.c.tw),e2⟩,zG h.c.rg (own h.c.rg h.c.tr),?_,h.c.lo,h.c.tQ,h.c.tZ,h.c.tR,h.c.tM,h.c.th,h.c.tp,h.c.tb,h.c.tw,h.c.tr,h.c.tl,h.c.ts⟩,⟨F.grown.os,F.grown.tape,F.grown.output,F.grown.size,fun g h1 h2=>hk g h1 zza,fun _ _ h=>h⟩⟩;rcases h.c.ls with q|q
 ·exact .inl q
 ·exact .inr (q.same F.grown.size (fun g e=>hk g (q.blk g e) (by rw [h.c.tl g e];decide)))
theorem DS.told(h:DS w base tag f S)(hb:Bq w w1)(rp:List UInt8)(g cap:Nat)(hg:w.heap.size<=g)(hg1:g<w1.heap.size)(hB:zy w1 g 0 (zH S.due rp))(hcap:(zH S.due rp).length<=cap)(hbase:base<=w.heap.size):Dn tag w base f.Q {S with rp:=rp,bg:=true,due:=S.due+1} (((w1.setCell (Aq f.Q 11) (Sq g (zH S.due rp).length cap)).setCell (Aq f.Q 10) (Tq true)).setCell (Aq f.Q 9) (Iq ((S.due+1).toNat:Int))):=by
 have hQ:=h.blk.lt;have ht:∀b,b<w.heap.size->(fun b=>if b=g then 10 else tag b) b=tag b:=fun b hb=>if_neg zza
 have k3:∀b,b≠f.Q->(((w1.setCell (Aq f.Q 11) (Sq g (zH S.due rp).length cap)).setCell (Aq f.Q 10) (Tq true)).setCell (Aq f.Q 9) (Iq ((S.due+1).toNat:Int))).heap[b]?=w1.heap[b]?:=fun b hb=>(Below.heap_setCell _ _ _ _ hb).trans ((Below.heap_setCell _ _ _ _ hb).trans (Below.heap_setCell _ _ _ _ hb))
 have d:=h.c.kept (w':=((w1.setCell (Aq f.Q 11) (Sq g (zH S.due rp).length cap)).setCell (Aq f.Q 10) (Tq true)).setCell (Aq f.Q 9) (Iq ((S.due+1).toNat:Int))) (tag':=fun b=>if b=g then 10 else tag b) hQ (by simpa using hb.size) (fun b h1 _ h3=>(k3 b (fun e=>h3 (by rw [e];exact h.c.tQ))).trans (hb.block b h1)) ht;refine ⟨fun b=>if b=g then 10 else tag b,{f with vl:=Sq g (zH S.due rp).length cap},rfl,⟨(((h.blk.below hb).put 11 _).put 10 _).put 9 _,d.mch,d.sc,d.pat,d.bk,d.wt,d.rg,.inr ?_,d.lo,d.tQ,d.tZ,d.tR,d.tM,d.th,d.tp,d.tb,d.tw,d.tr,fun b e=>?_,d.ts⟩,⟨hb.os,hb.tape,hb.output,by simpa using hb.size,fun b h1 h2=>(k3 b (fun e=>by rw [e,h.c.tQ] at h2;cases h2)).trans (hb.block b h1),fun b h1 h2=>(ht b h1).trans h2⟩⟩
 ·show LB _ base _ (zH (S.due+1-1) rp);rw [show S.due+1-1=S.due from by simp];exact ⟨g,cap,rfl,hcap,by omega,by simpa using hg1,fun i hi=>(World.cell?_of_block (a:=⟨g,0+i,none⟩) (k3 g zza)).trans (hB i hi)⟩
 ·injection e with e;exact if_pos e.symm
end
theorem Hn{S:SB}{N:Int}(h:Sat S N)(hi:vO S)(hr:S.rp.length<=80)(ps:List Pk)(hb:∀p∈ps,p.body.length<=200)(k:Nat)(hk:k<=ps.length)(hN:N+1000000*(k:Int)<=3000000000000000000):Sat (S.answers (ps.take k)).1 (N+1000000*(k:Int))/\vO (S.answers (ps.take k)).1/\(S.answers (ps.take k)).1.rp.length<=80/\(S.answers (ps.take k)).2.length<=201*k:=by
 induction k with
 |zero=>exact ⟨by simpa [SB.answers] using h,hi,hr,by simp [SB.answers]⟩
 |succ k ih=>
  obtain ⟨h1,h2,h3,h4⟩:=ih zza zza;rw [Yf ps k zza];have e:=h1.ans zza ps[k] (hb _ (List.getElem_mem _)) h3;rw [show N+1000000*(k:Int)+1000000=N+1000000*((k+1:Nat):Int) from by omega] at e;refine ⟨e,Kc h2 _,zam _ _ h3,?_⟩;have:=(UG _ ps[k] h3).2;rw [List.length_append];omega
structure DP (tag:Nat->Nat) (w:World) (base Q:Nat) (w1:World) (pg pb:Nat) (pk:Array Value) (S:SB) (out:List UInt8) (v:Value) (wx:World) (tag1:Nat->Nat) (f1:DF):Prop where
 q:f1.Q=Q
 d:DS wx base tag1 f1 S
 c:Chg tag tag1 w wx
 p:∀j,wx.cell? (Aq pg j)=w1.cell? (Aq pg j)
 pt:tag1 pg=0
 pl:pg<w1.heap.size
 o:wx.ownsRow w1.heap.size 5 1 v out.length (zS out)
 ot:∀g,v.ownBlock=some g->tag1 g=0
 tn:∀g,wx.heap.size<=g->tag1 g=0
 z:w1.heap.size<=wx.heap.size
 z0:w.heap.size<=w1.heap.size
 b:Blk wx pb pk 152
 bt:tag1 pb=0
def DQ(tag:Nat->Nat)(w:World)(base Q:Nat)(w1:World)(pg pb:Nat)(pk:Array Value)(S:SB)(out:List UInt8)(v:Value)(wx:World):Prop:= ∃tag1 f1,DP tag w base Q w1 pg pb pk S out v wx tag1 f1
section
variable {tag tag1:Nat->Nat} {w w1 wx wy:World} {base Q pg pb:Nat} {pk:Array Value} {S:SB} {out:List UInt8} {v:Value} {f1:DF}
theorem DP.below(h:DP tag w base Q w1 pg pb pk S out v wx tag1 f1)(hb:Bq wx wy):DP tag w base Q w1 pg pb pk S out v wy tag1 f1:=
 ⟨h.q,h.d.below hb,h.c.trans (Chg.below tag1 hb),fun j=>(hb.cell (p:=(Aq pg j)) (Nat.lt_of_lt_of_le h.pl h.z)).trans (h.p j),h.pt,h.pl,zG h.o (fun g e=>hb.block g (h.o.lt g e).2),h.ot,fun g hg=>h.tn g (Nat.le_trans hb.size hg),Nat.le_trans h.z hb.size,h.z0,h.b.below hb,h.bt⟩
theorem DQ.below(h:DQ tag w base Q w1 pg pb pk S out v wx)(hb:Bq wx wy):DQ tag w base Q w1 pg pb pk S out v wy:=by
 obtain ⟨t,f,h⟩:=h;exact ⟨t,f,h.below hb⟩
theorem DP.more(h:DP tag w base Q w1 pg pb pk S out v wx tag1 f1){L:List UInt8}{g' cap' n:Nat}(hg:wx.grownBy wy v.ownBlock)(hat:v.ownBlock=some g'\/g'=wx.heap.size)(hn:n=(out++L).length)(hown:wy.ownsRow w1.heap.size 5 1 (Sq g' n cap') n (zS out++zS L))(hpb:v.ownBlock≠some pb):DP tag w base Q w1 pg pb pk S (out++L) (Sq g' n cap') wy tag1 f1:=by
 subst hn;have k:∀g,g<wx.heap.size->v.ownBlock≠some g->wy.heap[g]?=wx.heap[g]?:=fun g h1 h2=>hg.block g h1 (fun e=>h2 e.symm)
 have hz:=hg.size;have hpv:v.ownBlock≠some pg:=fun e=>by have:=(h.o.lt pg e).1;have:=h.pl;omega
 refine ⟨h.q,h.d.kept hz (fun g h1 h2=>k g h1 (fun e=>h2 (h.ot g e))) (fun _ _=>rfl),⟨hg.os.trans h.c.os,hg.tape.trans h.c.tape,hg.output.trans h.c.output,Nat.le_trans h.c.size hz,fun g h1 h2=>(k g (Nat.lt_of_lt_of_le h1 h.c.size) (fun e=>by have:=(h.o.lt g e).1;have:=h.z0;omega)).trans (h.c.block g h1 h2),h.c.tags⟩,fun j=>(World.cell?_of_block (a:=(Aq pg j)) (k pg (Nat.lt_of_lt_of_le h.pl h.z) hpv)).trans (h.p j),h.pt,h.pl,?_,fun g e=>?_,fun g h1=>h.tn g (Nat.le_trans hz h1),Nat.le_trans h.z hz,h.z0,h.b.same (k pb h.b.lt hpb),h.bt⟩
 ·rw [Za];exact hown
 ·injection e with e;rcases hat with q|q
  ·exact h.ot g (by rw [q, <-e])
  ·exact h.tn g (by have e:g'=g:=e;omega)
theorem DP.did(h:DP tag w base Q w1 pg pb pk S out v wx tag1 f1){S':SB}(hd:Dn tag1 wx base Q S' wy):DQ tag w base Q w1 pg pb pk S' out v wy:=by
 obtain ⟨t2,f2,e2,d2,c2⟩:=hd;have hpg:=Nat.lt_of_lt_of_le h.pl h.z;have tg:∀g,g<wx.heap.size->tag1 g=0->yF wy t2 g=0:=fun g h1 h2=>(xM g (Nat.lt_of_lt_of_le h1 c2.size)).trans (c2.tags g h1 h2)
 exact ⟨yF wy t2,f2,e2,d2.old,(h.c.trans c2).trans (Chg.old t2 wy),fun j=>(World.cell?_of_block (a:=(Aq pg j)) (c2.block pg hpg h.pt)).trans (h.p j),tg pg hpg h.pt,h.pl,zG h.o (fun g e=>c2.block g (h.o.lt g e).2 (h.ot g e)),fun g e=>tg g (h.o.lt g e).2 (h.ot g e),fun g hg=>xN hg,Nat.le_trans h.z c2.size,h.z0,h.b.same (c2.block pb h.b.lt h.bt),tg pb h.b.lt h.bt⟩
end
theorem zdV(d:UInt8):((d.toNat:Int)+1).tmod 256=((d+1).toNat:Int):=by
 have:=d.toNat_lt;rw [Int.tmod_eq_emod_of_nonneg zza,UInt8.toNat_add];simp
theorem zdW(d:UInt8):((d.toNat:Int)-1)%256=((d-1).toNat:Int):=by
 have:=d.toNat_lt;rw [UInt8.toNat_sub];simp;omega
theorem Um(x:Int):∀u∈[Uq x],u.oneCell'=true:=by
 exact zl5
section
end
section
theorem Vn(S:SB):S.settle.due=S.due:=by
 unfold SB.settle;split<;>rfl
theorem Kt(S:SB):S.cyc1.1.due=S.due:=Vn S.ran.1
theorem yK{α:Type}{p:Prop}[Decidable p]{a b:SB × α}{d:UInt8}(h1:a.1.due=d)(h2:b.1.due=d):(if p then a else b).1.due=d:=by split<;>assumption
theorem zd4(f:Nat):∀ (S:SB) (l:Int) (wh:Bool) (k:Int),(S.go f l wh k).1.due=S.due:=by
 induction f with
 |zero=>intro S l wh k;rfl
 |succ f ih=>
  intro S l wh k;rw [SB.go];cases S.look l k with
  |some why=>rfl
  |none=>
   refine yK (Kt S) ?_;exact (ih S.cyc1.1 _ wh (k+1)).trans (Kt S)
theorem Ho(S:SB)(a:Int)(bs:List UInt8):(S.addPat a bs).1.due=S.due:=
 yK rfl (yK rfl (Vn {S with pa:=S.pa++ [xt S.pa.length a bs] }))
theorem zgL(S:SB)(b:UInt8)(n:Int)(m:List UInt8):(S.doW b n m).1.due=S.due:=
 yK (Ho S n m) (yK rfl (yK rfl (yK rfl (yK rfl (yK rfl (yK rfl (yK (zd4 _ S n false 0) (yK (yK rfl (zd4 _ S n true 0)) rfl))))))))
theorem zgM(S:SB)(b:List UInt8):(S.doI b).1.due=S.due:=by
 refine yK rfl (yK rfl (yK rfl (yK rfl (yK rfl (yK rfl (yK rfl (yK rfl (yK rfl ?_))))))));cases yP b.tail with
 |none=>rfl
 |some l=>exact yK rfl (zgL S _ _ _)
end
def FdR(tag:Nat->Nat)(w:World)(base Q:Nat)(R:SB × List UInt8)(e:Ending)(w':World):Prop:=
 ∃v tag' f',e=.returned v/\f'.Q=Q/\DS w' base tag' f' R.1/\Chg tag tag' w w'/\w'.ownsRow w.heap.size 5 1 v R.2.length (zS R.2)/\∀g,v.ownBlock=some g->tag' g=0
theorem zl4{p:Prop} (q:p:=by
 obtain ⟨t,f',b1,b2,b3,b4,b5,b6,b7,b8,b9⟩:=HEND.out _ _ ⟨_,_,HM.out⟩;exact ⟨k+1,t,f',by omega,by go_num,b1,b2,b3,b4,b5,b6,b7,b8,b9⟩):p:=q
theorem zlS{w:World}{base:Nat}{tag:Nat->Nat}{f:DF}{S:SB}{N:Int}(h:DS w base tag f S)(hs:Sat S N)(hN:N<=2000000000000000000)(hi:vO S)(hrp:S.rp.length<=80)(hb:base<=w.heap.size)(bb off cap:Nat)(l:List UInt8)(hl:l.length<=4000000)(hcap:l.length<=cap)(hB:zy w bb off l)(hne:bb≠f.Z):Calls prog 76 #[.pointer (some ⟨f.Q,0,none⟩),.slice (some ⟨bb,off,none⟩) l.length cap] w (FdR tag w base f.Q (S.feed l)):=by
 obtain ⟨i0,hi0,hz0,hz1,hz2⟩:=info_parts xP;have hpl:=jX l S.sc;have hpb:=ZZ l S.sc;have hO:DS w base (yF w tag) f S:=h.old;have SF:=GW f.Z bb off cap S.sc l w h.c.sc zza hcap hB hne zza;have SCN:=fun (w1:World) (v:Value) (F:FedR f.Z w w1 v (yA S.sc l) (zR S.sc l))=>hO.scan F
 have AOK:=fun k hk hN=>Hn (hs.scan l hl) (show vO {S with sc:=yA S.sc l} from hi) hrp (zR S.sc l) hpb k hk hN
 have c1:w.cell? ⟨f.Q,1,none⟩=some (.pointer (some ⟨f.Z,0,none⟩)):=h.blk.cell 1;unfold SB.feed;generalize zR S.sc l=ps at*;generalize yA S.sc l=sc1 at*;have HB:=hid hpb;have HA:=hid AOK;have HSC:=hid SCN;have HC:Hid (Chg tag (yF w tag) w w/\∀g,w.heap.size<=g->yF w tag g=0):=⟨Chg.old tag w,fun g hg=>xN hg⟩;clear h hs hi hrp hB hne SCN AOK hpb hO;generalize ({S with sc:=sc1}:SB)=S1 at*;have hps4:ps.length<=4000000:=by omega
 clear hpl hcap;go_enter func76,ntmps76;go_wp2_with fail;refine SF.mono ?_;rintro e w1 ⟨v,rfl,F1⟩;clear SF;obtain ⟨D1,C1⟩:=HSC.out _ _ F1;have hs1:=F1.grown.size;by_cases hps:ps=[]
 ·subst hps;obtain rfl:=F1.nil rfl;have HE:Hid (FdR tag w base f.Q (S1.answers []) (.returned (.slice none 0 0)) w1):=⟨_,_,f,rfl,rfl,D1,HC.out.1.trans C1,World.ownsRow_nil _ _ _ _,fun g e=>by cases e⟩;clear F1 D1 C1 HSC;go_wp2_with fail;go_loopw [5,7] (fun v i wr=>v=.slice none 0 0/\i=.int .i64 0/\wr=w1) (fun _ i _=>1);case atStart=>exact ⟨rfl,rfl,rfl⟩
  case round=>
   obtain ⟨rfl,rfl,rfl⟩:=hrel;go_wp2;go_ret;exact HE.out
 ·have hps1:ps.length≠0:=fun e=>hps (List.eq_nil_of_length_eq_zero e)
  obtain ⟨pg,pcap,rfl⟩:∃g cap,v=.slice (some ⟨g,0,none⟩) ps.length cap:=by
   rcases F1.own.2 with ⟨-,e⟩|⟨g,cap,cur,e, -⟩
   ·exact absurd e hps1
   ·exact ⟨g,cap,e⟩
  have HPC:Hid (∀k j,(hk:k<ps.length)->j<3->w1.cell? ⟨pg,k*3+j,none⟩=(ps[k].cells)[j]?):=fun k j hk hj=>(F1.own.cellAt (k*3+j) zza).trans (Qx _ k j hk hj)
  have hpg:=F1.own.lt pg rfl;have HZ:Hid (w.heap.size<=w1.heap.size/\base<=w1.heap.size):=⟨hs1,by omega⟩;have HW0:Hid (∃tag1 f1,f1.Q=f.Q/\DS w1 base tag1 f1 (S1.answers (ps.take 0)).1/\Chg tag tag1 w w1/\tag1 pg=0/\pg<w1.heap.size):=⟨_,f,rfl,D1,HC.out.1.trans C1,HC.out.2 pg hpg.1,hpg.2⟩;clear F1 D1 C1 HSC hpg hs1 hps hps1;go_wp2_with fail;go_loopw [5,7] (fun v i wr=> ∃(k:Nat) (tag1:Nat->Nat) (f1:DF),k<=ps.length/\i=.int .i64 k/\f1.Q=f.Q/\DS wr base tag1 f1 (S1.answers (ps.take k)).1/\Chg tag tag1 w wr/\(∀j,wr.cell? ⟨pg,j,none⟩=w1.cell? ⟨pg,j,none⟩)/\tag1 pg=0/\pg<w1.heap.size/\wr.ownsRow w1.heap.size 5 1 v (S1.answers (ps.take k)).2.length (zS (S1.answers (ps.take k)).2)/\(∀g,v.ownBlock=some g->tag1 g=0)/\w1.heap.size<=wr.heap.size) (fun _ i _=>ps.length-(intOf i).toNat);case atStart=>
   obtain ⟨t,f1,a1,a2,a3,a4,a5⟩:=HW0.out;exact ⟨0,t,f1,by omega,rfl,a1,a2,a3,fun _=>rfl,a4,a5,World.ownsRow_nil _ _ _ _,(fun g e=>by cases e),Nat.le_refl _⟩
  case round=>
   obtain ⟨k,tag1,f1,hk,rfl,a1,a2,a3,a4,a5,a6,a7,a8,a9⟩:=hrel;by_cases hlt1:k<ps.length
   ·have q0:=(a4 (k*3+0)).trans (HPC.out k 0 hlt1 zzb);have q1:=(a4 (k*3+1)).trans (HPC.out k 1 hlt1 zzb);have q2:=(a4 (k*3+2)).trans (HPC.out k 2 hlt1 zzb);have hbd:=HB.out ps[k] (List.getElem_mem _);obtain ⟨sat,idl,hrp,hol⟩:=HA.out k hk zza;have hol:(S1.answers (ps.take k)).2.length<=900000000:=by omega
    have HST:=hid (Yf (S:=S1) ps k hlt1);generalize hPK:ps[k]=pk at*;obtain ⟨sq,bd,ba⟩:=pk;change wr.cell? ⟨pg,k*3,none⟩=some (.int .i64 (sq:Int)) at q0;change wr.cell? ⟨pg,k*3+1,none⟩=some (.string ⟨bd.toArray⟩) at q1;change wr.cell? ⟨pg,k*3+2,none⟩=some (.bool ba) at q2;change bd.length<=200 at hbd;generalize (S1.answers (ps.take k)).1=Sk at*;generalize (S1.answers (ps.take k)).2=out at*;have HP:Hid (DP tag w base f.Q w1 pg wr.heap.size #[.int .i64 (sq:Int),.string ⟨bd.toArray⟩,.bool ba] Sk out u5 (wr.alloc (.cells #[.int .i64 (sq:Int),.string ⟨bd.toArray⟩,.bool ba] 152)) (yF wr tag1) f1):=by
     have hb0:Below wr.heap.size wr (wr.alloc (.cells #[.int .i64 (sq:Int),.string ⟨bd.toArray⟩,.bool ba] 152)):=(Below.refl _ _).alloc (Nat.le_refl _) _;have hpw:=Nat.lt_of_lt_of_le a6 a9;exact ⟨a1,a2.old.below hb0,(a3.trans (Chg.old tag1 wr)).trans (Chg.below _ hb0),fun j=>(hb0.cell (p:=⟨pg,j,none⟩) hpw).trans (a4 j),(xM pg hpw).trans a5,a6,zG a7 (fun g e=>hb0.block g (a7.lt g e).2),fun g e=>(xM g (a7.lt g e).2).trans (a8 g e),fun g hg=>xN (by simp at hg;omega),by simp;omega,HZ.out.1,Blk.new _ _ _,xN (Nat.le_refl _)⟩
    have HV:Hid (u5.ownBlock≠some wr.heap.size):=fun e=>by have:=(a7.lt _ e).2;omega
    have HX:=hid (show Sat Sk (N+1000000*(k:Int))/\vO Sk/\Sk.rp.length<=80/\N+1000000*(k:Int)<3000000000000000000 from ⟨sat,idl,hrp,by omega⟩);have hkl:(k:Int)<(ps.length:Int):=by omega
    clear a1 a2 a3 a4 a5 a6 a7 a8 a9 sat idl hrp HW0 HPC HA HB hPK;go_upto_region 6 with fail;go_cut [8] from 24 to 27 (fun pp wx=>pp=.pointer (some ⟨wr.heap.size,0,none⟩)/\DQ tag w base f.Q w1 pg wr.heap.size #[.int .i64 (sq:Int),.string ⟨bd.toArray⟩,.bool ba] Sk out u5 wx)
    case first=>
     go_wp2_with fail;go_meet;case rel=>exact ⟨rfl,_,_,HP.out⟩
    case rest=>
     obtain ⟨rfl,hD⟩:=hcut;have HEND:Hid (∀v' wy,DQ tag w base f.Q w1 pg wr.heap.size #[.int .i64 (sq:Int),.string ⟨bd.toArray⟩,.bool ba] (Sk.ans ⟨sq,bd,ba⟩).1 (out++(Sk.ans ⟨sq,bd,ba⟩).2) v' wy->∃tag1 f1,f1.Q=f.Q/\DS wy base tag1 f1 (S1.answers (ps.take (k+1))).1/\Chg tag tag1 w wy/\(∀j,wy.cell? ⟨pg,j,none⟩=w1.cell? ⟨pg,j,none⟩)/\tag1 pg=0/\pg<w1.heap.size/\wy.ownsRow w1.heap.size 5 1 v' (S1.answers (ps.take (k+1))).2.length (zS (S1.answers (ps.take (k+1))).2)/\(∀g,v'.ownBlock=some g->tag1 g=0)/\w1.heap.size<=wy.heap.size):=fun v' wy q=>by
      obtain ⟨t,f',q⟩:=q;rw [HST.out];exact ⟨t,f',q.q,q.d,q.c,q.p,q.pt,q.pl,q.o,q.ot,q.z⟩
     clear HP HST;have HPQ:=hid hD;obtain ⟨tag2,f2,hP⟩:=hD;have p0:wc.cell? ⟨wr.heap.size,0,none⟩=some (.int .i64 (sq:Int)):=hP.b.cell 0;have p1:wc.cell? ⟨wr.heap.size,1,none⟩=some (.string ⟨bd.toArray⟩):=hP.b.cell 1;have p2:wc.cell? ⟨wr.heap.size,2,none⟩=some (.bool ba):=hP.b.cell 2;have zc:=hP.z;cases ba
     ·have hQ9:wc.cell? ⟨f.Q,9,none⟩=some (.int .i64 (Sk.due.toNat:Int)):=by rw [<-hP.q];exact hP.d.blk.cell 9
      go_upto_region 10 with fail;go_cut [37] from 38 to 44 (fun o wx=>o=.bool (decide (sq=Sk.due.toNat))/\DQ tag w base f.Q w1 pg wr.heap.size #[.int .i64 (sq:Int),.string ⟨bd.toArray⟩,.bool false] Sk out u5 wx)
      case first=>
       have HD:=hid (show decide (sq=Sk.due.toNat)=((sq:Int)==(Sk.due.toNat:Int)) from by rw [Bool.eq_iff_iff];simp;omega);clear hP;go_quiet (fail);go_wp2;go_meet;case rel=>exact ⟨by rw [HD.out],HPQ.out.below (below_drewN (Below.refl _ _) _)⟩
      case rest=>
       obtain ⟨rfl,hD⟩:=hcut;clear HPQ hP p0 p1 p2 zc hQ9;have HPQ:=hid hD;obtain ⟨tag2,f2,hP⟩:=hD;have p0:wc.cell? ⟨wr.heap.size,0,none⟩=some (.int .i64 (sq:Int)):=hP.b.cell 0;have p1:wc.cell? ⟨wr.heap.size,1,none⟩=some (.string ⟨bd.toArray⟩):=hP.b.cell 1;have zc:=hP.z;have hQ9:wc.cell? ⟨f.Q,9,none⟩=some (.int .i64 (Sk.due.toNat:Int)):=by rw [<-hP.q];exact hP.d.blk.cell 9
       have hQ10:wc.cell? ⟨f.Q,10,none⟩=some (.bool Sk.bg):=by rw [<-hP.q];exact hP.d.blk.cell 10
       by_cases hsq:sq=Sk.due.toNat
       ·rw [decide_eq_true hsq];subst hsq;have RD:=rdo hP.d HX.out.1 HX.out.2.2.2 HX.out.2.1 (Nat.le_trans HZ.out.2 hP.z) bd hbd;rw [hP.q] at RD;have HA2:Hid (Sk.ans ⟨Sk.due.toNat,bd,false⟩=({(Sk.doI bd).1 with rp:=(Sk.doI bd).2,bg:=true,due:=(Sk.doI bd).1.due+1},43::zH Sk.due (Sk.doI bd).2)):=by
         show _=_;unfold SB.ans;rw [if_neg zzc,if_pos rfl]
        have hdl:=XX Sk bd;have HDU:=hid (zgM Sk bd);have hfl:0<(zH Sk.due (Sk.doI bd).2).length/\(zH Sk.due (Sk.doI bd).2).length<=200:=⟨by simp [zH],zon _ _ hdl⟩;rw [HA2.out,show out++(({(Sk.doI bd).1 with rp:=(Sk.doI bd).2,bg:=true,due:=(Sk.doI bd).1.due+1}:SB),43::zH Sk.due (Sk.doI bd).2).2=(out++ [43])++zH Sk.due (Sk.doI bd).2 from by simp] at HEND;generalize Sk.doI bd=R at*;clear HA2 hQ9 hQ10;go_upto_region 11 with fail;go_cut [9] from 45 to 48 (fun r wx=>r=.string ⟨R.2.toArray⟩/\DQ tag w base f.Q w1 pg wr.heap.size #[.int .i64 (Sk.due.toNat:Int),.string ⟨bd.toArray⟩,.bool false] R.1 out u5 wx)
        case first=>
         go_wp2_with (first|(go_at_call 102;refine RD.mono ?_;rintro e w2 ⟨rfl,hd⟩;have HM:=hid (hP.did hd);clear hd));go_meet;case rel=>exact ⟨rfl,HM.out⟩
        case rest=>
         obtain ⟨rfl,hD⟩:=hcut;clear HPQ hP p0 p1 zc RD;obtain ⟨tag3,f3,hP⟩:=hD;obtain ⟨w5,h5w⟩:∃w5,w5=wc:=⟨_,rfl⟩
         subst wc;have p0:w5.cell? ⟨wr.heap.size,0,none⟩=some (.int .i64 (Sk.due.toNat:Int)):=hP.b.cell 0;have RF:=YJ Sk.due ⟨R.2.toArray⟩ w5 (by show R.2.toArray.size<=80;simpa using hdl);simp only at RF;generalize hFL:zH Sk.due R.2=fl at*;have HFL:=hid hFL;clear hFL;go_upto_region 12 with fail;go_cut [10,11] from 49 to 55 (fun ff _ wx=>qk w5 wx ff fl)
         case first=>
          go_wp2_with (first|(go_at_call 68;refine RF.mono ?_;rintro e w2 ⟨v,rfl,hv⟩;have HM:=hid hv;clear hv));go_meet;case rel=>exact HM.out
         case rest=>
          obtain ⟨gl,cl,rfl,l1,l2,l3,l4,l5⟩:=hcut;have HTD:=hid (hP.did (show Dn tag3 w5 base f.Q {R.1 with rp:=R.2,bg:=true,due:=R.1.due+1} (((wc.setCell ⟨f.Q,11,none⟩ (.slice (some ⟨gl,0,none⟩) fl.length cl)).setCell ⟨f.Q,10,none⟩ (.bool true)).setCell ⟨f.Q,9,none⟩ (.int .i64 ((Sk.due+1).toNat:Int))) from by
           have q:=hP.d.told l5 R.2 gl cl l3 l4 (by rw [HDU.out,HFL.out];exact l2) (by rw [HDU.out,HFL.out];exact l1) (Nat.le_trans HZ.out.2 hP.z);rw [HDU.out,HFL.out,hP.q] at q;rw [HDU.out];exact q))
          have hQlt:f.Q<wc.heap.size:=by rw [<-hP.q];exact Nat.lt_of_lt_of_le hP.d.blk.lt l5.size
          have d5:=hP.d.blk.below l5;rw [hP.q] at d5;have q9:wc.cell? ⟨f.Q,9,none⟩=some (.int .i64 (Sk.due.toNat:Int)):=by rw [<-HDU.out];exact d5.cell 9
          have q10:wc.cell? ⟨f.Q,10,none⟩=some (.bool R.1.bg):=d5.cell 10;have q11:wc.cell? ⟨f.Q,11,none⟩=some f3.vl:=d5.cell 11;have f9:=d5.free 9;have f10:=d5.free 10;have f11:=d5.free 11;have dn:=zdV Sk.due;have hd8:(Sk.due.toNat:Int)<=255:=by have:=Sk.due.toNat_lt;omega
          have HBl:Hid (zy (((wc.setCell ⟨f.Q,11,none⟩ (.slice (some ⟨gl,0,none⟩) fl.length cl)).setCell ⟨f.Q,10,none⟩ (.bool true)).setCell ⟨f.Q,9,none⟩ (.int .i64 ((Sk.due+1).toNat:Int))) gl 0 fl):=fun i hi=>by
           have hne:gl≠f.Q:=by rw [<-hP.q];have:=hP.d.blk.lt;omega
           exact (World.cell?_of_block (a:=⟨gl,0+i,none⟩) ((Below.heap_setCell _ _ _ _ hne).trans ((Below.heap_setCell _ _ _ _ hne).trans (Below.heap_setCell _ _ _ _ hne)))).trans (l2 i hi)
          have HGL:Hid (u5.ownBlock≠some gl):=fun e=>by have:=(hP.o.lt gl e).2;omega
          have hgl:=l4;generalize (Sk.due+1).toNat=dx at*;clear hP d5 l1 l2 l3 l4 l5 p0 RF HX;go_upto_region 16 with fail;have HLT:Hid (gl<(((wc.setCell ⟨f.Q,11,none⟩ (.slice (some ⟨gl,0,none⟩) fl.length cl)).setCell ⟨f.Q,10,none⟩ (.bool true)).setCell ⟨f.Q,9,none⟩ (.int .i64 (dx:Int))).heap.size):=by show gl<_;simpa using hgl
          generalize (((wc.setCell ⟨f.Q,11,none⟩ (.slice (some ⟨gl,0,none⟩) fl.length cl)).setCell ⟨f.Q,10,none⟩ (.bool true)).setCell ⟨f.Q,9,none⟩ (.int .i64 (dx:Int)))=W at*;clear q9 q10 q11 f9 f10 f11 dn hd8 hQlt hgl;obtain ⟨tag4,f4,hP⟩:=HTD.out;have ho:=hP.o;have zc:=hP.z;have hbl:=hP.b.lt;go_cut [5] from 72 to 74 (fun v wx=> ∃g' cap',v=.slice (some ⟨g',0,none⟩) (out.length+1) cap'/\v.ownBlock≠some wr.heap.size/\zy wx gl 0 fl/\DQ tag w base f.Q w1 pg wr.heap.size #[.int .i64 (Sk.due.toNat:Int),.string ⟨bd.toArray⟩,.bool false] {R.1 with rp:=R.2,bg:=true,due:=R.1.due+1} (out++ [43]) v wx)
          case first=>
           go_wp2_with (first|(at_builtin;go_must (refine wpList_append_lies _ rfl (.tmp 72) (.tmp 73) 35 rfl w1.heap.size 5 i0 (.int .u8 0) 1 1 zx hi0 hz0 hz1 hz2 rfl zzb u5 out.length (zS out) rfl (ho.alloc _) ⟨W.heap.size,0,none⟩ 1 1 [.int .u8 43] rfl rfl (ye _ _ _) (Um _) zzb zze zza zzd _ rfl ?_;intro g' cap' w4 hown hgrow hat hlt;have HM:=hid ((hP.below ((Below.refl _ _).alloc (Nat.le_refl _) _)).more (L:=[43]) (n:=out.length+1) hgrow hat zzc hown HV.out);have HG:Hid ((Value.slice (some ⟨g',0,none⟩) (out.length+1) cap').ownBlock≠some wr.heap.size):=fun e=>(by injection e with e;have e:g'=wr.heap.size:=e;rcases hat with z|z;exact HV.out (by rw [z,e]);simp at z;omega);have HB2:Hid (zy w4 gl 0 fl):=fun i hi=>(World.cell?_of_block (a:=⟨gl,0+i,none⟩) ((hgrow.block gl (by simp;have:=HLT.out;omega) (fun e=>HGL.out e.symm)).trans (Below.heap_alloc _ _ _ HLT.out))).trans (HBl.out i hi);clear hown hgrow hat hlt)));go_meet;case rel=>exact ⟨_,_,rfl,HG.out,HB2.out,_,_,HM.out⟩
          case rest=>
           obtain ⟨g',cap',rfl,hG,hB3,tag5,f5,hP⟩:=hcut;have HG:=hid hG;have HBl:=hid hB3;have HO:Hid (wc.ownsRow w1.heap.size 5 1 (.slice (some ⟨g',0,none⟩) (out.length+1) cap') (out.length+1) (zS (out++ [43]))):=by have:=hP.o;rwa [List.length_append] at this
           have zc:=hP.z;clear hB3 hG ho;go_wp2_with (first|(at_builtin;go_must (refine wpList_append_lies _ rfl (.tmp 75) (.tmp 76) 35 rfl w1.heap.size 5 i0 (.int .u8 0) 1 1 zx hi0 hz0 hz1 hz2 rfl zzb (.slice (some ⟨g',0,none⟩) (out.length+1) cap') (out.length+1) (zS (out++ [43])) rfl HO.out ⟨gl,0,none⟩ fl.length cl (zS fl) rfl (by rw [yR];simp) (jt HBl.out) (Zo fl) hfl.1 zze zza zza _ rfl ?_;intro g2 cap2 w5 hown hgrow hat hlt;have HM:=hid (hP.more (L:=fl) (n:=out.length+1+fl.length) hgrow hat zzd hown HG.out);clear hown hgrow hat hlt)));go_roundw;case rel=>
            exact zl4
           case measure=>simp [intOf];omega
       ·rw [decide_eq_false hsq];have HAN:Hid (Sk.ans ⟨sq,bd,false⟩=if Sk.bg=true/\sq=(Sk.due-1).toNat then (Sk,43::zH (Sk.due-1) Sk.rp) else (Sk,[63])):=by
         show _=_;unfold SB.ans;rw [if_neg zzc,if_neg hsq]
        go_upto_region 18 with fail;go_cut [78] from 79 to 93 (fun o wx=>o=.bool (Sk.bg&&decide (sq=(Sk.due-1).toNat))/\DQ tag w base f.Q w1 pg wr.heap.size #[.int .i64 (sq:Int),.string ⟨bd.toArray⟩,.bool false] Sk out u5 wx)
        case first=>
         have HD:=hid (show decide (sq=(Sk.due-1).toNat)=((sq:Int)==((Sk.due-1).toNat:Int)) from by rw [Bool.eq_iff_iff];simp;omega);have CT:=fun w=>yb ((Sk.due.toNat:Int)-1) w
         rw [zdW] at CT;have hd8:(Sk.due.toNat:Int)<=255:=by have:=Sk.due.toNat_lt;omega
         have hd0:(0:Int)<=(Sk.due.toNat:Int):=by omega
         generalize (Sk.due-1).toNat=dl at*;generalize Sk.due.toNat=dn at*;clear hP hsq;cases hbg:Sk.bg
         ·rw [hbg] at hQ10;go_quiet (fail);go_wp2;go_meet;case rel=>exact ⟨by rw [hbg];simp,HPQ.out.below (below_drewN (Below.refl _ _) _)⟩
         ·rw [hbg] at hQ10;go_quiet ((go_at_call 91;with_reducible exact Calls.quiet_of_same (CT _)));go_wp2;go_meet;case rel=>exact ⟨by rw [hbg,HD.out];simp,HPQ.out.below (below_drewN (Below.refl _ _) _)⟩
        case rest=>
         obtain ⟨rfl,hD⟩:=hcut;clear HPQ hP p0 p1 zc hQ9 hQ10;obtain ⟨tag2,f2,hP⟩:=hD;have zc:=hP.z;have ho:=hP.o;cases hag:(Sk.bg&&decide (sq=(Sk.due-1).toNat))
         ·have HA2:Hid (Sk.ans ⟨sq,bd,false⟩=(Sk,[63])):=by
           show _=_;rw [HAN.out,if_neg (fun q=>by rw [q.1,decide_eq_true q.2] at hag;cases hag)]
          rw [HA2.out] at HEND;clear HAN hag;go_wp2_with (first|(at_builtin;go_must (refine wpList_append_lies _ rfl (.tmp 28) (.tmp 29) 35 rfl w1.heap.size 5 i0 (.int .u8 0) 1 1 zx hi0 hz0 hz1 hz2 rfl zzb u5 out.length (zS out) rfl (ho.alloc _) ⟨wc.heap.size,0,none⟩ 1 1 [.int .u8 63] rfl rfl (ye _ _ _) (Um _) zzb zze zza zzd _ rfl ?_;intro g' cap' w4 hown hgrow hat hlt;have HM:=hid ((hP.below ((Below.refl _ _).alloc (Nat.le_refl _) _)).more (L:=[63]) (n:=out.length+1) hgrow hat zzc hown HV.out);clear hown hgrow hat hlt)));go_roundw;case rel=>
           exact zl4
          case measure=>simp [intOf];omega
         ·simp only [Bool.and_eq_true,decide_eq_true_eq] at hag;have HA2:Hid (Sk.ans ⟨sq,bd,false⟩=(Sk,43::zH (Sk.due-1) Sk.rp)):=by
           show _=_;rw [HAN.out,if_pos hag]
          have hfl:0<(zH (Sk.due-1) Sk.rp).length/\(zH (Sk.due-1) Sk.rp).length<=200:=⟨by simp [zH],zon _ _ HX.out.2.2.1⟩;rw [HA2.out,show out++(Sk,43::zH (Sk.due-1) Sk.rp).2=(out++ [43])++zH (Sk.due-1) Sk.rp from by simp] at HEND;have HLS:Hid (∀wy tag2 f2,DS wy base tag2 f2 Sk->LB wy base f2.vl (zH (Sk.due-1) Sk.rp)):=fun wy tag2 f2 q=>q.c.ls.resolve_left (fun z=>by rw [hag.1] at z;cases z.1)
          generalize zH (Sk.due-1) Sk.rp=fl at*;have hbl:=hP.b.lt;clear HAN hag hsq HA2;go_upto_region 19 with fail;go_cut [5] from 94 to 96 (fun v wx=> ∃g' cap',v=.slice (some ⟨g',0,none⟩) (out.length+1) cap'/\v.ownBlock≠some wr.heap.size/\DQ tag w base f.Q w1 pg wr.heap.size #[.int .i64 (sq:Int),.string ⟨bd.toArray⟩,.bool false] Sk (out++ [43]) v wx)
          case first=>
           go_wp2_with (first|(at_builtin;go_must (refine wpList_append_lies _ rfl (.tmp 94) (.tmp 95) 35 rfl w1.heap.size 5 i0 (.int .u8 0) 1 1 zx hi0 hz0 hz1 hz2 rfl zzb u5 out.length (zS out) rfl (ho.alloc _) ⟨wc.heap.size,0,none⟩ 1 1 [.int .u8 43] rfl rfl (ye _ _ _) (Um _) zzb zze zza zzd _ rfl ?_;intro g' cap' w4 hown hgrow hat hlt;have HM:=hid ((hP.below ((Below.refl _ _).alloc (Nat.le_refl _) _)).more (L:=[43]) (n:=out.length+1) hgrow hat zzc hown HV.out);have HG:Hid ((Value.slice (some ⟨g',0,none⟩) (out.length+1) cap').ownBlock≠some wr.heap.size):=fun e=>(by injection e with e;have e:g'=wr.heap.size:=e;rcases hat with z|z;exact HV.out (by rw [z,e]);simp at z;omega);clear hown hgrow hat hlt)));go_meet;case rel=>exact ⟨_,_,rfl,HG.out,_,_,HM.out⟩
          case rest=>
           obtain ⟨g',cap',rfl,hG,tag3,f3,hP⟩:=hcut;have HG:=hid hG;obtain ⟨gl,cl,el,l1,l2,l3,l4⟩:=HLS.out _ _ _ hP.d;have HBl:=hid l4;have HO:Hid (wc.ownsRow w1.heap.size 5 1 (.slice (some ⟨g',0,none⟩) (out.length+1) cap') (out.length+1) (zS (out++ [43]))):=by have:=hP.o;rwa [List.length_append] at this
           have q11:wc.cell? ⟨f.Q,11,none⟩=some (.slice (some ⟨gl,0,none⟩) fl.length cl):=by rw [<-hP.q];exact (hP.d.blk.cell 11).trans (congrArg some el)
           have zc:=hP.z;clear el l1 l2 l3 l4 hG ho;go_wp2_with (first|(at_builtin;go_must (refine wpList_append_lies _ rfl (.tmp 97) (.tmp 101) 35 rfl w1.heap.size 5 i0 (.int .u8 0) 1 1 zx hi0 hz0 hz1 hz2 rfl zzb (.slice (some ⟨g',0,none⟩) (out.length+1) cap') (out.length+1) (zS (out++ [43])) rfl HO.out ⟨gl,0,none⟩ fl.length cl (zS fl) rfl (by rw [yR];simp) (jt HBl.out) (Zo fl) hfl.1 zze zza zza _ rfl ?_;intro g2 cap2 w5 hown hgrow hat hlt;have HM:=hid (hP.more (L:=fl) (n:=out.length+1+fl.length) hgrow hat zzd hown HG.out);clear hown hgrow hat hlt)));go_roundw;case rel=>
            exact zl4
           case measure=>simp [intOf];omega
     ·have ho:=hP.o;go_wp2_with (first|(at_builtin;go_must (refine wpList_append_lies _ rfl (.tmp 34) (.tmp 35) 35 rfl w1.heap.size 5 i0 (.int .u8 0) 1 1 zx hi0 hz0 hz1 hz2 rfl zzb u5 out.length (zS out) rfl (ho.alloc _) ⟨wc.heap.size,0,none⟩ 1 1 [.int .u8 45] rfl rfl (ye _ _ _) (Um _) zzb zze zza zzd _ rfl ?_;intro g' cap' w4 hown hgrow hat hlt;have HM:=hid ((hP.below ((Below.refl _ _).alloc (Nat.le_refl _) _)).more (L:=[45]) (n:=out.length+1) hgrow hat zzc hown HV.out);clear hown hgrow hat hlt)));go_roundw;case rel=>
       exact zl4
      case measure=>simp [intOf];omega
   ·obtain rfl:k=ps.length:=by omega
    have HE:Hid (FdR tag w base f.Q (S1.answers ps) (.returned u5) wr):=by
     rw [List.take_length] at a2 a7;exact ⟨_,_,f1,rfl,a1,a2,a3,K8 a7 HZ.out.1,a8⟩
    clear a1 a2 a3 a4 a5 a6 a7 a8 a9 HW0;go_wp2;go_ret;exact HE.out
theorem zoD(w0:World)(f:Fix)(X:Nat->Prop)(s t:Nat->Sc)(vb vp:Value)(nb np n:Nat)(v:Value)(w:World)(h:Inv w0 f X s t vb vp nb np w)(hXlt:∀g,X g->g<w.heap.size)(hv:Out 152 3 w X v n)(hn:n<=100000000)(hnp:np<=10000000):Cq 75 #[.pointer (some (Aq f.W 4)),v] w (.tuple #[]) fun w'=>∃vp',Inv w0 f (fun g=>X g/\v.ownBlock≠some g) s t vb vp' nb (np+1) w'/\(∀g,X g->v.ownBlock≠some g->w'.heap[g]?=w.heap[g]?)/\w.heap.size<=w'.heap.size:=by
 obtain ⟨i0,hi,hz0,hz1,hz2⟩:=info_parts zoR;obtain ⟨xs0,ho0,_⟩:=h.pk;obtain ⟨ao,cb,rfl⟩:=Z0 ho0;obtain ⟨va,vk,vc,hve⟩:=ziq hv;have HI:=qH3 h hXlt hv;have c4:=h.cell.2.2.2.1;clear h hXlt hv ho0;subst hve;go_enter func75,ntmps75;go_wp2_with fail;refine (zow np n (.slice va vk vc) X _ zza hn HI.out.2.2).mono ?_;rintro e w1 ⟨v1,v2,v3,rfl,hg1,a0,a1,a2,a3⟩;have HZ:=qH1 hg1.size;obtain ⟨ga,ca,rfl⟩:=xL a1 zza;obtain ⟨gq,cq,rfl⟩:=xL a2 zza;obtain ⟨gc,cc,rfl⟩:=xL a3 zza;have HI1:=zol (And.intro (HI.out.1.own HI.out.2.2 hg1) (And.intro (zin (xf:=xfP) HI.out.1 HI.out.2.1 HI.out.2.2 hn a0 a1 a2 a3) (And.intro (show ∀g,X g->(Value.slice va vk vc).ownBlock≠some g->w1.heap[g]?=w.heap[g]? from fun g hX hne=>hg1.block g (HI.out.2.1 g hX) (fun e=>hne e.symm)) (show ∀g,(X g/\(Value.slice va vk vc).ownBlock≠some g)->g<w1.heap.size from fun g hX=>Nat.lt_of_lt_of_le (HI.out.2.1 g hX.1) hg1.size))));clear hg1 a0 a1 a2 a3 HI c4;have k4:=HI1.out.1.cell.2.2.2.1;have kf:=HI1.out.1.cell.2.2.2.2 5;have kW:=HI1.out.1.wlt;have hsz1:=HI1.out.1.bel.size;go_wp2_with fail;have HA:=zol (zfn HI1.out.1 HI1.out.2.1 HI1.out.2.2.2 HI1.out.2.2.1 (.cells #[.slice va vk vc,Sq ga (n+1) ca,Sq gq (n+2) cq,Sq gc (n+64) cc,Iq (np:Int)] 142) (.cells #[.slice va vk vc,Sq ga (n+1) ca,Sq gq (n+2) cq,Sq gc (n+64) cc,Iq (np:Int)] 142))
 obtain ⟨xs,ho,he⟩:=HA.out.1.pk;have HB:=zol (And.intro ho he);clear ho he HI1;go_region_law (first|(refine step_append_lies _ rfl (.tmp 16) (.tmp 18) 78 rfl w0.heap.size 142 i0 _ 5 104 zoS hi hz0 hz1 hz2 rfl zzb (.slice ao np cb) np xs rfl ?_ ⟨w1.heap.size+1,0,none⟩ 1 1 [.slice va vk vc,Sq ga (n+1) ca,Sq gq (n+2) cq,Sq gc (n+64) cc,Iq (np:Int)] rfl rfl ?_ ?_ zzb ?_ ?_ ?_ _ rfl ?_;exact HB.out.1;exact zfl _ _ zzc _ _ _ _ _ _;exact zfm _ _ _ _ _ _ _ _ _ _ _ _ _;(unfold maxLen;omega);omega;(simp;omega);intro g' cap' w3 hown' hgrow hat hlt';obtain ⟨j4,jf⟩:=zpB HA.out.1 hgrow;have HF:=zol (And.intro (HA.out.1.pushP HA.out.2.2.1 HB.out.1 HB.out.2 HA.out.2.1 hown' hgrow hat) (And.intro (zpC (i:=5) (u:=Sq g' (np+1) cap') HA.out.1 hgrow HA.out.2.2.2) (show w.heap.size<=(w3.setCell (Aq f.W 5) (Sq g' (np+1) cap')).heap.size from by have q1:=hgrow.size;have q2:=HZ.out;simp at q1⊢;omega)));clear hown' hgrow hat hlt'))
 all_goals
  go_wp2;go_end0;exact ⟨rfl,_,HF.out⟩
theorem zbi{e size:Nat}{xf:Nat->Nat->Value}{te base nb:Nat}{w:World}{B:Nat->Prop}{a:Option Addr}{cb:Nat}(h:BookX e size xf te w base B (.slice a nb cb) nb)(i:Nat)(hi:i<nb):∃g v v1 v2 v3,a=some (Aq g 0)/\w.cell? ⟨g,i*5,none⟩=some v/\w.cell? ⟨g,i*5+1,none⟩=some v1/\w.cell? ⟨g,i*5+2,none⟩=some v2/\w.cell? ⟨g,i*5+3,none⟩=some v3/\w.cell? ⟨g,i*5+4,none⟩=some (Iq (i:Int))/\Ent e size xf w B i v v1 v2 v3:=by
 obtain ⟨xs,ho,he⟩:=h;obtain ⟨v,v1,v2,v3,q0,q1,q2,q3,q4,hE⟩:=he i hi;rcases V7 ho with ⟨h0,_⟩|⟨g,c,e⟩
 ·omega
 ·injection e with e1 e2 e3;subst e1;exact ⟨g,v,v1,v2,v3,rfl,(ho.cellAt _ zza).trans q0,(ho.cellAt _ zza).trans q1,(ho.cellAt _ zza).trans q2,(ho.cellAt _ zza).trans q3,(ho.cellAt _ zza).trans q4,hE⟩
theorem Ent.one{e size:Nat}{xf:Nat->Nat->Value}{w:World}{B:Nat->Prop}{i:Nat}{v v1 v2 v3:Value}(h:Ent e size xf w B i v v1 v2 v3):∃a0 k0 c0 a1 k1 c1 a2 k2 c2 a3 k3 c3,v=.slice a0 k0 c0/\v1=.slice a1 k1 c1/\v2=.slice a2 k2 c2/\v3=.slice a3 k3 c3:=by
 have sh:∀ {u:Value} {n:Nat},AllX e size (xf i) none 0 w u n->∃a k c,u=.slice a k c:=by
  rintro u n (⟨rfl,_⟩|⟨g,cap,rfl,_⟩)
  ·exact ⟨_,_,_,rfl⟩
  ·exact ⟨_,_,_,rfl⟩
 obtain ⟨n,_,h0,h1,h2,h3,_⟩:=h;obtain ⟨a0,k0,c0,e0⟩:=sh h0;obtain ⟨a1,k1,c1,e1⟩:=sh h1;obtain ⟨a2,k2,c2,e2⟩:=sh h2;obtain ⟨a3,k3,c3,e3⟩:=sh h3;exact ⟨a0,k0,c0,a1,k1,c1,a2,k2,c2,a3,k3,c3,e0,e1,e2,e3⟩
theorem zaf(i:Nat)(v v1 v2 v3:Value)(w:World)(B:Nat->Prop)(hi:i<=1000000000)(h:Ent 5 1 xfB w B i v v1 v2 v3):Cq 47 #[.agg #[v,v1,v2,v3,Iq i]] w (Tq true) fun w'=>Bq w w':=by
 obtain ⟨n,hn,h0,h1,h2,h3,_⟩:=h;exact zay none 0 i n v v1 v2 v3 w hi hn h0 h1 h2 h3 (Nat.zero_le _)
theorem zag(i:Nat)(v v1 v2 v3:Value)(w:World)(B:Nat->Prop)(hi:i<=1000000000)(h:Ent 152 3 xfP w B i v v1 v2 v3):Cq 48 #[.agg #[v,v1,v2,v3,Iq i]] w (Tq true) fun w'=>Bq w w':=by
 obtain ⟨n,hn,h0,h1,h2,h3,_⟩:=h;exact zaa none 0 i n v v1 v2 v3 w hi hn h0 h1 h2 h3 (Nat.zero_le _)
theorem zcs(w0:World)(f:Fix)(X:Nat->Prop)(s t:Nat->Sc)(vb vp:Value)(nb np:Nat)(w:World)(h:Inv w0 f X s t vb vp nb np w)(hnb:nb<=10000000)(hnp:np<=10000000):Cq 32 #[.pointer (some (Aq f.W 4))] w (Tq true) fun w'=>Bq w w':=by
 obtain ⟨xs0,ho0,_⟩:=h.bk;obtain ⟨ao,cb,rfl⟩:=Z0 ho0;obtain ⟨ys0,hp0,_⟩:=h.pk;obtain ⟨ap,cp,rfl⟩:=Z0 hp0;have HI:=qH1 h;clear h ho0 hp0;go_enter func32,ntmps32;go_wp2;go_loopw [3,4] (fun b i wr=> ∃k:Nat,k<=nb/\b=Tq true/\i=Iq k/\Bq w wr) (fun _ i _=>nb-(intOf i).toNat);case atStart=>exact ⟨0,Nat.zero_le _,rfl,rfl,Below.refl _ _⟩
 case round=>
  obtain ⟨k,hk,rfl,rfl,hb⟩:=hrel;have HJ:Hid (Inv w0 f X s t (.slice ao nb cb) (.slice ap np cp) nb np wr/\Bq w wr):=⟨HI.out.below hb,hb⟩;clear hb;have c4:=HJ.out.1.cell.2.2.1;have c5:=HJ.out.1.cell.2.2.2.1;by_cases hlt:k<nb
  ·obtain ⟨g,v,v1,v2,v3,rfl,q0,q1,q2,q3,q4,hE⟩:=zbi HJ.out.1.bk k hlt;have HE:=qH1 hE;obtain ⟨a0,k0,c0,a1,k1,c1,a2,k2,c2,a3,k3,c3,rfl,rfl,rfl,rfl⟩:=hE.one;clear hE;go_wp2_with fail;refine (zaf k _ _ _ _ _ _ zza HE.out).mono ?_;rintro e w2 ⟨rfl,hb2⟩;have HB:Hid (Bq w w2):=HJ.out.2.trans (hb2.mono HJ.out.2.size);clear hb2 HJ HE q0 q1 q2 q3 q4 c4 c5;go_wp2;go_roundw;case rel=>exact ⟨k+1,by omega,rfl,by go_num,HB.out⟩
   case measure=>simp [intOf];omega
  ·go_wp2_with fail;go_loopw [3,6] (fun b i wq=> ∃k:Nat,k<=np/\b=Tq true/\i=Iq k/\Bq w wq) (fun _ i _=>np-(intOf i).toNat);case atStart=>exact ⟨0,Nat.zero_le _,rfl,rfl,HJ.out.2⟩
   case round=>
    clear HJ c4 c5;obtain ⟨k2,hk2,rfl,rfl,hb⟩:=hrel;have HJ:Hid (Inv w0 f X s t (.slice ao nb cb) (.slice ap np cp) nb np wr/\Bq w wr):=⟨HI.out.below hb,hb⟩;clear hb;have c5:=HJ.out.1.cell.2.2.2.1;by_cases hlt2:k2<np
    ·obtain ⟨g,v,v1,v2,v3,rfl,q0,q1,q2,q3,q4,hE⟩:=zbi HJ.out.1.pk k2 hlt2;have HE:=qH1 hE;obtain ⟨a0,k0,c0,a1,k1,c1,a2,k3,c2,a3,k4,c3,rfl,rfl,rfl,rfl⟩:=hE.one;clear hE;go_wp2_with fail;refine (zag k2 _ _ _ _ _ _ zza HE.out).mono ?_;rintro e w2 ⟨rfl,hb2⟩;have HB:Hid (Bq w w2):=HJ.out.2.trans (hb2.mono HJ.out.2.size);clear hb2 HJ HE q0 q1 q2 q3 q4 c5;go_wp2;go_roundw;case rel=>exact ⟨k2+1,by omega,rfl,by go_num,HB.out⟩
     case measure=>simp [intOf];omega
    ·go_wp2;go_ret;exact ⟨rfl,HJ.out.2⟩
def No:Nat->Prop:=fun _=>False
theorem UM(w:World):(convert 35 9 (Nq)).run prog w=.ok (Zq ⟨#[]⟩) w:=
 run_convert_bytes_nil (P:=prog) w 35 5 zx zoj 0 0 9 vj
theorem zop{p:Prop}(h:p):Hid p:=h
def Kpx(X:Nat->Prop)(w w':World):Prop:=w.heap.size<=w'.heap.size/\∀g,X g->w'.heap[g]?=w.heap[g]?
theorem Kpx.of{X:Nat->Prop}{w w':World}(h:Bq w w')(hX:∀g,X g->g<w.heap.size):Kpx X w w':=⟨h.size,fun g q=>h.block g (hX g q)⟩
theorem Kpx.trans{X:Nat->Prop}{w w' w2:World}(h:Kpx X w w')(h2:Kpx X w' w2):Kpx X w w2:=⟨Nat.le_trans h.1 h2.1,fun g q=>(h2.2 g q).trans (h.2 g q)⟩
theorem zoG(w0:World)(f:Fix)(X:Nat->Prop)(s:Nat->Sc)(vb vp:Value)(nb np:Nat)(w:World)(k a b:Int)(S:ByteArray)(n q:Bool)(ca:Option Addr)(cl cc:Nat)(rom:Int)(E:Int)
  (h:Inv w0 f X s s vb vp nb np w) (hX:∀g,X g->g<w.heap.size) (hnb:nb<=9000000)
  (hf:∀w:World,Cq 38 #[Iq a,Zq S] w (.tuple #[Nq,Iq E]) fun w'=>w'=w)
  (hr:∀w:World,Cq 68 #[Iq a,Zq S] w (.tuple #[Nq,Iq E]) fun w'=>w'=w):
  Cq 44 #[Pq f.W,.agg #[Iq k,Iq a,Iq b,Zq S,Tq n,Tq q,.slice ca cl cc,Iq rom]] w (Tq true) fun w'=>∃vb',Inv w0 f X s s vb' vp (nb+2) np w'/\Kpx X w w':=by
 have HF:=qH1 hf;have HR:=qH1 hr;have HI:=qH2 h hX;have hconv:=UM;clear h hf hr hX;go_enter func44,ntmps44;go_wp2_with fail;refine (HF.out _).mono ?_;rintro e wx ⟨rfl,hw⟩;subst wx;go_wp2_with fail;refine (HF.out _).mono ?_;rintro e wx ⟨rfl,hw⟩;subst wx;go_wp2_with fail;refine (HR.out _).mono ?_;rintro e wx ⟨rfl,hw⟩;subst wx;go_wp2_with fail;have HB:=zop ((Below.refl w.heap.size w).alloc (Nat.le_refl _) (.cells #[Iq k,Iq a,Iq b,Zq S,Tq n,Tq q,.slice ca cl cc,Iq rom] 29));have HL:=zop (show ∀g,X g->g<(w.alloc (.cells #[Iq k,Iq a,Iq b,Zq S,Tq n,Tq q,.slice ca cl cc,Iq rom] 29)).heap.size from fun g q=>Nat.lt_of_lt_of_le (HI.out.2 g q) HB.out.size);refine (QK w0 f X s s vb vp nb np 0 (Nq) _ (HI.out.1.below HB.out) HL.out (.inl ⟨rfl,rfl⟩) zza zza).mono ?_;rintro e w1 ⟨rfl,vb1,hI1,k1,s1⟩;have HI1:=zop (show Inv w0 f X s s vb1 vp (nb+1) np w1/\Kpx X w w1 from ⟨hI1.lessX (fun g q=>⟨q,fun e=>by cases e⟩),(Kpx.of HB.out HI.out.2).trans ⟨s1,fun g q=>k1 g q (fun e=>by cases e)⟩⟩);clear hI1 k1 s1;go_wp2_with fail;refine (QK w0 f X s s vb1 vp (nb+1) np 0 (Nq) _ HI1.out.1 (fun g q=>Nat.lt_of_lt_of_le (HI.out.2 g q) HI1.out.2.1) (.inl ⟨rfl,rfl⟩) zza zza).mono ?_;rintro e w2 ⟨rfl,vb2,hI2,k2,s2⟩;have HI2:=zop (show Inv w0 f X s s vb2 vp (nb+2) np w2/\Kpx X w w2 from ⟨hI2.lessX (fun g q=>⟨q,fun e=>by cases e⟩),HI1.out.2.trans ⟨s2,fun g q=>k2 g q (fun e=>by cases e)⟩⟩)
 clear hI2 k2 s2;go_wp2;go_ret;exact ⟨by simp,vb2,HI2.out⟩
theorem zia{e base g n cap size:Nat}{w:World}{xs:List Value}(h:w.ownsRow base e size (Sq g n cap) n xs):RowAt w g e size cap/\n<=cap/\base<=g:=by
 rcases h.2 with ⟨q,_⟩|⟨g',c',cur,q,hb,h1,h2,_,h3,_⟩
 ·simp at q
 ·injection q with q1 q2 q3;injection q1 with q1;injection q1 with q1;subst q1 q3;exact ⟨⟨cur,h1,h3⟩,h2,hb⟩
theorem UN{w0 w:World}{v:Value}{l:List UInt8}(h:qk w0 w v l):(convert 35 9 v).run prog w=.ok (Zq ⟨l.toArray⟩) w:=by
 obtain ⟨g,cap,rfl,_,hb,_⟩:=h;exact run_convert_bytes_back (P:=prog) w 35 9 5 (Aq g 0) cap l zx zoj vj (fun j hj=>by
  have q:=hb j hj;rw [Nat.zero_add] at q;rw [show ((Aq g 0):Addr).add j=(Aq g j) from by unfold Addr.add;split<;>simp_all];exact q)
theorem zo0(w0:World)(f:Fix)(X:Nat->Prop)(s:Nat->Sc)(vb vp:Value)(nb np:Nat)(w:World)(k b:Int)(c:UInt8)(S:ByteArray)(n q:Bool)(ca:Option Addr)(cl cc:Nat)(rom:Int)
  (h:Inv w0 f X s s vb vp nb np w) (hX:∀g,X g->g<w.heap.size) (hnb:nb<=9000000) (hS:S.size<=80):
  Cq 44 #[Pq f.W,.agg #[Iq k,Iq c.toNat,Iq b,Zq S,Tq n,Tq q,.slice ca cl cc,Iq rom]] w (Tq true) fun w'=>∃vb',Inv w0 f X s s vb' vp (nb+2) np w'/\Kpx X w w':=by
 have HI:=qH2 h hX;clear h hX;have hfl:(zH c S.data.toList).length<=1000:=by
  have:=ZA S.data.toList;have h2:S.data.toList.length=S.size:=by simp
  simp [zH,vx];omega
 go_enter func44,ntmps44;go_wp2_with fail;have HW:Hid (Bq w (w.alloc (.cells #[Iq k,Iq c.toNat,Iq b,Zq S,Tq n,Tq q,.slice ca cl cc,Iq rom] 29))):=qBa;have x1:(w.alloc (.cells #[Iq k,Iq c.toNat,Iq b,Zq S,Tq n,Tq q,.slice ca cl cc,Iq rom] 29)).cell? (Aq w.heap.size 1)=some (Iq c.toNat):=World.cell?_alloc_at _ _ _ _ rfl;have x3:(w.alloc (.cells #[Iq k,Iq c.toNat,Iq b,Zq S,Tq n,Tq q,.slice ca cl cc,Iq rom] 29)).cell? (Aq w.heap.size 3)=some (Zq S):=World.cell?_alloc_at _ _ _ _ rfl;have hwl:w.heap.size<(w.alloc (.cells #[Iq k,Iq c.toNat,Iq b,Zq S,Tq n,Tq q,.slice ca cl cc,Iq rom] 29)).heap.size:=by simp
 generalize w.alloc (.cells #[Iq k,Iq c.toNat,Iq b,Zq S,Tq n,Tq q,.slice ca cl cc,Iq rom] 29)=w1 at*;refine (zoC c S _ hS).mono ?_;rintro e w2 ⟨va,rfl,hO1⟩;obtain ⟨ga,cpa,rfl,o1,b1,z1⟩:=hO1;have y1:=cell_later b1 x1;have y3:=cell_later b1 x3;have HO1:=qH2 o1 b1;clear o1 b1;go_wp2_with fail;refine (zoC c S _ hS).mono ?_;rintro e w3 ⟨vc,rfl,hO2⟩;obtain ⟨gc,cpc,rfl,o2,b2,z2⟩:=hO2;have u1:=cell_later b2 y1;have u3:=cell_later b2 y3;have HO2:=qH2 o2 b2;clear o2 b2;go_wp2_with fail;refine (YJ c S _ hS).mono ?_;rintro e w4 ⟨vr,rfl,hN⟩;have hcr:=UN hN;obtain ⟨gr,cpr,rfl,_,_,_,_,b3⟩:=hN;have HO3:Hid (w4.ownsRow w1.heap.size 5 1 (Sq ga (zH c S.data.toList).length cpa) (zH c S.data.toList).length (zS (zH c S.data.toList))/\w4.ownsRow w2.heap.size 5 1 (Sq gc (zH c S.data.toList).length cpc) (zH c S.data.toList).length (zS (zH c S.data.toList))/\Bq w w4/\w1.heap.size<=w2.heap.size/\ga<w2.heap.size):=
  ⟨JT (JT HO1.out.1 HO2.out.2) b3,JT HO2.out.1 b3,HW.out.trans ((HO1.out.2.trans ((HO2.out.2.trans (b3.mono z2)).mono z1)).mono HW.out.size),z1,(HO1.out.1.lt ga rfl).2⟩
 have hca:=ji HO3.out.1;have hcc:=ji HO3.out.2.1;clear b3 HO1 HO2 x1 x3 y1 y3 u1 u3;have HX:=zop (show Inv w0 f (fun g=>X g\/(w.heap.size<=g/\g<w4.heap.size)) s s vb vp nb np w4/\Kpx X w w4 from ⟨(HI.out.1.fresh HO3.out.2.2.1).lessX (fun g q=>q.imp id And.left),Kpx.of HO3.out.2.2.1 HI.out.2⟩);have HV:Hid (Out 5 1 w4 (fun g=>X g\/(w.heap.size<=g/\g<w4.heap.size)) (Sq ga (zH c S.data.toList).length cpa) (zH c S.data.toList).length):=by
  obtain ⟨r1,r2,r3⟩:=zia HO3.out.1;exact .inr ⟨ga,cpa,rfl,r2,r1,.inr ⟨by omega,r1.lt⟩⟩
 have HV2:Hid (RowAt w4 gc 5 1 cpc/\(zH c S.data.toList).length<=cpc/\w.heap.size<=gc/\gc<w4.heap.size/\gc≠ga):=by
  obtain ⟨r1,r2,r3⟩:=zia HO3.out.2.1;have:=HO3.out.2.2.2;exact ⟨r1,r2,by omega,r1.lt,by omega⟩
 have HGA:Hid (w.heap.size<=ga):=by
  obtain ⟨r1,r2,r3⟩:=zia HO3.out.1;show _<=_;omega
 clear HO3 HW;generalize hfr:zH c S.data.toList=fr at*;clear hfr;go_wp2_with fail;refine (QK w0 f _ s s vb vp nb np fr.length _ _ HX.out.1 (fun g q=>q.elim (fun q=>Nat.lt_of_lt_of_le (HI.out.2 g q) HX.out.2.1) And.right) HV.out zza zza).mono ?_;rintro e w5 ⟨rfl,vb1,hI1,hk1,s1⟩;have HNE:=zop (show ∀g p (m c:Nat),X g->w.heap.size<=p->(Sq p m c).ownBlock≠some g from fun g p m c q hp e=>by injection e with e;have:=HI.out.2 g q;have e:p=g:=e;omega);have HV3:=zop (show Inv w0 f (fun g=>(X g\/(w.heap.size<=g/\g<w4.heap.size))/\(Sq ga fr.length cpa).ownBlock≠some g) s s vb1 vp (nb+1) np w5/\Out 5 1 w5 (fun g=>(X g\/(w.heap.size<=g/\g<w4.heap.size))/\(Sq ga fr.length cpa).ownBlock≠some g) (Sq gc fr.length cpc) fr.length/\Kpx X w w5/\w4.heap.size<=w5.heap.size from by
  have hne:(Sq ga fr.length cpa).ownBlock≠some gc:=by simp [Value.ownBlock];have:=HV2.out.2.2.2.2;omega
  obtain ⟨⟨cur,r1,r2⟩,r3,r4,r5,_⟩:=HV2.out;exact ⟨hI1,.inr ⟨gc,cpc,rfl,r3,⟨cur,(hk1 gc (.inr ⟨r4,r5⟩) hne).trans r1,r2⟩,.inr ⟨r4,r5⟩,hne⟩,HX.out.2.trans ⟨s1,fun g q=>hk1 g (.inl q) (HNE.out g _ _ _ q HGA.out)⟩,s1⟩)
 clear hI1 hk1 s1 HV;go_wp2_with fail;refine (QK w0 f _ s s vb1 vp (nb+1) np fr.length _ _ HV3.out.1 (fun g q=>q.1.elim (fun q=>Nat.lt_of_lt_of_le (HI.out.2 g q) HV3.out.2.2.1.1) (fun q=>Nat.lt_of_lt_of_le q.2 HV3.out.2.2.2)) HV3.out.2.1 zza zza).mono ?_;rintro e w6 ⟨rfl,vb2,hI2,k2,s2⟩;have HI2:=zop (show Inv w0 f X s s vb2 vp (nb+2) np w6/\Kpx X w w6 from ⟨hI2.lessX (fun g q=>⟨⟨.inl q,HNE.out g _ _ _ q HGA.out⟩,HNE.out g _ _ _ q HV2.out.2.2.1⟩),HV3.out.2.2.1.trans ⟨s2,fun g q=>k2 g ⟨.inl q,HNE.out g _ _ _ q HGA.out⟩ (HNE.out g _ _ _ q HV2.out.2.2.1)⟩⟩);clear hI2 HV3 k2 s2;go_wp2;go_ret;exact ⟨by simp,vb2,HI2.out⟩
def zoq(s:Nat->Sc)(k:Nat)(x:Sc):Nat->Sc:=fun j=>if j=k then x else s j
section
variable {w0:World} {f:Fix} {X:Nat->Prop} {s t:Nat->Sc} {vb vp:Value} {nb np:Nat} {w w':World}
theorem znn{p:Prop} (q:p:=by
 exact h.bk.kept (fun g hg'=>hkeep g (h.bk.vlt hg').2 (fun e=>(h.vbm g hg').1 (by rw [e];exact hm))) hkb (fun _ _ q=>q)):p:=q
theorem zng{p:Prop} (q:p:=by
 exact h.pk.kept (fun g hg'=>hkeep g (h.pk.vlt hg').2 (fun e=>(h.vpm g hg').1 (by rw [e];exact hm))) hkb (fun _ _ q=>q)):p:=q
theorem Inv.feedB{k:Nat}{s':Sc}(hk:k<2)(h:Inv w0 f X s t vb vp nb np w)(hg:w.grownBy w' (some (f.B k)))(hs:ScAt w' (f.B k) s'):Inv w0 f X (zoq s k s') t vb vp nb np w':=by
 have hm:f.mem (f.B k):=.inr (.inr (.inr ⟨k,hk,.inl rfl⟩));have hkeep:∀g,g<w.heap.size->g≠f.B k->w'.heap[g]?=w.heap[g]?:=fun g hl hne=>hg.block g hl (fun e=>hne (by injection e))
 have hkb:∀g,g<w.heap.size->¬Bad f X vb vp g->w'.heap[g]?=w.heap[g]?:=fun g hl hB=>hkeep g hl (fun e=>hB (.inl (by rw [e];exact hm)))
 refine ⟨h.bel.grown hg h.bel.size (fun j e=>by injection e with e;subst e;exact h.lo _ hm),h.ap,h.lo,(hkeep _ h.wlt (h.ap.wb k hk).1).trans h.blk,?_,?_,?_,?_,?_,?_,h.vbm,h.vpm,h.xm⟩
 ·intro j hj;rw [World.cell?_of_block (a:=(Aq f.SB j)) (hkeep f.SB (h.mlt _ (.inr (.inl rfl))) (h.ap.sb k hk).1)];exact h.sb j hj
 ·intro j hj;rw [World.cell?_of_block (a:=(Aq f.RB j)) (hkeep f.RB (h.mlt _ (.inr (.inr (.inl rfl)))) (h.ap.rb k hk).1)];exact h.rb j hj
 ·intro j hj;unfold zoq;by_cases e:j=k
  ·subst e;rw [if_pos rfl];exact hs
  ·rw [if_neg e];exact (h.sc j hj).sameBlock (hkeep _ (h.sc j hj).lt (fun q=>e (h.ap.bb j k hj hk q)))
 ·intro j hj;exact (h.rs j hj).sameBlock (hkeep _ (h.rs j hj).cells.lt (fun q=>h.ap.br k j hk hj q.symm))
 ·exact znn
 ·exact zng
theorem Inv.feedR{k:Nat}{s':Sc}(hk:k<2)(h:Inv w0 f X s t vb vp nb np w)(hg:w.grownBy w' (some (f.R k)))(hs:RsAt w' (f.R k) s'):Inv w0 f X s (zoq t k s') vb vp nb np w':=by
 have hm:f.mem (f.R k):=.inr (.inr (.inr ⟨k,hk,.inr rfl⟩));have hkeep:∀g,g<w.heap.size->g≠f.R k->w'.heap[g]?=w.heap[g]?:=fun g hl hne=>hg.block g hl (fun e=>hne (by injection e))
 have hkb:∀g,g<w.heap.size->¬Bad f X vb vp g->w'.heap[g]?=w.heap[g]?:=fun g hl hB=>hkeep g hl (fun e=>hB (.inl (by rw [e];exact hm)))
 refine ⟨h.bel.grown hg h.bel.size (fun j e=>by injection e with e;subst e;exact h.lo _ hm),h.ap,h.lo,(hkeep _ h.wlt (h.ap.wb k hk).2).trans h.blk,?_,?_,?_,?_,?_,?_,h.vbm,h.vpm,h.xm⟩
 ·intro j hj;rw [World.cell?_of_block (a:=(Aq f.SB j)) (hkeep f.SB (h.mlt _ (.inr (.inl rfl))) (h.ap.sb k hk).2)];exact h.sb j hj
 ·intro j hj;rw [World.cell?_of_block (a:=(Aq f.RB j)) (hkeep f.RB (h.mlt _ (.inr (.inr (.inl rfl)))) (h.ap.rb k hk).2)];exact h.rb j hj
 ·intro j hj;exact (h.sc j hj).sameBlock (hkeep _ (h.sc j hj).lt (fun q=>h.ap.br j k hj hk q))
 ·intro j hj;unfold zoq;by_cases e:j=k
  ·subst e;rw [if_pos rfl];exact hs
  ·rw [if_neg e];exact (h.rs j hj).sameBlock (hkeep _ (h.rs j hj).cells.lt (fun q=>e (h.ap.rr j k hj hk q)))
 ·exact znn
 ·exact zng
end
theorem zoY(B bb off cap n:Nat)(s:Sc)(l:List UInt8)(w:World)(hn:l.length=n)(hs:ScAt w B s)(hl:l.length<=140737488355328)(hB:zy w bb off l)(hne:bb≠B)(hmax:(zR s l).length<=4194304):Calls prog 71 #[Pq B,.slice (some (Aq bb off)) n cap] w fun e w'=> ∃v,e=.returned v/\Fed B w w' v (yA s l) (zR s l):=by
 subst hn;exact zoJ B bb off cap s l w hs hl hB hne hmax
theorem zoF(R bb off cap n:Nat)(s:Sc)(l:List UInt8)(w:World)(hn:l.length=n)(hs:RsAt w R s)(hl:l.length<=140737488355328)(hcap:l.length<=cap)(hB:zy w bb off l)(hne:bb≠R)(hmax:(zR s l).length<=4194304):Calls prog 73 #[Pq R,.slice (some (Aq bb off)) n cap] w fun e w'=> ∃v,e=.returned v/\FedR R w w' v (yA s l) (zR s l):=by
 subst hn;exact GW R bb off cap s l w hs hl hcap hB hne hmax
theorem zcw{w w':World}{g b:Nat}{l:List UInt8}(h:LentAt w g l)(hg:w.grownBy w' (some b))(hne:g≠b):LentAt w' g l:=by
 have hb:=hg.block g h.row.lt (fun e=>hne (by injection e));obtain ⟨cur,r1,r2⟩:=h.row;exact ⟨⟨cur,hb.trans r1,r2⟩,fun i hi=>by rw [World.cell?_of_block (a:=⟨g,0+i,none⟩) hb];exact h.bytes i hi,fun i hi=>by rw [World.cell?_of_block (a:=⟨g,l.length+i,none⟩) hb];exact h.spare i hi⟩
theorem zo7{a b:Nat}(h:b<a):some ((Aq a 3):Addr).block≠some b:=by intro e;injection e with e;simp only at e;omega
theorem zeY(s:Sc)(l:List UInt8):(zR s l).length<=l.length:=by
 induction l generalizing s with
 |nil=>simp [zR]
 |cons c r ih=>
  have:=ih (s.step c);simp only [zR,List.length_append,List.length_cons];split<;>simp<;>omega
def pkI(c n:Int):Int:=if c<0 then -(c+1).tmod n else c%n
theorem zpW(c:Int):∃k:Nat,k<2/\pkI c 2=(k:Int):=by
 unfold pkI;split
 ·have:=za9 c 2 zza zzh;exact ⟨(-(c+1).tmod 2).toNat,by omega,by omega⟩
 ·exact ⟨(c%2).toNat,by omega,by omega⟩
theorem zpX{p:Prop} (q:p:=by
 have hc:0<=c:=by assumption
 exact ⟨xT (by unfold pkI;rw [if_neg zza]),rfl⟩):p:=q
theorem zpY{p:Prop} (q:p:=by
 have hc:c<0:=by assumption
 exact ⟨xT (by unfold pkI;rw [if_pos hc]),rfl⟩):p:=q
theorem zoQ(c:Int)(w:World)(hc1: -9223372036854775808<=c)(hc2:c<=9223372036854775807):Cq 43 #[Iq c,Iq 2] w (Iq (pkI c 2)) fun w'=>w'=w:=by
 go_enter func43,ntmps43;go_wp2;all_goals go_ret
 ·exact zpY
 ·exact zpX
theorem zpd(w0:World)(f:Fix)(X:Nat->Prop)(s:Nat->Sc)(vb vp:Value)(nb np:Nat)(w:World)(k a b:Int)(S:ByteArray)(n q:Bool)(ca:Option Addr)(cl cc:Nat)(rom:Int)
  (h:Inv w0 f X s s vb vp nb np w) (hX:∀g,X g->g<w.heap.size) (hnp:np<=9000000) (hS:S.size<=4000000) (ha1: -9223372036854775808<=a) (ha2:a<=9223372036854775807) (hn:¬(S.size=0/\(b.tmod 2 !=0)=true)):
  Cq 45 #[Pq f.W,.agg #[Iq k,Iq a,Iq b,Zq S,Tq n,Tq q,.slice ca cl cc,Iq rom]] w (Tq true) fun w'=>∃s' vp',Inv w0 f X s' s' vb vp' nb (np+1) w'/\Kpx X w w':=by
 have HI:=qH1 h;have HX:=qH1 hX;have HXF:Hid (∀j,j<2->(∀g,X g->g≠f.B j/\g≠f.R j)):=fun j hj g q=>⟨fun e=>(h.xm g q).1 (.inr (.inr (.inr ⟨j,hj,.inl e⟩))),fun e=>(h.xm g q).1 (.inr (.inr (.inr ⟨j,hj,.inr e⟩)))⟩
 have c2:=h.cell.1;have c3:=h.cell.2.1;have hWl:=h.wlt;have HBw:Hid (∀j,j<2->f.B j<w.heap.size/\f.R j<w.heap.size):=fun j hj=>⟨(h.sc j hj).lt,(h.rs j hj).cells.lt⟩
 clear h hX;go_enter func45,ntmps45;go_wp2_with fail;go_quiet ((go_at_call 43;exact Calls.quiet_of_same (zoQ a _ ha1 ha2)));obtain ⟨j,hj,hje⟩:=zpW a;rw [hje];clear hje ha1 ha2;have HW:Hid (Bq w ((w.alloc (.cells #[Iq k,Iq a,Iq b,Zq S,Tq n,Tq q,.slice ca cl cc,Iq rom] 29)).drewN nq)):=below_drewN qBa nq;have x2:((w.alloc (.cells #[Iq k,Iq a,Iq b,Zq S,Tq n,Tq q,.slice ca cl cc,Iq rom] 29)).drewN nq).cell? (Aq w.heap.size 2)=some (Iq b):=World.cell?_alloc_at _ _ _ _ rfl;have x3:((w.alloc (.cells #[Iq k,Iq a,Iq b,Zq S,Tq n,Tq q,.slice ca cl cc,Iq rom] 29)).drewN nq).cell? (Aq w.heap.size 3)=some (Zq S):=World.cell?_alloc_at _ _ _ _ rfl;generalize (w.alloc (.cells #[Iq k,Iq a,Iq b,Zq S,Tq n,Tq q,.slice ca cl cc,Iq rom] 29)).drewN nq=w1 at*;have HI1:Hid (Inv w0 f X s s vb vp nb np w1):=HI.out.below HW.out;have HK1:=zop (Kpx.of HW.out HX.out);clear c2 c3 hWl HI;go_wp2_with fail;refine (Kv S _ _ zza hn).mono ?_;rintro e w2 ⟨rfl,hL,hb2⟩;have HI2:Hid (Inv w0 f (fun g=>X g\/w1.heap.size<=g) s s vb vp nb np w2):=HI1.out.fresh hb2;have HK2:=zop (HK1.out.trans (Kpx.of hb2 (fun g q=>Nat.lt_of_lt_of_le (HX.out g q) HK1.out.1)));have HL:=qH2 hL hb2;have y2:=cell_later hb2 x2;have y3:=cell_later hb2 x3;have c2:=HI2.out.cell.1;have d2:=HI2.out.sb j hj;have hjI:(j:Int)<2:=by omega
 have hlen:S.data.toList.length=S.size:=by simp
 have HBl:Hid (f.B j<w.heap.size/\f.R j<w.heap.size/\w.heap.size<w1.heap.size):=⟨(HBw.out j hj).1,(HBw.out j hj).2,World.block_lt_of_cell? w1 (Aq w.heap.size 3) x3⟩;have HPL:Hid (∀s:Sc,(zR s S.data.toList).length<=4194304):=fun s=>by have:=zeY s S.data.toList;omega
 clear hL hb2 x2 x3 hn;go_wp2_with fail;refine (zoY (f.B j) w1.heap.size 0 _ S.size (s j) S.data.toList _ hlen (HI2.out.sc j hj) zza HL.out.1.bytes (by have:=HBl.out;omega) (HPL.out _)).mono ?_;rintro e w3 ⟨va,rfl,hF⟩;have HK3:=zop (show Kpx X w w3 from HK2.out.trans ⟨hF.grown.size,fun g q=>hF.grown.block g (Nat.lt_of_lt_of_le (HX.out g q) HK2.out.1) (fun e=>(HXF.out j hj g q).1 (by injection e))⟩);have HI3:Hid (Inv w0 f (fun g=>X g\/w1.heap.size<=g) (zoq s j (yA (s j) S.data.toList)) s vb vp nb np w3):=HI2.out.feedB hj hF.grown hF.sc;have HF:=qH1 hF;have z3:=hF.grown.cell y3 (by have:=HBl.out;simp;omega);have HL3:Hid (LentAt w3 w1.heap.size S.data.toList):=zcw HL.out.1 hF.grown (by have:=HBl.out;omega);clear hF c2 d2 y2 y3;obtain ⟨ra,rk,rc,hva⟩:∃a n c,va=.slice a n c:=by
  rcases zok HF.out.own with ⟨_,e⟩|⟨g,c,e⟩
  ·exact ⟨_,_,_,e⟩
  ·exact ⟨_,_,_,e⟩
 subst hva;go_wp2_with fail;refine (KE S w1.heap.size _ zza HL3.out).mono ?_;rintro e w4 ⟨rfl,hg4,hs4⟩;have HK4:=zop (show Kpx X w w4 from HK3.out.trans ⟨hg4.size,fun g q=>hg4.block g (Nat.lt_of_lt_of_le (HX.out g q) HK3.out.1) (fun e=>by injection e with e;have h1:=HX.out g q;have h2:=HBl.out;omega)⟩);have HI4:Hid (Inv w0 f (fun g=>X g\/w1.heap.size<=g) (zoq s j (yA (s j) S.data.toList)) s vb vp nb np w4):=HI3.out.inX hg4 (.inr (Nat.le_refl _));have HV4:Hid (w4.ownsRow w2.heap.size 152 3 (.slice ra rk rc) (zR (s j) S.data.toList).length (vZ (zR (s j) S.data.toList))/\w2.heap.size<=w4.heap.size/\w1.heap.size<w2.heap.size):=by
  refine ⟨HF.out.own.kept hg4 ?_,by rw [hs4];exact HF.out.grown.size,HL.out.1.row.lt⟩;cases hv:(Value.slice ra rk rc).ownBlock with
  |none=>exact .inl rfl
  |some g=>refine .inr (fun e=>?_);injection e with e;have h1:=(HF.out.own.lt g hv).1;have h2:=HL.out.1.row.lt;omega
 have v3:=hg4.cell z3 (by have:=HBl.out;simp;omega);have c3:=HI4.out.cell.2.1;have d3:=HI4.out.rb j hj;have hby:=Js;have n1:=World.new_ne w4 _ v3;have n2:=World.new_ne w4 _ c3;have n3:=World.new_ne w4 _ d3;clear hg4 hs4 z3 HI3 HL3 HI2 HL HI1;go_wp2_with fail;go_region_held (fun w'=>w'.cell? (Aq f.W 3)=some (Sq f.RB 2 f.cr)/\w'.cell? (Aq f.RB j)=some (.pointer (some ⟨f.R j,0,none⟩))/\w'.cell? (Aq w.heap.size 3)=some (Zq S)) (go_keep) (first|(go_at_call 73;go_must (refine (zoF (f.R j) w4.heap.size 0 _ S.size (s j) S.data.toList _ hlen ?_ ?_ ?_ ?_ ?_ (HPL.out _)).mono ?_;exact (HI4.out.rs j hj).sameBlock (Below.heap_alloc _ _ _ (HI4.out.rs j hj).cells.lt);omega;(rw [hlen];exact grownCap_ge _ _ _ _);exact QZ w4.drew S _ _;(have h1:=HBl.out;have h2:=HV4.out.2;omega);rintro e w5 ⟨vr,rfl,hFR⟩;have HI5:Hid (Inv w0 f (fun g=>X g\/w1.heap.size<=g) (zoq s j (yA (s j) S.data.toList)) (zoq s j (yA (s j) S.data.toList)) vb vp nb np w5/\FedR (f.R j) _ w5 vr (yA (s j) S.data.toList) (zR (s j) S.data.toList)):=⟨(HI4.out.below ((((Below.refl w4.heap.size w4).alloc (Nat.le_refl _) _).drew).drew)).feedR hj hFR.grown hFR.sc,hFR⟩;have k1:=HI5.out.1.cell.2.1;have k2:=HI5.out.1.rb j hj;have k3:=hFR.grown.cell (cell_later ((((Below.refl w4.heap.size w4).alloc (Nat.le_refl _) _).drew).drew) v3) (zo7 HBl.out.2.1))));have HV5:Hid (w5.ownsRow w2.heap.size 152 3 (.slice ra rk rc) (zR (s j) S.data.toList).length (vZ (zR (s j) S.data.toList))):=by
  refine (((HV4.out.1.alloc _).drew).drew).kept hFR.grown ?_;cases hv:(Value.slice ra rk rc).ownBlock with
  |none=>exact .inl rfl
  |some g=>refine .inr (fun e=>?_);injection e with e;have h1:=(HV4.out.1.lt g hv).1;have h2:=HV4.out.2;have h3:=HBl.out;omega
 have HN:=qH2 HF.out.nil hFR.nil;have HW12:=qH1 HV4.out.2.2;obtain ⟨ta,tk,tc,hvr⟩:∃a n c,vr=.slice a n c:=by
  rcases zok hFR.own with ⟨_,e⟩|⟨g,c,e⟩
  ·exact ⟨_,_,_,e⟩
  ·exact ⟨_,_,_,e⟩
 subst hvr;have HK5:=zop (show Kpx X w w5 from HK4.out.trans ⟨Nat.le_trans zzc hFR.grown.size,fun g q=>(hFR.grown.block g (by have h1:=HX.out g q;have h2:=HK4.out.1;simp;omega) (fun e=>(HXF.out j hj g q).2 (by injection e))).trans (Below.heap_alloc _ _ _ (Nat.lt_of_lt_of_le (HX.out g q) HK4.out.1))⟩);clear hFR k1 k2 k3 HV4 HI4 HF v3 c3 d3 n1 n2 n3 hby HK1 HK2 HK3 HK4;have HPs:=HPL.out (s j);go_wp2_with fail;refine (zoP w2.heap.size _ (.slice ra rk rc) (.slice ta tk tc) (zR (s j) S.data.toList) _ HPs HV5.out HI5.out.2.own HN.out.1 HN.out.2).mono ?_;rintro e w6 ⟨rfl,nn,hw6⟩;have HI6:Hid (Inv w0 f (fun g=>X g\/(w1.heap.size<=g/\g<w6.heap.size)) (zoq s j (yA (s j) S.data.toList)) (zoq s j (yA (s j) S.data.toList)) vb vp nb np w6/\Out 152 3 w6 (fun g=>X g\/(w1.heap.size<=g/\g<w6.heap.size)) (.slice ra rk rc) (zR (s j) S.data.toList).length/\Kpx X w w6/\∀g,(Value.slice ra rk rc).ownBlock=some g->w1.heap.size<=g):=by
  have hv:∀g,(Value.slice ra rk rc).ownBlock=some g->w1.heap.size<=g:=fun g e=>by have h1:=(HV5.out.lt g e).1;have h2:=HW12.out;omega
  rw [hw6];refine ⟨(HI5.out.1.below (below_drewN (Below.refl _ _) nn)).lessX (fun g q=>q.imp id And.left),?_,HK5.out.trans (Kpx.of (below_drewN (Below.refl _ _) nn) (fun g q=>Nat.lt_of_lt_of_le (HX.out g q) HK5.out.1)),hv⟩;rcases zok HV5.out with ⟨h0,e⟩|⟨g,c,e⟩
  ·exact .inl ⟨e,h0⟩
  ·have hV:=HV5.out;rw [e] at hV;obtain ⟨r1,r2,r3⟩:=zia hV;have h12:=HW12.out;exact .inr ⟨g,c,e,r2,r1,.inr ⟨by omega,r1.lt⟩⟩
 clear hw6 HI5 HV5 HN;go_wp2_with fail;refine (zoD w0 f _ _ _ vb vp nb np (zR (s j) S.data.toList).length (.slice ra rk rc) _ HI6.out.1 (fun g q=>q.elim (fun q=>Nat.lt_of_lt_of_le (HX.out g q) HI6.out.2.2.1.1) And.right) HI6.out.2.1 zza zza).mono ?_;rintro e w7 ⟨rfl,vp',hI7,k7,s7⟩;have HI7:=zop (show Inv w0 f X (zoq s j (yA (s j) S.data.toList)) (zoq s j (yA (s j) S.data.toList)) vb vp' nb (np+1) w7/\Kpx X w w7 from by
  have ne:∀g,X g->(Value.slice ra rk rc).ownBlock≠some g:=fun g q e=>by have h1:=HI6.out.2.2.2 g e;have h2:=HX.out g q;have h3:=HBl.out;omega
  exact ⟨hI7.lessX (fun g q=>⟨.inl q,ne g q⟩),HI6.out.2.2.1.trans ⟨s7,fun g q=>k7 g (.inl q) (ne g q)⟩⟩)
 clear hI7 HI6 k7 s7;go_wp2;go_ret;exact ⟨by simp,_,vp',HI7.out⟩
theorem zpw(w0:World)(f:Fix)(X:Nat->Prop)(s:Nat->Sc)(vb vp:Value)(nb np:Nat)(w:World)(k a b:Int)(n q:Bool)(ca:Option Addr)(cl cc:Nat)(rom:Int)
  (h:Inv w0 f X s s vb vp nb np w) (hX:∀g,X g->g<w.heap.size) (hnp:np<=9000000) (ha1: -9223372036854775808<=a) (ha2:a<=9223372036854775807) (hn:(b.tmod 2 !=0)=true):
  Cq 45 #[Pq f.W,.agg #[Iq k,Iq a,Iq b,Zq ⟨#[]⟩,Tq n,Tq q,.slice ca cl cc,Iq rom]] w (Tq true) fun w'=>∃s' vp',Inv w0 f X s' s' vb vp' nb (np+1) w'/\Kpx X w w':=by
 have HI:=qH1 h;have HX:=qH1 hX;have HXF:Hid (∀j,j<2->(∀g,X g->g≠f.R j)):=fun j hj g q e=>(h.xm g q).1 (.inr (.inr (.inr ⟨j,hj,.inr e⟩)))
 have c2:=h.cell.1;have hWl:=h.wlt;have HBw:Hid (∀j,j<2->f.B j<w.heap.size/\f.R j<w.heap.size):=fun j hj=>⟨(h.sc j hj).lt,(h.rs j hj).cells.lt⟩
 have HN:=qH1 hn;clear h hn hX;go_enter func45,ntmps45;go_wp2_with fail;go_quiet ((go_at_call 43;exact Calls.quiet_of_same (zoQ a _ ha1 ha2)));obtain ⟨j,hj,hje⟩:=zpW a;rw [hje];clear hje ha1 ha2;have HW:Hid (Bq w ((w.alloc (.cells #[Iq k,Iq a,Iq b,Zq ⟨#[]⟩,Tq n,Tq q,.slice ca cl cc,Iq rom] 29)).drewN nq)):=below_drewN qBa nq;have x2:((w.alloc (.cells #[Iq k,Iq a,Iq b,Zq ⟨#[]⟩,Tq n,Tq q,.slice ca cl cc,Iq rom] 29)).drewN nq).cell? (Aq w.heap.size 2)=some (Iq b):=World.cell?_alloc_at _ _ _ _ rfl;have x3:((w.alloc (.cells #[Iq k,Iq a,Iq b,Zq ⟨#[]⟩,Tq n,Tq q,.slice ca cl cc,Iq rom] 29)).drewN nq).cell? (Aq w.heap.size 3)=some (Zq ⟨#[]⟩):=World.cell?_alloc_at _ _ _ _ rfl;generalize (w.alloc (.cells #[Iq k,Iq a,Iq b,Zq ⟨#[]⟩,Tq n,Tq q,.slice ca cl cc,Iq rom] 29)).drewN nq=w1 at*;have HI1:Hid (Inv w0 f X s s vb vp nb np w1):=HI.out.below HW.out;have HK1:=zop (Kpx.of HW.out HX.out);clear c2 hWl HI;go_wp2_with fail;rw [HN.out];refine (Kz _).mono ?_;rintro e wx ⟨rfl,hw⟩;subst wx;have c2:=HI1.out.cell.1;have d2:=HI1.out.sb j hj;have c3:=HI1.out.cell.2.1;have d3:=HI1.out.rb j hj;have hjI:(j:Int)<2:=by omega
 go_wp2_with fail;refine (zoK (f.B j) _).mono ?_;rintro e wx ⟨rfl,hw⟩;subst wx;go_wp2_with fail;refine (KB _).mono ?_;rintro e wx ⟨rfl,hw⟩;subst wx;have hby:=Js;have n1:=World.new_ne w1 _ x3;have n2:=World.new_ne w1 _ c3;have n3:=World.new_ne w1 _ d3;have HRl:Hid (f.R j<w1.heap.size/\f.R j<w.heap.size):=⟨(HI1.out.rs j hj).cells.lt,(HBw.out j hj).2⟩;clear c2 d2 x2;go_wp2_with fail;go_region_held (fun w'=>w'.cell? (Aq f.W 3)=some (Sq f.RB 2 f.cr)/\w'.cell? (Aq f.RB j)=some (.pointer (some ⟨f.R j,0,none⟩))/\w'.cell? (Aq w.heap.size 3)=some (Zq ⟨#[]⟩)) (go_keep) (first|(go_at_call 73;go_must (refine (zoF (f.R j) w1.heap.size 0 _ 0 (s j) [] _ rfl ?_ ?_ ?_ ?_ ?_ ?_).mono ?_;exact (HI1.out.rs j hj).sameBlock (Below.heap_alloc _ _ _ (HI1.out.rs j hj).cells.lt);simp;simp;(intro i hi;simp at hi);(have h1:=HRl.out;omega);simp [zR];rintro e w5 ⟨vr,rfl,hFR⟩;have HI5:Hid (Inv w0 f X s (zoq s j (s j)) vb vp nb np w5/\FedR (f.R j) _ w5 vr (s j) []):=⟨(HI1.out.below ((((Below.refl w1.heap.size w1).alloc (Nat.le_refl _) _).drew).drew)).feedR hj hFR.grown hFR.sc,hFR⟩;have k1:=HI5.out.1.cell.2.1;have k2:=HI5.out.1.rb j hj;have k3:=hFR.grown.cell (cell_later ((((Below.refl w1.heap.size w1).alloc (Nat.le_refl _) _).drew).drew) x3) (zo7 HRl.out.2))));have hupd:zoq s j (s j)=s:=by funext i;unfold zoq;split<;>simp_all
 rw [hupd] at HI5;obtain rfl:=hFR.nil rfl;have HK5:=zop (show Kpx X w w5 from HK1.out.trans ⟨Nat.le_trans zzc hFR.grown.size,fun g q=>(hFR.grown.block g (by have h1:=HX.out g q;have h2:=HK1.out.1;simp;omega) (fun e=>HXF.out j hj g q (by injection e))).trans (Below.heap_alloc _ _ _ (Nat.lt_of_lt_of_le (HX.out g q) HK1.out.1))⟩);clear hFR k1 k2 k3 x3 c3 d3 n1 n2 n3 hby hupd HI1;go_wp2_with fail;refine (zoP 0 0 (Nq) (Nq) [] _ zzc (World.ownsRow_nil _ _ _ _) (World.ownsRow_nil _ _ _ _) (fun _=>rfl) (fun _=>rfl)).mono ?_;rintro e w6 ⟨rfl,nn,hw6⟩;have HI6:Hid (Inv w0 f X s s vb vp nb np w6/\Kpx X w w6):=by rw [hw6];exact ⟨HI5.out.1.below (below_drewN (Below.refl _ _) nn),HK5.out.trans (Kpx.of (below_drewN (Below.refl _ _) nn) (fun g q=>Nat.lt_of_lt_of_le (HX.out g q) HK5.out.1))⟩
 clear hw6 HI5;go_wp2_with fail;refine (zoD w0 f X s s vb vp nb np 0 (Nq) _ HI6.out.1 (fun g q=>Nat.lt_of_lt_of_le (HX.out g q) HI6.out.2.1) (.inl ⟨rfl,rfl⟩) zza zza).mono ?_;rintro e w7 ⟨rfl,vp',hI7,k7,s7⟩;have HI7:=zop (show Inv w0 f X s s vb vp' nb (np+1) w7/\Kpx X w w7 from ⟨hI7.lessX (fun g q=>⟨q,fun e=>by cases e⟩),HI6.out.2.trans ⟨s7,fun g q=>k7 g q (fun e=>by cases e)⟩⟩);clear hI7 HI6 k7 s7;go_wp2;go_ret;exact ⟨by simp,_,vp',HI7.out⟩
def zom(w0:World)(f:Fix)(X:Nat->Prop)(nb np:Nat)(w w':World):Prop:= ∃s vb vp nb' np',nb'<=nb+2/\np'<=np+1/\Inv w0 f X s s vb vp nb' np' w'/\Kpx X w w'
theorem zpH{a:Int}(h0:¬a<0)(h1:¬255<a):∃b:UInt8,a=(b.toNat:Int):=⟨UInt8.ofNat a.toNat,by simp;omega⟩
theorem zmi{p:Prop} (q:p:=by
 rintro e w' ⟨rfl,vb',hI⟩;exact ⟨rfl,s,vb',vp,nb+2,np,Nat.le_refl _,by omega,hI⟩):p:=q
theorem zo1(w0:World)(f:Fix)(X:Nat->Prop)(s:Nat->Sc)(vb vp:Value)(nb np:Nat)(w:World)(k a b:Int)(S:ByteArray)(n q:Bool)(ca:Option Addr)(cl cc:Nat)(rom:Int)
  (h:Inv w0 f X s s vb vp nb np w) (hX:∀g,X g->g<w.heap.size) (hnb:nb<=9000000):
  Cq 44 #[Pq f.W,.agg #[Iq k,Iq a,Iq b,Zq S,Tq n,Tq q,.slice ca cl cc,Iq rom]] w (Tq true) fun w'=>zom w0 f X nb np w w':=by
 by_cases h0:a<0\/255<a
 ·refine (zoG w0 f X s vb vp nb np w k a b S n q ca cl cc rom 2 h hX hnb (fun w=>zpm a S w h0) (fun w=>zoM a S w h0)).mono ?_;exact zmi
 ·obtain ⟨c,rfl⟩:=zpH (a:=a) zza zza;by_cases h1:80<S.size
  ·refine (zoG w0 f X s vb vp nb np w k c.toNat b S n q ca cl cc rom 3 h hX hnb (fun w=>zo5 c S w h1) (fun w=>JE c S w h1)).mono ?_;exact zmi
  ·refine (zo0 w0 f X s vb vp nb np w k b c S n q ca cl cc rom h hX hnb zza).mono ?_;exact zmi
theorem zpg(w0:World)(f:Fix)(X:Nat->Prop)(s:Nat->Sc)(vb vp:Value)(nb np:Nat)(w:World)(k a b:Int)(S:ByteArray)(n q:Bool)(ca:Option Addr)(cl cc:Nat)(rom:Int)
  (h:Inv w0 f X s s vb vp nb np w) (hX:∀g,X g->g<w.heap.size) (hnp:np<=9000000) (hS:S.size<=4000000) (ha1: -9223372036854775808<=a) (ha2:a<=9223372036854775807):
  Cq 45 #[Pq f.W,.agg #[Iq k,Iq a,Iq b,Zq S,Tq n,Tq q,.slice ca cl cc,Iq rom]] w (Tq true) fun w'=>zom w0 f X nb np w w':=by
 by_cases h0:S.size=0/\(b.tmod 2 !=0)=true
 ·have hS0:S=⟨#[]⟩:=by
   rcases S with ⟨d⟩;have:d.size=0:=h0.1;rw [Array.eq_empty_of_size_eq_zero this]
  subst hS0;refine (zpw w0 f X s vb vp nb np w k a b n q ca cl cc rom h hX hnp ha1 ha2 h0.2).mono ?_;rintro e w' ⟨rfl,s',vp',hI⟩;exact ⟨rfl,s',vb,vp',nb,np+1,by omega,Nat.le_refl _,hI⟩
 ·refine (zpd w0 f X s vb vp nb np w k a b S n q ca cl cc rom h hX hnp hS ha1 ha2 h0).mono ?_;rintro e w' ⟨rfl,s',vp',hI⟩;exact ⟨rfl,s',vb,vp',nb,np+1,by omega,Nat.le_refl _,hI⟩
theorem zps(w0:World)(f:Fix)(X:Nat->Prop)(s:Nat->Sc)(vb vp:Value)(nb np:Nat)(w:World)(k a b:Int)(S:ByteArray)(n q:Bool)(ca:Option Addr)(cl cc:Nat)(rom:Int)
  (h:Inv w0 f X s s vb vp nb np w) (hX:∀g,X g->g<w.heap.size) (hnb:nb<=9000000) (hnp:np<=9000000) (hS:S.size<=4000000) (ha1: -9223372036854775808<=a) (ha2:a<=9223372036854775807) (hk:k=5\/k=6):
  Cq 31 #[Pq f.W,.agg #[Iq k,Iq a,Iq b,Zq S,Tq n,Tq q,.slice ca cl cc,Iq rom]] w (Tq true) fun w'=>zom w0 f X nb np w w':=by
 have HA:=qH5 hnb hnp hS ha1 ha2;have HI:Hid (∀c,Inv w0 f X s s vb vp nb np (w.alloc c)/\(∀g,X g->g<(w.alloc c).heap.size)/\∀w',zom w0 f X nb np (w.alloc c) w'->zom w0 f X nb np w w'):=fun c=>by
  have b:=(Below.refl w.heap.size w).alloc (Nat.le_refl _) c;refine ⟨h.below b,fun g q=>Nat.lt_of_lt_of_le (hX g q) b.size,?_⟩;rintro w' ⟨s',vb',vp',nb',np',q1,q2,q3,q4⟩;exact ⟨s',vb',vp',nb',np',q1,q2,q3,(Kpx.of b hX).trans q4⟩
 clear h hX hnb hnp hS ha1 ha2;rcases hk with rfl|rfl
 ·go_enter func31,ntmps31;go_wp2_with fail;refine (zo1 w0 f X s vb vp nb np _ 5 a b S n q ca cl cc rom (HI.out _).1 (HI.out _).2.1 HA.out.1).mono ?_;rintro e w' ⟨rfl,hI⟩;have H2:Hid (zom w0 f X nb np w w'):=(HI.out _).2.2 _ hI;clear hI;go_wp2;go_ret;exact ⟨by simp,H2.out⟩
 ·go_enter func31,ntmps31;go_wp2_with fail;refine (zpg w0 f X s vb vp nb np _ 6 a b S n q ca cl cc rom (HI.out _).1 (HI.out _).2.1 HA.out.2.1 HA.out.2.2.1 HA.out.2.2.2.1 HA.out.2.2.2.2).mono ?_;rintro e w' ⟨rfl,hI⟩;have H2:Hid (zom w0 f X nb np w w'):=(HI.out _).2.2 _ hI;clear hI;go_wp2;go_ret;exact ⟨by simp,H2.out⟩
def Jb:Sc:=⟨0,[],0⟩
def ptr(n:Nat):Value:=Pq n
def XL(B:Nat->Nat)(k:Nat):List Value:=(List.range k).map fun i=>ptr (B i)
theorem Zt{w w':World}{base te size n:Nat}{V:Value}{xs:List Value}(h:w.ownsRow base te size V n xs)(hV:∀g,V.ownBlock=some g->w'.heap[g]?=w.heap[g]?):w'.ownsRow base te size V n xs:=by
 refine ⟨h.1,?_⟩;rcases h.2 with h|⟨g,cap,cur,rfl,hbg,hgg,r⟩
 ·exact .inl h
 ·exact .inr ⟨g,cap,cur,rfl,hbg,(hV g rfl).trans hgg,r⟩
theorem zcQ(B:Nat->Nat)(k n:Nat):XL (fun i=>if i=k then n else B i) (k+1)=XL B k++ [ptr n]:=by
 unfold XL;rw [List.range_succ,List.map_append];congr 1
 ·exact List.map_congr_left fun i hi=>by
   have h1:=List.mem_range.1 hi;have h2:i≠k:=by omega
   simp [h2]
 ·simp
structure Boot (w0:World) (W:Nat) (tag:Nat->Nat) (B R:Nat->Nat) (ks kr:Nat) (vs vr:Value) (w:World):Prop where
 bel:Bq w0 w
 loW:w0.heap.size<=W
 loB:∀i,i<ks->w0.heap.size<=B i
 loR:∀i,i<kr->w0.heap.size<=R i
 blk:w.heap[W]?=some (.cells #[Nq,Nq,vs,vr,Nq,Nq] 82 (0,0))
 oS:w.ownsRow w0.heap.size 83 1 vs ks (XL B ks)
 oR:w.ownsRow w0.heap.size 85 1 vr kr (XL R kr)
 sc:∀i,i<ks->ScAt w (B i) Jb
 rs:∀i,i<kr->RsAt w (R i) Jb
 tW:tag W=0
 tS:∀g,vs.ownBlock=some g->tag g=1
 tR:∀g,vr.ownBlock=some g->tag g=2
 tB:∀i,i<ks->tag (B i)=3+2*i
 tr:∀i,i<kr->tag (R i)=4+2*i
section
variable {w0:World} {W:Nat} {tag:Nat->Nat} {B R:Nat->Nat} {ks kr:Nat} {vs vr:Value} {w:World}
theorem Boot.wlt(h:Boot w0 W tag B R ks kr vs vr w):W<w.heap.size:=(Array.getElem?_eq_some_iff.1 h.blk).1
theorem Boot.below{w':World}(h:Boot w0 W tag B R ks kr vs vr w)(hb:Bq w w'):Boot w0 W tag B R ks kr vs vr w':=
 ⟨h.bel.trans (hb.mono h.bel.size),h.loW,h.loB,h.loR,(hb.block _ h.wlt).trans h.blk,Zt h.oS (fun g hg=>hb.block g (h.oS.lt g hg).2),Zt h.oR (fun g hg=>hb.block g (h.oR.lt g hg).2),
  fun i hi=>(h.sc i hi).sameBlock (hb.block _ (h.sc i hi).lt),fun i hi=>(h.rs i hi).sameBlock (hb.block _ (h.rs i hi).cells.lt),h.tW,h.tS,h.tR,h.tB,h.tr⟩
theorem Boot.tagged{tag':Nat->Nat}(h:Boot w0 W tag B R ks kr vs vr w)(ht:∀g,g<w.heap.size->tag' g=tag g):Boot w0 W tag' B R ks kr vs vr w:=
 ⟨h.bel,h.loW,h.loB,h.loR,h.blk,h.oS,h.oR,h.sc,h.rs,(ht _ h.wlt).trans h.tW,fun g hg=>(ht g (h.oS.lt g hg).2).trans (h.tS g hg),fun g hg=>(ht g (h.oR.lt g hg).2).trans (h.tR g hg),
  fun i hi=>(ht _ (h.sc i hi).lt).trans (h.tB i hi),fun i hi=>(ht _ (h.rs i hi).cells.lt).trans (h.tr i hi)⟩
theorem zli{p:Prop} (q:p:=by
 rw [zcQ];exact Zt hown (fun g e=>by
  have e2:g'=g:=by simpa [Value.ownBlock] using e
  subst e2;exact Below.heap_setCell _ _ _ _ hgW)):p:=q
theorem Boot.pushS{n g' cap':Nat}{w3:World}(h:Boot w0 W tag B R ks kr vs vr w)(hn:ScAt w n Jb)(hlo:w0.heap.size<=n)(htn:tag n=3+2*ks)
  (hown:w3.ownsRow w0.heap.size 83 1 (Sq g' (ks+1) cap') (ks+1) (XL B ks++ [ptr n])) (hg:w.grownBy w3 vs.ownBlock) (hat:vs.ownBlock=some g'\/g'=w.heap.size):
  Boot w0 W (fun g=>if w.heap.size<=g then 1 else tag g) (fun i=>if i=ks then n else B i) R (ks+1) kr (Sq g' (ks+1) cap') vr (w3.setCell (Aq W 2) (Sq g' (ks+1) cap')):=by
 have hWne:some W≠vs.ownBlock:=fun e=>by have h1:=h.tS W e.symm;have h2:=h.tW;omega
 have hgW:g'≠W:=by
  rcases hat with e|e
  ·exact fun e2=>hWne (by rw [<-e2];exact e.symm)
  ·have:=h.wlt;omega
 have hkeep:∀g,g<w.heap.size->tag g≠0->tag g≠1->(w3.setCell (Aq W 2) (Sq g' (ks+1) cap')).heap[g]?=w.heap[g]?:=fun g hl h0 h1=>by
  rw [Below.heap_setCell _ _ _ _ (fun e=>h0 (by rw [e];exact h.tW))];exact hg.block g hl (fun e=>h1 (h.tS g e.symm))
 have htag:∀g,g<w.heap.size->(if w.heap.size<=g then 1 else tag g)=tag g:=fun g hl=>if_neg zza
 refine ⟨?_,h.loW,?_,?_,?_,?_,?_,?_,?_,?_,?_,?_,?_,?_⟩
 ·have hloW:=h.loW;refine ⟨hg.os.trans h.bel.os,hg.tape.trans h.bel.tape,hg.output.trans h.bel.output,?_,fun k hk=>?_⟩
  ·have h1:=h.bel.size;have h2:=hg.size;simp;omega
  ·rw [Below.heap_setCell _ _ _ _ (show k≠W by omega)];refine (hg.block k (by have:=h.bel.size;omega) (fun e=>?_)).trans (h.bel.block k hk);have:=(h.oS.lt k e.symm).1;omega
 ·intro i hi;by_cases e:i=ks
  ·simp [e];exact hlo
  ·simp [e];exact h.loB i zza
 ·exact h.loR
 ·exact XW ((hg.block W h.wlt hWne).trans h.blk) _
 ·exact zli
 ·exact Zt h.oR (fun g e=>hkeep g (h.oR.lt g e).2 (by rw [h.tR g e];omega) (by rw [h.tR g e];omega))
 ·intro i hi;by_cases e:i=ks
  ·simp only [if_pos e];exact hn.sameBlock (hkeep n hn.lt zza zza)
  ·simp only [if_neg e];exact (h.sc i zza).sameBlock (hkeep _ (h.sc i zza).lt (by rw [h.tB i zza];omega) (by rw [h.tB i zza];omega))
 ·intro i hi;exact (h.rs i hi).sameBlock (hkeep _ (h.rs i hi).cells.lt (by rw [h.tr i hi];omega) (by rw [h.tr i hi];omega))
 ·exact (htag _ h.wlt).trans h.tW
 ·intro g e;have e2:g'=g:=by simpa [Value.ownBlock] using e
  subst e2;rcases hat with e|e
  ·exact (htag _ (h.oS.lt _ e).2).trans (h.tS _ e)
  ·exact if_pos zza
 ·intro g e;exact (htag _ (h.oR.lt _ e).2).trans (h.tR _ e)
 ·intro i hi;by_cases e:i=ks
  ·simp only [if_pos e];exact (htag _ hn.lt).trans (by rw [htn,e])
  ·simp only [if_neg e];exact (htag _ (h.sc i zza).lt).trans (h.tB i zza)
 ·intro i hi;exact (htag _ (h.rs i hi).cells.lt).trans (h.tr i hi)
theorem Boot.pushR{n g' cap':Nat}{w3:World}(h:Boot w0 W tag B R ks kr vs vr w)(hn:RsAt w n Jb)(hlo:w0.heap.size<=n)(htn:tag n=4+2*kr)
  (hown:w3.ownsRow w0.heap.size 85 1 (Sq g' (kr+1) cap') (kr+1) (XL R kr++ [ptr n])) (hg:w.grownBy w3 vr.ownBlock) (hat:vr.ownBlock=some g'\/g'=w.heap.size):
  Boot w0 W (fun g=>if w.heap.size<=g then 2 else tag g) B (fun i=>if i=kr then n else R i) ks (kr+1) vs (Sq g' (kr+1) cap') (w3.setCell (Aq W 3) (Sq g' (kr+1) cap')):=by
 have hWne:some W≠vr.ownBlock:=fun e=>by have h1:=h.tR W e.symm;have h2:=h.tW;omega
 have hgW:g'≠W:=by
  rcases hat with e|e
  ·exact fun e2=>hWne (by rw [<-e2];exact e.symm)
  ·have:=h.wlt;omega
 have hkeep:∀g,g<w.heap.size->tag g≠0->tag g≠2->(w3.setCell (Aq W 3) (Sq g' (kr+1) cap')).heap[g]?=w.heap[g]?:=fun g hl h0 h1=>by
  rw [Below.heap_setCell _ _ _ _ (fun e=>h0 (by rw [e];exact h.tW))];exact hg.block g hl (fun e=>h1 (h.tR g e.symm))
 have htag:∀g,g<w.heap.size->(if w.heap.size<=g then 2 else tag g)=tag g:=fun g hl=>if_neg zza
 refine ⟨?_,h.loW,?_,?_,?_,?_,?_,?_,?_,?_,?_,?_,?_,?_⟩
 ·have hloW:=h.loW;refine ⟨hg.os.trans h.bel.os,hg.tape.trans h.bel.tape,hg.output.trans h.bel.output,?_,fun k hk=>?_⟩
  ·have h1:=h.bel.size;have h2:=hg.size;simp;omega
  ·rw [Below.heap_setCell _ _ _ _ (show k≠W by omega)];refine (hg.block k (by have:=h.bel.size;omega) (fun e=>?_)).trans (h.bel.block k hk);have:=(h.oR.lt k e.symm).1;omega
 ·exact h.loB
 ·intro i hi;by_cases e:i=kr
  ·simp [e];exact hlo
  ·simp [e];exact h.loR i zza
 ·exact XW ((hg.block W h.wlt hWne).trans h.blk) _
 ·exact Zt h.oS (fun g e=>hkeep g (h.oS.lt g e).2 (by rw [h.tS g e];omega) (by rw [h.tS g e];omega))
 ·exact zli
 ·intro i hi;exact (h.sc i hi).sameBlock (hkeep _ (h.sc i hi).lt (by rw [h.tB i hi];omega) (by rw [h.tB i hi];omega))
 ·intro i hi;by_cases e:i=kr
  ·simp only [if_pos e];exact hn.sameBlock (hkeep n hn.cells.lt zza zza)
  ·simp only [if_neg e];exact (h.rs i zza).sameBlock (hkeep _ (h.rs i zza).cells.lt (by rw [h.tr i zza];omega) (by rw [h.tr i zza];omega))
 ·exact (htag _ h.wlt).trans h.tW
 ·intro g e;exact (htag _ (h.oS.lt _ e).2).trans (h.tS _ e)
 ·intro g e;have e2:g'=g:=by simpa [Value.ownBlock] using e
  subst e2;rcases hat with e|e
  ·exact (htag _ (h.oR.lt _ e).2).trans (h.tR _ e)
  ·exact if_pos zza
 ·intro i hi;exact (htag _ (h.sc i hi).lt).trans (h.tB i hi)
 ·intro i hi;by_cases e:i=kr
  ·simp only [if_pos e];exact (htag _ hn.cells.lt).trans (by rw [htn,e])
  ·simp only [if_neg e];exact (htag _ (h.rs i zza).cells.lt).trans (h.tr i zza)
theorem Boot.inv2(h:Boot w0 W tag B R 2 2 vs vr w):∃f:Fix,(f.W=W/\f.vm=Nq/\f.vs=Nq)/\Inv w0 f No (fun _=>Jb) (fun _=>Jb) (Nq) (Nq) 0 0 w:=by
 obtain ⟨SB,cs,rfl,hS1,hS2⟩:=h.oS.form zza;obtain ⟨RB,cr,rfl,hR1,hR2⟩:=h.oR.form zza;have tS:=h.tS SB rfl;have tR:=h.tR RB rfl;have tW:=h.tW;refine ⟨⟨W,SB,RB,cs,cr,B,R,Nq,Nq⟩,⟨rfl,rfl,rfl⟩,h.bel,⟨?_,?_,?_,?_,?_,?_,?_,?_,?_⟩,?_,h.blk,?_,?_,h.sc,h.rs,⟨[],World.ownsRow_nil _ _ _ _,fun i hi=>absurd hi zza⟩,⟨[],World.ownsRow_nil _ _ _ _,fun i hi=>absurd hi zza⟩,?_,?_,fun g q=>q.elim⟩
 ·intro e;simp only at e;rw [e] at tW;omega
 ·intro e;simp only at e;rw [e] at tW;omega
 ·intro e;simp only at e;rw [e] at tS;omega
 ·intro k hk;have h1:=h.tB k hk;have h2:=h.tr k hk;exact ⟨fun e=>by simp only at e;rw [e] at tW;omega,fun e=>by simp only at e;rw [e] at tW;omega⟩
 ·intro k hk;have h1:=h.tB k hk;have h2:=h.tr k hk;exact ⟨fun e=>by simp only at e;rw [e] at tS;omega,fun e=>by simp only at e;rw [e] at tS;omega⟩
 ·intro k hk;have h1:=h.tB k hk;have h2:=h.tr k hk;exact ⟨fun e=>by simp only at e;rw [e] at tR;omega,fun e=>by simp only at e;rw [e] at tR;omega⟩
 ·intro k j hk hj e;have h1:=h.tB k hk;have h2:=h.tr j hj;simp only at e;rw [e] at h1;omega
 ·intro k j hk hj e;have h1:=h.tB k hk;have h2:=h.tB j hj;simp only at e;rw [e] at h1;omega
 ·intro k j hk hj e;have h1:=h.tr k hk;have h2:=h.tr j hj;simp only at e;rw [e] at h1;omega
 ·rintro g (e|e|e|⟨k,hk,e|e⟩)
  ·simp only at e;rw [e];exact h.loW
  ·simp only at e;rw [e];exact hS1
  ·simp only at e;rw [e];exact hR1
  ·simp only at e;rw [e];exact h.loB k hk
  ·simp only at e;rw [e];exact h.loR k hk
 ·intro k hk;refine (h.oS.cellAt k zza).trans ?_;simp [XL,ptr,hk]
 ·intro k hk;refine (h.oR.cellAt k zza).trans ?_;simp [XL,ptr,hk]
 ·intro g hg;simp [Value.ownBlock] at hg
 ·intro g hg;simp [Value.ownBlock] at hg
end
def OpAt(p:Int->Prop)(w:World)(g o:Nat):Prop:= ∃(k a b:Int) (S:ByteArray) (n q:Bool) (ca:Option Addr) (cl cc:Nat) (rom:Int),
 w.cell? (Aq g o)=some (Iq k)/\w.cell? ⟨g,o+1,none⟩=some (Iq a)/\w.cell? ⟨g,o+2,none⟩=some (Iq b)/\w.cell? ⟨g,o+3,none⟩=some (Zq S)/\w.cell? ⟨g,o+4,none⟩=some (Tq n)/\w.cell? ⟨g,o+5,none⟩=some (Tq q)/\w.cell? ⟨g,o+6,none⟩=some (.slice ca cl cc)/\w.cell? ⟨g,o+7,none⟩=some (Iq rom)/\
 S.size<=4000000/\ -9223372036854775808<=a/\a<=9223372036854775807/\p k
theorem OpAt.later{p:Int->Prop}{w w':World}{g o:Nat}(h:OpAt p w g o)(hb:Bq w w'):OpAt p w' g o:=by
 obtain ⟨k,a,b,S,n,q,ca,cl,cc,rom,h0,h1,h2,h3,h4,h5,h6,h7,r⟩:=h;exact ⟨k,a,b,S,n,q,ca,cl,cc,rom,cell_later hb h0,cell_later hb h1,cell_later hb h2,cell_later hb h3,cell_later hb h4,cell_later hb h5,cell_later hb h6,cell_later hb h7,r⟩
theorem zkw:(prog.info? 83).map (fun i=>(i.zero,i.size,i.bytes))=some (some (.pointer none),1,8):=by kernel_rfl
theorem zkx:(prog.info? 85).map (fun i=>(i.zero,i.size,i.bytes))=some (some (.pointer none),1,8):=by kernel_rfl
theorem zky:prog.underlying 75=some (.slice 83):=by kernel_rfl
theorem zkz:prog.underlying 76=some (.slice 85):=by kernel_rfl
theorem zdG(w:World):Boot w w.heap.size (fun _=>0) (fun _=>0) (fun _=>0) 0 0 (Nq) (Nq) (w.alloc (.cells #[Nq,Nq,Nq,Nq,Nq,Nq] 82)):=
 ⟨qBa,Nat.le_refl _,fun i hi=>absurd hi zza,fun i hi=>absurd hi zza,heap_alloc_new w _,World.ownsRow_nil _ _ _ _,World.ownsRow_nil _ _ _ _,fun i hi=>absurd hi zza,fun i hi=>absurd hi zza,rfl,fun g e=>by simp [Value.ownBlock] at e,fun g e=>by simp [Value.ownBlock] at e,fun i hi=>absurd hi zza,fun i hi=>absurd hi zza⟩
theorem zdH(w:World)(t:TypeId):RsAt (w.alloc (.cells #[Zq ⟨#[]⟩,Tq false,Iq 0] t)) w.heap.size Jb:=
 ⟨by simp [Jb],by simp [Jb],⟨World.cell?_alloc_at _ _ _ _ rfl,World.cell?_alloc_at _ _ _ _ rfl,World.cell?_alloc_at _ _ _ _ rfl,fun o=>World.frozen?_alloc_at _ _ _ _ rfl⟩⟩
theorem zdI(w:World)(o:Obj)(x:Value)(t:TypeId)(n:Nat)(hn:n=w.heap.size+1):∀j u,[x][j]?=some u->((w.alloc o).alloc (.cells #[x] t)).cell? (((Aq n 0):Addr).add j)=some u:=by
 have:=ye (w.alloc o) x t;rw [hn];simpa using this
theorem za5(n:Nat):∀u∈[Pq n],u.oneCell'=true:=by
 intro u hu;simp at hu;subst hu;rfl
section
variable {w0:World} {W:Nat} {tag:Nat->Nat} {B R:Nat->Nat} {ks kr:Nat} {vs vr:Value} {w:World}
theorem Boot.cell(h:Boot w0 W tag B R ks kr vs vr w):w.cell? (Aq W 2)=some vs/\w.cell? (Aq W 3)=some vr/\∀o,w.frozen? (Aq W o)=false:=by
 have hc:∀o,w.cell? (Aq W o)=_:=fun o=>cell_of_row w W o _ _ (0,0) h.blk
 exact ⟨hc 2,hc 3,fun o=>by simp [World.frozen?,h.blk]⟩
theorem Boot.shape(h:Boot w0 W tag B R ks kr vs vr w):∃aS cs ar cr,vs=.slice aS ks cs/\vr=.slice ar kr cr:=by
 have one:∀ {te n:Nat} {v:Value} {xs:List Value},w.ownsRow w0.heap.size te 1 v n xs->∃a c,v=.slice a n c:=by
  intro te n v xs h;rcases h.2 with ⟨rfl,rfl⟩|⟨g,cap,_,rfl,_⟩
  ·exact ⟨_,_,rfl⟩
  ·exact ⟨_,_,rfl⟩
 obtain ⟨a,c,e⟩:=one h.oS;obtain ⟨a',c',e'⟩:=one h.oR;exact ⟨a,c,a',c',e,e'⟩
theorem Boot.keptS{w3:World}(h:Boot w0 W tag B R ks kr vs vr w)(hg:w.grownBy w3 vs.ownBlock):w3.cell? (Aq W 2)=some vs/\w3.frozen? (Aq W 2)=false/\w3.cell? (Aq W 3)=some vr/\W<w3.heap.size:=by
 have hb:=hg.block W h.wlt (fun e=>by have h1:=h.tS W e.symm;have h2:=h.tW;omega);exact ⟨(World.cell?_of_block (a:=(Aq W 2)) hb).trans h.cell.1,(World.frozen?_of_block (a:=(Aq W 2)) hb).trans (h.cell.2.2 2),(World.cell?_of_block (a:=(Aq W 3)) hb).trans h.cell.2.1,Nat.lt_of_lt_of_le h.wlt hg.size⟩
theorem Boot.more(h:Boot w0 W tag B R ks kr vs vr w)(o p:Obj):∃tag',Boot w0 W tag' B R ks kr vs vr ((w.alloc o).alloc p)/\tag' w.heap.size=4+2*kr:=
 ⟨fun g=>if g=w.heap.size then 4+2*kr else tag g,(h.tagged (fun g hl=>if_neg zza)).below (xI _ _ _),if_pos rfl⟩
theorem Boot.endR{w3:World}{k g' cap':Nat}(h:Boot w0 W tag B R ks k vs vr w)(o:Obj)(t:TypeId)(n:Nat)(hn:n=w.heap.size)
  (hown:w3.ownsRow w0.heap.size 85 1 (Sq g' (k+1) cap') (k+1) (XL R k++ [ptr n])) (hg:((w.alloc (.cells #[Zq ⟨#[]⟩,Tq false,Iq 0] t)).alloc o).grownBy w3 vr.ownBlock) (hat:vr.ownBlock=some g'\/g'=((w.alloc (.cells #[Zq ⟨#[]⟩,Tq false,Iq 0] t)).alloc o).heap.size):
  ∃tag R',Boot w0 W tag B R' ks (k+1) vs (Sq g' (k+1) cap') (w3.setCell (Aq W 3) (Sq g' (k+1) cap')):=by
 subst hn;obtain ⟨tag',hB,ht⟩:=h.more (.cells #[Zq ⟨#[]⟩,Tq false,Iq 0] t) o;exact ⟨_,_,hB.pushR ((zdH w t).sameBlock (Below.heap_alloc _ _ _ zzc)) h.bel.size ht hown hg hat⟩
theorem Boot.keptR{w3:World}(h:Boot w0 W tag B R ks kr vs vr w)(hg:w.grownBy w3 vr.ownBlock):w3.cell? (Aq W 3)=some vr/\w3.frozen? (Aq W 3)=false:=by
 have hb:=hg.block W h.wlt (fun e=>by have h1:=h.tR W e.symm;have h2:=h.tW;omega);exact ⟨(World.cell?_of_block (a:=(Aq W 3)) hb).trans h.cell.2.1,(World.frozen?_of_block (a:=(Aq W 3)) hb).trans (h.cell.2.2 3)⟩
end
theorem U2(N:Nat)(v:Value)(cs:List Chn)(rom:Int)(w:World)(hc:CfAt N w v cs)(hl:cs.length<=100000000)(hb:yq cs<=100000000)(hv:yt rom cs=false):Cq 62 #[.agg #[v,Iq rom]] w (.tuple #[.pointer none,Iq 1]) fun w'=>Bq w w':=by
 obtain ⟨p,cap,rfl,hC⟩:=hc;have RN:=zgq N (.slice p cs.length cap) cs rom (w.alloc (.cells #[.slice p cs.length cap,Iq rom] 26)) (CfAt.below ⟨p,cap,rfl,hC⟩ qBa) hl hb hv;clear hC;go_enter func62,ntmps62;go_wp2_with (first|(go_at_call 61;refine RN.mono ?_;rintro e w1 ⟨rfl,hbl⟩;have HB:Hid (Bq w w1):=qBa.trans (hbl.mono zzc);clear hbl));go_ret2;exact ⟨rfl,HB.out⟩
structure NwS (w:World) (base:Nat) (rom:Int) (cs:List Chn) (Q:Nat) (w':World):Prop where
 bel:Bq w w'
 ds:∃tag f,f.Q=Q/\DS w' base tag f (SB.fresh rom cs)/\∀g,tag g≠0->w.heap.size<=g/\g<w'.heap.size
theorem U3(N:Nat)(v:Value)(cs:List Chn)(rom:Int)(w:World)(base:Nat)(hbs:base<=w.heap.size)(hN:N<=w.heap.size)(hc:CfAt N w v cs)(hl:cs.length<=100000000)(hb:yq cs<=100000000)(hv:yt rom cs=true):Calls prog 62 #[.agg #[v,Iq rom]] w fun e w'=> ∃Q,e=.returned (.tuple #[Pq Q,Iq 0])/\NwS w base rom cs Q w':=by
 obtain ⟨p,cap,rfl,hC⟩:=hc;have RN:=zgr N (.slice p cs.length cap) cs rom (w.alloc (.cells #[.slice p cs.length cap,Iq rom] 26)) zzd (CfAt.below ⟨p,cap,rfl,hC⟩ qBa) hl hb hv;clear hC;go_enter func62,ntmps62;go_wp2_with (first|(go_at_call 61;refine RN.mono ?_;rintro e w1 ⟨R,M,hR,hM,rfl,hA,hbl⟩;have HB:Hid (Bq w w1/\w.heap.size<=R/\w.heap.size<=M/\MAt w1 R M (MV M (Nq) (RS.fresh rom cs)) (RS.fresh rom cs).mem):=⟨qBa.trans (hbl.mono zzc),(by simp at hR;omega),(by simp at hM;omega),hA⟩;clear hbl hA hR hM));go_ret2;refine ⟨w1.heap.size+1,rfl,?_⟩;obtain ⟨hb1,hR,hM,hA⟩:=HB.out;have lR:=hA.lt;have lM:=hA.ltM;have nRM:=hA.ne;have s1:=hb1.size;refine ⟨hb1.trans (((Below.refl _ _).alloc zza _).alloc zzd _),fun g=>if g=w1.heap.size+1 then 1 else if g=w1.heap.size then 2 else if g=R then 3 else if g=M then 4 else 0,⟨w1.heap.size+1,w1.heap.size,R,M,Nq,Nq,Nq,Nq,Nq,Nq,[]⟩,rfl,⟨Blk.new' _ _ _ _ zzc,⟨RS.fresh rom cs,?_,⟨World.ownsRow_nil _ _ _ _,(fun g e=>by cases e)⟩,U1,fun _=>rfl⟩,?_,⟨rfl,World.ownsRow_nil _ _ _ _,fun i hi=>absurd hi (by simp [SB.fresh])⟩,⟨[],World.ownsRow_nil _ _ _ _,List.nodup_nil,by simp [SB.fresh,Pts.list]⟩,⟨[],World.ownsRow_nil _ _ _ _,List.nodup_nil,by simp [SB.fresh,Pts.list]⟩,World.ownsRow_nil _ _ _ _,.inl ⟨rfl,rfl⟩,⟨by show base<=w1.heap.size+1;omega,by show base<=w1.heap.size;omega,by show base<=R;omega,by show base<=M;omega⟩,?_,?_,?_,?_,(fun g e=>by cases e),(fun g e=>by cases e),(fun g e=>by cases e),(fun g e=>by cases e),(fun g e=>by cases e),(fun g e=>by cases e),(fun i v hv=>by simp at hv)⟩,fun g hg=>?_⟩
 ·exact hA.same ((Below.heap_alloc _ _ _ zzd).trans (Below.heap_alloc _ _ _ lR)) ((Below.heap_alloc _ _ _ zzd).trans (Below.heap_alloc _ _ _ lM))
 ·exact (zdH w1 _).sameBlock (Below.heap_alloc _ _ _ zzc)
 ·exact if_pos rfl
 ·exact (if_neg (by show ¬w1.heap.size=w1.heap.size+1;omega)).trans (if_pos rfl)
 ·exact (if_neg (by show ¬R=w1.heap.size+1;omega)).trans ((if_neg (by show ¬R=w1.heap.size;omega)).trans (if_pos rfl))
 ·exact (if_neg (by show ¬M=w1.heap.size+1;omega)).trans ((if_neg (by show ¬M=w1.heap.size;omega)).trans ((if_neg (by show ¬M=R;omega)).trans (if_pos rfl)))
 ·simp only at hg;simp only [World.size_alloc];split at hg
  ·omega
  ·split at hg
   ·omega
   ·split at hg
    ·omega
    ·split at hg
     ·omega
     ·exact absurd rfl hg
