import Derived.Deep.RegionLaw
import Derived.Test.YtcgjliflnnklnaaGreatDsXz
import Derived.Test.YtcgjliflnnklnaaGreatJ27
import Derived.Test.YtcgjliflnnklnaaGreatJ01
import Derived.Test.YtcgjliflnnklnaaGreatJ25
import Derived.Test.YtcgjliflnnklnaaGreatJ19
namespace Go.Proofs.YtcgjliflnnklnaaGreat
open Go.RowKit Tryz
set_option maxRecDepth 100000
set_option maxHeartbeats 20000000
def vO(S:SB):Prop:=S.pc.betw=true->S.pa=[]
theorem qZ(S:SB):vO S.settle:=by
 unfold vO SB.settle;split
 ·intro _;rfl
 ·next h=>intro q;exact absurd q h
theorem za3(f:Nat):∀ (S:SB) (l:Int) (wh:Bool) (c:Int),vO S->vO (S.go f l wh c).1:=by
 induction f with
 |zero=>intro S l wh c h;exact h
 |succ f ih=>
  intro S l wh c h;unfold SB.go;split
  ·exact h
  ·split
   ·exact qZ _
   ·exact ih _ _ _ _ (qZ _)
theorem Kb{S:SB}(h:vO S)(a:Int)(bs:List UInt8):vO (S.addPat a bs).1:=by
 unfold SB.addPat;repeat' split
 ·exact h
 ·exact h
 ·exact qZ _
theorem zdA{S:SB}(h:vO S)(c:UInt8)(n:Int)(m:List UInt8):vO (S.doW c n m).1:=by
 unfold SB.doW;repeat' split
 all_goals first
  |exact h
  |exact Kb h _ _
  |exact za3 _ _ _ _ _ h
  |(unfold SB.goIns;split<;>first|exact h|exact za3 _ _ _ _ _ h)
theorem zdB{S:SB}(h:vO S)(b:List UInt8):vO (S.doI b).1:=by
 unfold SB.doI;repeat' split
 all_goals first
  |exact h
  |exact zdA h _ _ _
theorem Kc{S:SB}(h:vO S)(p:Pk):vO (S.ans p).1:=by
 unfold SB.ans;repeat' split
 all_goals first
  |exact h
  |exact zdB h _
section
variable {S:SB} {N:Int}
theorem Sat.ans(h:Sat S N)(hN:N<3000000000000000000)(p:Pk)(hl:p.body.length<=200)(hrp:S.rp.length<=80):Sat (S.ans p).1 (N+1000000):=by
 have h0:=h.cycs;obtain ⟨w,B,s,hc,hS,hI⟩:=h;obtain ⟨e,w',g,cap,s',_,_,_,_,hT,hS',hI'⟩:=Z1 (VY (Tn.refl hc) hS hI zza hN p hl hrp);exact ⟨w',B,s',hT.c,hS',hI'⟩
theorem Sat.scan(h:Sat S N)(l:List UInt8)(hl:l.length<=4000000):Sat {S with sc:=yA S.sc l} N:=by
 obtain ⟨w,B,s,hc,hS,hI⟩:=h;have hT:Tn B s w (w.alloc (.cells (zS l).toArray 5)):=(Tn.refl hc).alloc _;have hB:zy (w.alloc (.cells (zS l).toArray 5)) w.heap.size 0 l:=fun i hi=>by
  rw [Nat.zero_add];exact (World.cell?_alloc_at _ _ _ _ rfl).trans (by simp [zS,hi])
 have hp:=jX l S.sc;obtain ⟨e,w',v,_,F⟩:=Z1 (jO B w.heap.size 0 l.length S.sc l _ (hS.scs hT) zza hB (by have:=hc.lt;omega) zza);obtain ⟨s1,T1,V1⟩:=scanned hT hS F;exact ⟨w',B,s1,T1.c,V1,hI.like rfl rfl⟩
theorem Yf(ps:List Pk)(k:Nat)(hk:k<ps.length):S.answers (ps.take (k+1))=(((S.answers (ps.take k)).1.ans ps[k]).1,(S.answers (ps.take k)).2++((S.answers (ps.take k)).1.ans ps[k]).2):=by
 rw [List.take_succ_eq_append_getElem hk,Yw]
end
section
variable {w w1:World} {base:Nat} {tag:Nat->Nat} {f:DF} {S:SB}
theorem DS.scan(h:DS w base tag f S){v:Value}{c:Sc}{ps:List Pk}(F:FedR f.Z w w1 v c ps):DS w1 base tag f {S with sc:=c} /\Chg tag tag w w1:=by
 have hk:∀g,g<w.heap.size->tag g≠2->w1.heap[g]?=w.heap[g]?:=fun g h1 h2=>F.grown.block g h1 (fun e=>by injection e with e;exact h2 (by rw [e];exact h.c.tZ))
 obtain ⟨m1,m2,m3,m4⟩:=h.c.mch.lt;obtain ⟨lb,b1,b2⟩:=h.c.bk;obtain ⟨lw,e1,e2⟩:=h.c.wt;have own:∀ {te size n:Nat} {v:Value} {xs:List Value} {m:Nat},w.ownsRow base te size v n xs->(∀g,v.ownBlock=some g->tag g=m+3)->∀g,v.ownBlock=some g->w1.heap[g]?=w.heap[g]?:=fun o hm g e=>hk g (o.lt g e).2 (by rw [hm g e];omega)
 refine ⟨⟨h.blk.same (hk _ h.blk.lt (by rw [h.c.tQ];decide)),h.c.mch.same (hk _ m1 (by rw [h.c.tR];decide)) (hk _ m2 (by rw [h.c.tM];decide)) (fun g e=>hk g (m4 g e).1 (by rw [h.c.th g e];decide)),F.sc,h.c.pat.same (own h.c.pat.own h.c.tp) (fun i v hv g e=>hk g (h.c.pat.blk hv g e) (by rw [h.c.ts i v hv g e];decide)),⟨lb,zG b1 (own b1 h.c.tb),b2⟩,⟨lw,zG e1 (own e1 h.c.tw),e2⟩,zG h.c.rg (own h.c.rg h.c.tr),?_,h.c.lo,h.c.tQ,h.c.tZ,h.c.tR,h.c.tM,h.c.th,h.c.tp,h.c.tb,h.c.tw,h.c.tr,h.c.tl,h.c.ts⟩,⟨F.grown.os,F.grown.tape,F.grown.output,F.grown.size,fun g h1 h2=>hk g h1 zza,fun _ _ h=>h⟩⟩;rcases h.c.ls with q|q
 ·exact .inl q
 ·exact .inr (q.same F.grown.size (fun g e=>hk g (q.blk g e) (by rw [h.c.tl g e];decide)))
theorem DS.told(h:DS w base tag f S)(hb:Below w.heap.size w w1)(rp:List UInt8)(g cap:Nat)(hg:w.heap.size<=g)(hg1:g<w1.heap.size)(hB:zy w1 g 0 (zH S.due rp))(hcap:(zH S.due rp).length<=cap)(hbase:base<=w.heap.size):Dn tag w base f.Q {S with rp:=rp,bg:=true,due:=S.due+1} (((w1.setCell ⟨f.Q,11,none⟩ (.slice (some ⟨g,0,none⟩) (zH S.due rp).length cap)).setCell ⟨f.Q,10,none⟩ (.bool true)).setCell ⟨f.Q,9,none⟩ (.int .i64 ((S.due+1).toNat:Int))):=by
 have hQ:=h.blk.lt;have ht:∀b,b<w.heap.size->(fun b=>if b=g then 10 else tag b) b=tag b:=fun b hb=>if_neg zza
 have k3:∀b,b≠f.Q->(((w1.setCell ⟨f.Q,11,none⟩ (.slice (some ⟨g,0,none⟩) (zH S.due rp).length cap)).setCell ⟨f.Q,10,none⟩ (.bool true)).setCell ⟨f.Q,9,none⟩ (.int .i64 ((S.due+1).toNat:Int))).heap[b]?=w1.heap[b]?:=fun b hb=>(Below.heap_setCell _ _ _ _ hb).trans ((Below.heap_setCell _ _ _ _ hb).trans (Below.heap_setCell _ _ _ _ hb))
 have d:=h.c.kept (w':=((w1.setCell ⟨f.Q,11,none⟩ (.slice (some ⟨g,0,none⟩) (zH S.due rp).length cap)).setCell ⟨f.Q,10,none⟩ (.bool true)).setCell ⟨f.Q,9,none⟩ (.int .i64 ((S.due+1).toNat:Int))) (tag':=fun b=>if b=g then 10 else tag b) hQ (by simpa using hb.size) (fun b h1 _ h3=>(k3 b (fun e=>h3 (by rw [e];exact h.c.tQ))).trans (hb.block b h1)) ht;refine ⟨fun b=>if b=g then 10 else tag b,{f with vl:=.slice (some ⟨g,0,none⟩) (zH S.due rp).length cap},rfl,⟨(((h.blk.below hb).put 11 _).put 10 _).put 9 _,d.mch,d.sc,d.pat,d.bk,d.wt,d.rg,.inr ?_,d.lo,d.tQ,d.tZ,d.tR,d.tM,d.th,d.tp,d.tb,d.tw,d.tr,fun b e=>?_,d.ts⟩,⟨hb.os,hb.tape,hb.output,by simpa using hb.size,fun b h1 h2=>(k3 b (fun e=>by rw [e,h.c.tQ] at h2;cases h2)).trans (hb.block b h1),fun b h1 h2=>(ht b h1).trans h2⟩⟩
 ·show LB _ base _ (zH (S.due+1-1) rp);rw [show S.due+1-1=S.due from by simp];exact ⟨g,cap,rfl,hcap,by omega,by simpa using hg1,fun i hi=>(World.cell?_of_block (a:=⟨g,0+i,none⟩) (k3 g zza)).trans (hB i hi)⟩
 ·injection e with e;exact if_pos e.symm
end
theorem Hn{S:SB}{N:Int}(h:Sat S N)(hi:vO S)(hr:S.rp.length<=80)(ps:List Pk)(hb:∀p∈ps,p.body.length<=200)(k:Nat)(hk:k<=ps.length)(hN:N+1000000*(k:Int)<=3000000000000000000):Sat (S.answers (ps.take k)).1 (N+1000000*(k:Int))/\vO (S.answers (ps.take k)).1/\(S.answers (ps.take k)).1.rp.length<=80/\(S.answers (ps.take k)).2.length<=201*k:=by
 induction k with
 |zero=>exact ⟨by simpa [SB.answers] using h,hi,hr,by simp [SB.answers]⟩
 |succ k ih=>
  obtain ⟨h1,h2,h3,h4⟩:=ih zza zza;rw [Yf ps k zza];have e:=h1.ans zza ps[k] (hb _ (List.getElem_mem _)) h3;rw [show N+1000000*(k:Int)+1000000=N+1000000*((k+1:Nat):Int) from by omega] at e;refine ⟨e,Kc h2 _,zam _ _ h3,?_⟩;have:=(UG _ ps[k] h3).2;rw [List.length_append];omega
structure DP (tag:Nat->Nat) (w:World) (base Q:Nat) (w1:World) (pg pb:Nat) (pk:Array Value) (S:SB) (out:List UInt8) (v:Value) (wx:World) (tag1:Nat->Nat) (f1:DF):Prop where
 q:f1.Q=Q
 d:DS wx base tag1 f1 S
 c:Chg tag tag1 w wx
 p:∀j,wx.cell? ⟨pg,j,none⟩=w1.cell? ⟨pg,j,none⟩
 pt:tag1 pg=0
 pl:pg<w1.heap.size
 o:wx.ownsRow w1.heap.size 5 1 v out.length (zS out)
 ot:∀g,v.ownBlock=some g->tag1 g=0
 tn:∀g,wx.heap.size<=g->tag1 g=0
 z:w1.heap.size<=wx.heap.size
 z0:w.heap.size<=w1.heap.size
 b:Blk wx pb pk 152
 bt:tag1 pb=0
def DQ(tag:Nat->Nat)(w:World)(base Q:Nat)(w1:World)(pg pb:Nat)(pk:Array Value)(S:SB)(out:List UInt8)(v:Value)(wx:World):Prop:= ∃tag1 f1,DP tag w base Q w1 pg pb pk S out v wx tag1 f1
section
variable {tag tag1:Nat->Nat} {w w1 wx wy:World} {base Q pg pb:Nat} {pk:Array Value} {S:SB} {out:List UInt8} {v:Value} {f1:DF}
theorem DP.below(h:DP tag w base Q w1 pg pb pk S out v wx tag1 f1)(hb:Below wx.heap.size wx wy):DP tag w base Q w1 pg pb pk S out v wy tag1 f1:=
 ⟨h.q,h.d.below hb,h.c.trans (Chg.below tag1 hb),fun j=>(hb.cell (p:=⟨pg,j,none⟩) (Nat.lt_of_lt_of_le h.pl h.z)).trans (h.p j),h.pt,h.pl,zG h.o (fun g e=>hb.block g (h.o.lt g e).2),h.ot,fun g hg=>h.tn g (Nat.le_trans hb.size hg),Nat.le_trans h.z hb.size,h.z0,h.b.below hb,h.bt⟩
theorem DQ.below(h:DQ tag w base Q w1 pg pb pk S out v wx)(hb:Below wx.heap.size wx wy):DQ tag w base Q w1 pg pb pk S out v wy:=by
 obtain ⟨t,f,h⟩:=h;exact ⟨t,f,h.below hb⟩
theorem DP.more(h:DP tag w base Q w1 pg pb pk S out v wx tag1 f1){L:List UInt8}{g' cap' n:Nat}(hg:wx.grownBy wy v.ownBlock)(hat:v.ownBlock=some g'\/g'=wx.heap.size)(hn:n=(out++L).length)(hown:wy.ownsRow w1.heap.size 5 1 (.slice (some ⟨g',0,none⟩) n cap') n (zS out++zS L))(hpb:v.ownBlock≠some pb):DP tag w base Q w1 pg pb pk S (out++L) (.slice (some ⟨g',0,none⟩) n cap') wy tag1 f1:=by
 subst hn;have k:∀g,g<wx.heap.size->v.ownBlock≠some g->wy.heap[g]?=wx.heap[g]?:=fun g h1 h2=>hg.block g h1 (fun e=>h2 e.symm)
 have hz:=hg.size;have hpv:v.ownBlock≠some pg:=fun e=>by have:=(h.o.lt pg e).1;have:=h.pl;omega
 refine ⟨h.q,h.d.kept hz (fun g h1 h2=>k g h1 (fun e=>h2 (h.ot g e))) (fun _ _=>rfl),⟨hg.os.trans h.c.os,hg.tape.trans h.c.tape,hg.output.trans h.c.output,Nat.le_trans h.c.size hz,fun g h1 h2=>(k g (Nat.lt_of_lt_of_le h1 h.c.size) (fun e=>by have:=(h.o.lt g e).1;have:=h.z0;omega)).trans (h.c.block g h1 h2),h.c.tags⟩,fun j=>(World.cell?_of_block (a:=⟨pg,j,none⟩) (k pg (Nat.lt_of_lt_of_le h.pl h.z) hpv)).trans (h.p j),h.pt,h.pl,?_,fun g e=>?_,fun g h1=>h.tn g (Nat.le_trans hz h1),Nat.le_trans h.z hz,h.z0,h.b.same (k pb h.b.lt hpb),h.bt⟩
 ·rw [Za];exact hown
 ·injection e with e;rcases hat with q|q
  ·exact h.ot g (by rw [q, <-e])
  ·exact h.tn g (by have e:g'=g:=e;omega)
theorem DP.did(h:DP tag w base Q w1 pg pb pk S out v wx tag1 f1){S':SB}(hd:Dn tag1 wx base Q S' wy):DQ tag w base Q w1 pg pb pk S' out v wy:=by
 obtain ⟨t2,f2,e2,d2,c2⟩:=hd;have hpg:=Nat.lt_of_lt_of_le h.pl h.z;have tg:∀g,g<wx.heap.size->tag1 g=0->yF wy t2 g=0:=fun g h1 h2=>(xM g (Nat.lt_of_lt_of_le h1 c2.size)).trans (c2.tags g h1 h2)
 exact ⟨yF wy t2,f2,e2,d2.old,(h.c.trans c2).trans (Chg.old t2 wy),fun j=>(World.cell?_of_block (a:=⟨pg,j,none⟩) (c2.block pg hpg h.pt)).trans (h.p j),tg pg hpg h.pt,h.pl,zG h.o (fun g e=>c2.block g (h.o.lt g e).2 (h.ot g e)),fun g e=>tg g (h.o.lt g e).2 (h.ot g e),fun g hg=>xN hg,Nat.le_trans h.z c2.size,h.z0,h.b.same (c2.block pb h.b.lt h.bt),tg pb h.b.lt h.bt⟩
end
theorem zdV(d:UInt8):((d.toNat:Int)+1).tmod 256=((d+1).toNat:Int):=by
 have:=d.toNat_lt;rw [Int.tmod_eq_emod_of_nonneg zza,UInt8.toNat_add];simp
theorem zdW(d:UInt8):((d.toNat:Int)-1)%256=((d-1).toNat:Int):=by
 have:=d.toNat_lt;rw [UInt8.toNat_sub];simp;omega
theorem Um(x:Int):∀u∈[Value.int .u8 x],u.oneCell'=true:=by
 exact zkI
section
end
section
theorem Vn(S:SB):S.settle.due=S.due:=by
 unfold SB.settle;split<;>rfl
theorem Kt(S:SB):S.cyc1.1.due=S.due:=Vn S.ran.1
theorem yK{α:Type}{p:Prop}[Decidable p]{a b:SB × α}{d:UInt8}(h1:a.1.due=d)(h2:b.1.due=d):(if p then a else b).1.due=d:=by split<;>assumption
theorem zd4(f:Nat):∀ (S:SB) (l:Int) (wh:Bool) (k:Int),(S.go f l wh k).1.due=S.due:=by
 induction f with
 |zero=>intro S l wh k;rfl
 |succ f ih=>
  intro S l wh k;rw [SB.go];cases S.look l k with
  |some why=>rfl
  |none=>
   refine yK (Kt S) ?_;exact (ih S.cyc1.1 _ wh (k+1)).trans (Kt S)
theorem Ho(S:SB)(a:Int)(bs:List UInt8):(S.addPat a bs).1.due=S.due:=
 yK rfl (yK rfl (Vn {S with pa:=S.pa++ [xt S.pa.length a bs] }))
theorem zgL(S:SB)(b:UInt8)(n:Int)(m:List UInt8):(S.doW b n m).1.due=S.due:=
 yK (Ho S n m) (yK rfl (yK rfl (yK rfl (yK rfl (yK rfl (yK rfl (yK (zd4 _ S n false 0) (yK (yK rfl (zd4 _ S n true 0)) rfl))))))))
theorem zgM(S:SB)(b:List UInt8):(S.doI b).1.due=S.due:=by
 refine yK rfl (yK rfl (yK rfl (yK rfl (yK rfl (yK rfl (yK rfl (yK rfl (yK rfl ?_))))))));cases yP b.tail with
 |none=>rfl
 |some l=>exact yK rfl (zgL S _ _ _)
end
def FdR(tag:Nat->Nat)(w:World)(base Q:Nat)(R:SB × List UInt8)(e:Ending)(w':World):Prop:=
 ∃v tag' f',e=.returned v/\f'.Q=Q/\DS w' base tag' f' R.1/\Chg tag tag' w w'/\w'.ownsRow w.heap.size 5 1 v R.2.length (zS R.2)/\∀g,v.ownBlock=some g->tag' g=0
theorem zbX{p:Prop} (q:p:=by
 obtain ⟨t,f',b1,b2,b3,b4,b5,b6,b7,b8,b9⟩:=HEND.out _ _ ⟨_,_,HM.out⟩;exact ⟨k+1,t,f',by omega,by go_num,b1,b2,b3,b4,b5,b6,b7,b8,b9⟩):p:=q
theorem zlS{w:World}{base:Nat}{tag:Nat->Nat}{f:DF}{S:SB}{N:Int}(h:DS w base tag f S)(hs:Sat S N)(hN:N<=2000000000000000000)(hi:vO S)(hrp:S.rp.length<=80)(hb:base<=w.heap.size)(bb off cap:Nat)(l:List UInt8)(hl:l.length<=4000000)(hcap:l.length<=cap)(hB:zy w bb off l)(hne:bb≠f.Z):Calls prog 76 #[.pointer (some ⟨f.Q,0,none⟩),.slice (some ⟨bb,off,none⟩) l.length cap] w (FdR tag w base f.Q (S.feed l)):=by
 obtain ⟨i0,hi0,hz0,hz1,hz2⟩:=info_parts xP;have hpl:=jX l S.sc;have hpb:=ZZ l S.sc;have hO:DS w base (yF w tag) f S:=h.old;have SF:=GW f.Z bb off cap S.sc l w h.c.sc zza hcap hB hne zza;have SCN:=fun (w1:World) (v:Value) (F:FedR f.Z w w1 v (yA S.sc l) (zR S.sc l))=>hO.scan F
 have AOK:=fun k hk hN=>Hn (hs.scan l hl) (show vO {S with sc:=yA S.sc l} from hi) hrp (zR S.sc l) hpb k hk hN
 have c1:w.cell? ⟨f.Q,1,none⟩=some (.pointer (some ⟨f.Z,0,none⟩)):=h.blk.cell 1;unfold SB.feed;generalize zR S.sc l=ps at*;generalize yA S.sc l=sc1 at*;have HB:=hid hpb;have HA:=hid AOK;have HSC:=hid SCN;have HC:Hid (Chg tag (yF w tag) w w/\∀g,w.heap.size<=g->yF w tag g=0):=⟨Chg.old tag w,fun g hg=>xN hg⟩;clear h hs hi hrp hB hne SCN AOK hpb hO;generalize ({S with sc:=sc1}:SB)=S1 at*;have hps4:ps.length<=4000000:=by omega
 clear hpl hcap;go_enter func76,ntmps76;go_wp2_with fail;refine SF.mono ?_;rintro e w1 ⟨v,rfl,F1⟩;clear SF;obtain ⟨D1,C1⟩:=HSC.out _ _ F1;have hs1:=F1.grown.size;by_cases hps:ps=[]
 ·subst hps;obtain rfl:=F1.nil rfl;have HE:Hid (FdR tag w base f.Q (S1.answers []) (.returned (.slice none 0 0)) w1):=⟨_,_,f,rfl,rfl,D1,HC.out.1.trans C1,World.ownsRow_nil _ _ _ _,fun g e=>by cases e⟩;clear F1 D1 C1 HSC;go_wp2_with fail;go_loopw [5,7] (fun v i wr=>v=.slice none 0 0/\i=.int .i64 0/\wr=w1) (fun _ i _=>1);case atStart=>exact ⟨rfl,rfl,rfl⟩
  case round=>
   obtain ⟨rfl,rfl,rfl⟩:=hrel;go_wp2;go_ret;exact HE.out
 ·have hps1:ps.length≠0:=fun e=>hps (List.eq_nil_of_length_eq_zero e)
  obtain ⟨pg,pcap,rfl⟩:∃g cap,v=.slice (some ⟨g,0,none⟩) ps.length cap:=by
   rcases F1.own.2 with ⟨-,e⟩|⟨g,cap,cur,e, -⟩
   ·exact absurd e hps1
   ·exact ⟨g,cap,e⟩
  have HPC:Hid (∀k j,(hk:k<ps.length)->j<3->w1.cell? ⟨pg,k*3+j,none⟩=(ps[k].cells)[j]?):=fun k j hk hj=>(F1.own.cellAt (k*3+j) zza).trans (Qx _ k j hk hj)
  have hpg:=F1.own.lt pg rfl;have HZ:Hid (w.heap.size<=w1.heap.size/\base<=w1.heap.size):=⟨hs1,by omega⟩;have HW0:Hid (∃tag1 f1,f1.Q=f.Q/\DS w1 base tag1 f1 (S1.answers (ps.take 0)).1/\Chg tag tag1 w w1/\tag1 pg=0/\pg<w1.heap.size):=⟨_,f,rfl,D1,HC.out.1.trans C1,HC.out.2 pg hpg.1,hpg.2⟩;clear F1 D1 C1 HSC hpg hs1 hps hps1;go_wp2_with fail;go_loopw [5,7] (fun v i wr=> ∃(k:Nat) (tag1:Nat->Nat) (f1:DF),k<=ps.length/\i=.int .i64 k/\f1.Q=f.Q/\DS wr base tag1 f1 (S1.answers (ps.take k)).1/\Chg tag tag1 w wr/\(∀j,wr.cell? ⟨pg,j,none⟩=w1.cell? ⟨pg,j,none⟩)/\tag1 pg=0/\pg<w1.heap.size/\wr.ownsRow w1.heap.size 5 1 v (S1.answers (ps.take k)).2.length (zS (S1.answers (ps.take k)).2)/\(∀g,v.ownBlock=some g->tag1 g=0)/\w1.heap.size<=wr.heap.size) (fun _ i _=>ps.length-(intOf i).toNat);case atStart=>
   obtain ⟨t,f1,a1,a2,a3,a4,a5⟩:=HW0.out;exact ⟨0,t,f1,by omega,rfl,a1,a2,a3,fun _=>rfl,a4,a5,World.ownsRow_nil _ _ _ _,(fun g e=>by cases e),Nat.le_refl _⟩
  case round=>
   obtain ⟨k,tag1,f1,hk,rfl,a1,a2,a3,a4,a5,a6,a7,a8,a9⟩:=hrel;by_cases hlt1:k<ps.length
   ·have q0:=(a4 (k*3+0)).trans (HPC.out k 0 hlt1 zzb);have q1:=(a4 (k*3+1)).trans (HPC.out k 1 hlt1 zzb);have q2:=(a4 (k*3+2)).trans (HPC.out k 2 hlt1 zzb);have hbd:=HB.out ps[k] (List.getElem_mem _);obtain ⟨sat,idl,hrp,hol⟩:=HA.out k hk zza;have hol:(S1.answers (ps.take k)).2.length<=900000000:=by omega
    have HST:=hid (Yf (S:=S1) ps k hlt1);generalize hPK:ps[k]=pk at*;obtain ⟨sq,bd,ba⟩:=pk;change wr.cell? ⟨pg,k*3,none⟩=some (.int .i64 (sq:Int)) at q0;change wr.cell? ⟨pg,k*3+1,none⟩=some (.string ⟨bd.toArray⟩) at q1;change wr.cell? ⟨pg,k*3+2,none⟩=some (.bool ba) at q2;change bd.length<=200 at hbd;generalize (S1.answers (ps.take k)).1=Sk at*;generalize (S1.answers (ps.take k)).2=out at*;have HP:Hid (DP tag w base f.Q w1 pg wr.heap.size #[.int .i64 (sq:Int),.string ⟨bd.toArray⟩,.bool ba] Sk out u5 (wr.alloc (.cells #[.int .i64 (sq:Int),.string ⟨bd.toArray⟩,.bool ba] 152)) (yF wr tag1) f1):=by
     have hb0:Below wr.heap.size wr (wr.alloc (.cells #[.int .i64 (sq:Int),.string ⟨bd.toArray⟩,.bool ba] 152)):=(Below.refl _ _).alloc (Nat.le_refl _) _;have hpw:=Nat.lt_of_lt_of_le a6 a9;exact ⟨a1,a2.old.below hb0,(a3.trans (Chg.old tag1 wr)).trans (Chg.below _ hb0),fun j=>(hb0.cell (p:=⟨pg,j,none⟩) hpw).trans (a4 j),(xM pg hpw).trans a5,a6,zG a7 (fun g e=>hb0.block g (a7.lt g e).2),fun g e=>(xM g (a7.lt g e).2).trans (a8 g e),fun g hg=>xN (by simp at hg;omega),by simp;omega,HZ.out.1,Blk.new _ _ _,xN (Nat.le_refl _)⟩
    have HV:Hid (u5.ownBlock≠some wr.heap.size):=fun e=>by have:=(a7.lt _ e).2;omega
    have HX:=hid (show Sat Sk (N+1000000*(k:Int))/\vO Sk/\Sk.rp.length<=80/\N+1000000*(k:Int)<3000000000000000000 from ⟨sat,idl,hrp,by omega⟩);have hkl:(k:Int)<(ps.length:Int):=by omega
    clear a1 a2 a3 a4 a5 a6 a7 a8 a9 sat idl hrp HW0 HPC HA HB hPK;go_upto_region 6 with fail;go_cut [8] from 24 to 27 (fun pp wx=>pp=.pointer (some ⟨wr.heap.size,0,none⟩)/\DQ tag w base f.Q w1 pg wr.heap.size #[.int .i64 (sq:Int),.string ⟨bd.toArray⟩,.bool ba] Sk out u5 wx)
    case first=>
     go_wp2_with fail;go_meet;case rel=>exact ⟨rfl,_,_,HP.out⟩
    case rest=>
     obtain ⟨rfl,hD⟩:=hcut;have HEND:Hid (∀v' wy,DQ tag w base f.Q w1 pg wr.heap.size #[.int .i64 (sq:Int),.string ⟨bd.toArray⟩,.bool ba] (Sk.ans ⟨sq,bd,ba⟩).1 (out++(Sk.ans ⟨sq,bd,ba⟩).2) v' wy->∃tag1 f1,f1.Q=f.Q/\DS wy base tag1 f1 (S1.answers (ps.take (k+1))).1/\Chg tag tag1 w wy/\(∀j,wy.cell? ⟨pg,j,none⟩=w1.cell? ⟨pg,j,none⟩)/\tag1 pg=0/\pg<w1.heap.size/\wy.ownsRow w1.heap.size 5 1 v' (S1.answers (ps.take (k+1))).2.length (zS (S1.answers (ps.take (k+1))).2)/\(∀g,v'.ownBlock=some g->tag1 g=0)/\w1.heap.size<=wy.heap.size):=fun v' wy q=>by
      obtain ⟨t,f',q⟩:=q;rw [HST.out];exact ⟨t,f',q.q,q.d,q.c,q.p,q.pt,q.pl,q.o,q.ot,q.z⟩
     clear HP HST;have HPQ:=hid hD;obtain ⟨tag2,f2,hP⟩:=hD;have p0:wc.cell? ⟨wr.heap.size,0,none⟩=some (.int .i64 (sq:Int)):=hP.b.cell 0;have p1:wc.cell? ⟨wr.heap.size,1,none⟩=some (.string ⟨bd.toArray⟩):=hP.b.cell 1;have p2:wc.cell? ⟨wr.heap.size,2,none⟩=some (.bool ba):=hP.b.cell 2;have zc:=hP.z;cases ba
     ·have hQ9:wc.cell? ⟨f.Q,9,none⟩=some (.int .i64 (Sk.due.toNat:Int)):=by rw [<-hP.q];exact hP.d.blk.cell 9
      go_upto_region 10 with fail;go_cut [37] from 38 to 44 (fun o wx=>o=.bool (decide (sq=Sk.due.toNat))/\DQ tag w base f.Q w1 pg wr.heap.size #[.int .i64 (sq:Int),.string ⟨bd.toArray⟩,.bool false] Sk out u5 wx)
      case first=>
       have HD:=hid (show decide (sq=Sk.due.toNat)=((sq:Int)==(Sk.due.toNat:Int)) from by rw [Bool.eq_iff_iff];simp;omega);clear hP;go_quiet (fail);go_wp2;go_meet;case rel=>exact ⟨by rw [HD.out],HPQ.out.below (below_drewN (Below.refl _ _) _)⟩
      case rest=>
       obtain ⟨rfl,hD⟩:=hcut;clear HPQ hP p0 p1 p2 zc hQ9;have HPQ:=hid hD;obtain ⟨tag2,f2,hP⟩:=hD;have p0:wc.cell? ⟨wr.heap.size,0,none⟩=some (.int .i64 (sq:Int)):=hP.b.cell 0;have p1:wc.cell? ⟨wr.heap.size,1,none⟩=some (.string ⟨bd.toArray⟩):=hP.b.cell 1;have zc:=hP.z;have hQ9:wc.cell? ⟨f.Q,9,none⟩=some (.int .i64 (Sk.due.toNat:Int)):=by rw [<-hP.q];exact hP.d.blk.cell 9
       have hQ10:wc.cell? ⟨f.Q,10,none⟩=some (.bool Sk.bg):=by rw [<-hP.q];exact hP.d.blk.cell 10
       by_cases hsq:sq=Sk.due.toNat
       ·rw [decide_eq_true hsq];subst hsq;have RD:=rdo hP.d HX.out.1 HX.out.2.2.2 HX.out.2.1 (Nat.le_trans HZ.out.2 hP.z) bd hbd;rw [hP.q] at RD;have HA2:Hid (Sk.ans ⟨Sk.due.toNat,bd,false⟩=({(Sk.doI bd).1 with rp:=(Sk.doI bd).2,bg:=true,due:=(Sk.doI bd).1.due+1},43::zH Sk.due (Sk.doI bd).2)):=by
         show _=_;unfold SB.ans;rw [if_neg zzc,if_pos rfl]
        have hdl:=XX Sk bd;have HDU:=hid (zgM Sk bd);have hfl:0<(zH Sk.due (Sk.doI bd).2).length/\(zH Sk.due (Sk.doI bd).2).length<=200:=⟨by simp [zH],jW _ _ hdl⟩;rw [HA2.out,show out++(({(Sk.doI bd).1 with rp:=(Sk.doI bd).2,bg:=true,due:=(Sk.doI bd).1.due+1}:SB),43::zH Sk.due (Sk.doI bd).2).2=(out++ [43])++zH Sk.due (Sk.doI bd).2 from by simp] at HEND;generalize Sk.doI bd=R at*;clear HA2 hQ9 hQ10;go_upto_region 11 with fail;go_cut [9] from 45 to 48 (fun r wx=>r=.string ⟨R.2.toArray⟩/\DQ tag w base f.Q w1 pg wr.heap.size #[.int .i64 (Sk.due.toNat:Int),.string ⟨bd.toArray⟩,.bool false] R.1 out u5 wx)
        case first=>
         go_wp2_with (first|(go_at_call 102;refine RD.mono ?_;rintro e w2 ⟨rfl,hd⟩;have HM:=hid (hP.did hd);clear hd));go_meet;case rel=>exact ⟨rfl,HM.out⟩
        case rest=>
         obtain ⟨rfl,hD⟩:=hcut;clear HPQ hP p0 p1 zc RD;obtain ⟨tag3,f3,hP⟩:=hD;obtain ⟨w5,h5w⟩:∃w5,w5=wc:=⟨_,rfl⟩
         subst wc;have p0:w5.cell? ⟨wr.heap.size,0,none⟩=some (.int .i64 (Sk.due.toNat:Int)):=hP.b.cell 0;have RF:=YJ Sk.due ⟨R.2.toArray⟩ w5 (by show R.2.toArray.size<=80;simpa using hdl);simp only at RF;generalize hFL:zH Sk.due R.2=fl at*;have HFL:=hid hFL;clear hFL;go_upto_region 12 with fail;go_cut [10,11] from 49 to 55 (fun ff _ wx=>qk w5 wx ff fl)
         case first=>
          go_wp2_with (first|(go_at_call 68;refine RF.mono ?_;rintro e w2 ⟨v,rfl,hv⟩;have HM:=hid hv;clear hv));go_meet;case rel=>exact HM.out
         case rest=>
          obtain ⟨gl,cl,rfl,l1,l2,l3,l4,l5⟩:=hcut;have HTD:=hid (hP.did (show Dn tag3 w5 base f.Q {R.1 with rp:=R.2,bg:=true,due:=R.1.due+1} (((wc.setCell ⟨f.Q,11,none⟩ (.slice (some ⟨gl,0,none⟩) fl.length cl)).setCell ⟨f.Q,10,none⟩ (.bool true)).setCell ⟨f.Q,9,none⟩ (.int .i64 ((Sk.due+1).toNat:Int))) from by
           have q:=hP.d.told l5 R.2 gl cl l3 l4 (by rw [HDU.out,HFL.out];exact l2) (by rw [HDU.out,HFL.out];exact l1) (Nat.le_trans HZ.out.2 hP.z);rw [HDU.out,HFL.out,hP.q] at q;rw [HDU.out];exact q))
          have hQlt:f.Q<wc.heap.size:=by rw [<-hP.q];exact Nat.lt_of_lt_of_le hP.d.blk.lt l5.size
          have d5:=hP.d.blk.below l5;rw [hP.q] at d5;have q9:wc.cell? ⟨f.Q,9,none⟩=some (.int .i64 (Sk.due.toNat:Int)):=by rw [<-HDU.out];exact d5.cell 9
          have q10:wc.cell? ⟨f.Q,10,none⟩=some (.bool R.1.bg):=d5.cell 10;have q11:wc.cell? ⟨f.Q,11,none⟩=some f3.vl:=d5.cell 11;have f9:=d5.free 9;have f10:=d5.free 10;have f11:=d5.free 11;have dn:=zdV Sk.due;have hd8:(Sk.due.toNat:Int)<=255:=by have:=Sk.due.toNat_lt;omega
          have HBl:Hid (zy (((wc.setCell ⟨f.Q,11,none⟩ (.slice (some ⟨gl,0,none⟩) fl.length cl)).setCell ⟨f.Q,10,none⟩ (.bool true)).setCell ⟨f.Q,9,none⟩ (.int .i64 ((Sk.due+1).toNat:Int))) gl 0 fl):=fun i hi=>by
           have hne:gl≠f.Q:=by rw [<-hP.q];have:=hP.d.blk.lt;omega
           exact (World.cell?_of_block (a:=⟨gl,0+i,none⟩) ((Below.heap_setCell _ _ _ _ hne).trans ((Below.heap_setCell _ _ _ _ hne).trans (Below.heap_setCell _ _ _ _ hne)))).trans (l2 i hi)
          have HGL:Hid (u5.ownBlock≠some gl):=fun e=>by have:=(hP.o.lt gl e).2;omega
          have hgl:=l4;generalize (Sk.due+1).toNat=dx at*;clear hP d5 l1 l2 l3 l4 l5 p0 RF HX;go_upto_region 16 with fail;have HLT:Hid (gl<(((wc.setCell ⟨f.Q,11,none⟩ (.slice (some ⟨gl,0,none⟩) fl.length cl)).setCell ⟨f.Q,10,none⟩ (.bool true)).setCell ⟨f.Q,9,none⟩ (.int .i64 (dx:Int))).heap.size):=by show gl<_;simpa using hgl
          generalize (((wc.setCell ⟨f.Q,11,none⟩ (.slice (some ⟨gl,0,none⟩) fl.length cl)).setCell ⟨f.Q,10,none⟩ (.bool true)).setCell ⟨f.Q,9,none⟩ (.int .i64 (dx:Int)))=W at*;clear q9 q10 q11 f9 f10 f11 dn hd8 hQlt hgl;obtain ⟨tag4,f4,hP⟩:=HTD.out;have ho:=hP.o;have zc:=hP.z;have hbl:=hP.b.lt;go_cut [5] from 72 to 74 (fun v wx=> ∃g' cap',v=.slice (some ⟨g',0,none⟩) (out.length+1) cap'/\v.ownBlock≠some wr.heap.size/\zy wx gl 0 fl/\DQ tag w base f.Q w1 pg wr.heap.size #[.int .i64 (Sk.due.toNat:Int),.string ⟨bd.toArray⟩,.bool false] {R.1 with rp:=R.2,bg:=true,due:=R.1.due+1} (out++ [43]) v wx)
          case first=>
           go_wp2_with (first|(at_builtin;go_must (refine wpList_append_lies _ rfl (.tmp 72) (.tmp 73) 35 rfl w1.heap.size 5 i0 (.int .u8 0) 1 1 zx hi0 hz0 hz1 hz2 rfl zzb u5 out.length (zS out) rfl (ho.alloc _) ⟨W.heap.size,0,none⟩ 1 1 [.int .u8 43] rfl rfl (ye _ _ _) (Um _) zzb zze zza zzd _ rfl ?_;intro g' cap' w4 hown hgrow hat hlt;have HM:=hid ((hP.below ((Below.refl _ _).alloc (Nat.le_refl _) _)).more (L:=[43]) (n:=out.length+1) hgrow hat zzc hown HV.out);have HG:Hid ((Value.slice (some ⟨g',0,none⟩) (out.length+1) cap').ownBlock≠some wr.heap.size):=fun e=>(by injection e with e;have e:g'=wr.heap.size:=e;rcases hat with z|z;exact HV.out (by rw [z,e]);simp at z;omega);have HB2:Hid (zy w4 gl 0 fl):=fun i hi=>(World.cell?_of_block (a:=⟨gl,0+i,none⟩) ((hgrow.block gl (by simp;have:=HLT.out;omega) (fun e=>HGL.out e.symm)).trans (Below.heap_alloc _ _ _ HLT.out))).trans (HBl.out i hi);clear hown hgrow hat hlt)));go_meet;case rel=>exact ⟨_,_,rfl,HG.out,HB2.out,_,_,HM.out⟩
          case rest=>
           obtain ⟨g',cap',rfl,hG,hB3,tag5,f5,hP⟩:=hcut;have HG:=hid hG;have HBl:=hid hB3;have HO:Hid (wc.ownsRow w1.heap.size 5 1 (.slice (some ⟨g',0,none⟩) (out.length+1) cap') (out.length+1) (zS (out++ [43]))):=by have:=hP.o;rwa [List.length_append] at this
           have zc:=hP.z;clear hB3 hG ho;go_wp2_with (first|(at_builtin;go_must (refine wpList_append_lies _ rfl (.tmp 75) (.tmp 76) 35 rfl w1.heap.size 5 i0 (.int .u8 0) 1 1 zx hi0 hz0 hz1 hz2 rfl zzb (.slice (some ⟨g',0,none⟩) (out.length+1) cap') (out.length+1) (zS (out++ [43])) rfl HO.out ⟨gl,0,none⟩ fl.length cl (zS fl) rfl (by rw [yR];simp) (jt HBl.out) (Zo fl) hfl.1 zze zza zza _ rfl ?_;intro g2 cap2 w5 hown hgrow hat hlt;have HM:=hid (hP.more (L:=fl) (n:=out.length+1+fl.length) hgrow hat zzd hown HG.out);clear hown hgrow hat hlt)));go_roundw;case rel=>
            exact zbX
           case measure=>simp [intOf];omega
       ·rw [decide_eq_false hsq];have HAN:Hid (Sk.ans ⟨sq,bd,false⟩=if Sk.bg=true/\sq=(Sk.due-1).toNat then (Sk,43::zH (Sk.due-1) Sk.rp) else (Sk,[63])):=by
         show _=_;unfold SB.ans;rw [if_neg zzc,if_neg hsq]
        go_upto_region 18 with fail;go_cut [78] from 79 to 93 (fun o wx=>o=.bool (Sk.bg&&decide (sq=(Sk.due-1).toNat))/\DQ tag w base f.Q w1 pg wr.heap.size #[.int .i64 (sq:Int),.string ⟨bd.toArray⟩,.bool false] Sk out u5 wx)
        case first=>
         have HD:=hid (show decide (sq=(Sk.due-1).toNat)=((sq:Int)==((Sk.due-1).toNat:Int)) from by rw [Bool.eq_iff_iff];simp;omega);have CT:=fun w=>yb ((Sk.due.toNat:Int)-1) w
         rw [zdW] at CT;have hd8:(Sk.due.toNat:Int)<=255:=by have:=Sk.due.toNat_lt;omega
         have hd0:(0:Int)<=(Sk.due.toNat:Int):=by omega
         generalize (Sk.due-1).toNat=dl at*;generalize Sk.due.toNat=dn at*;clear hP hsq;cases hbg:Sk.bg
         ·rw [hbg] at hQ10;go_quiet (fail);go_wp2;go_meet;case rel=>exact ⟨by rw [hbg];simp,HPQ.out.below (below_drewN (Below.refl _ _) _)⟩
         ·rw [hbg] at hQ10;go_quiet ((go_at_call 91;with_reducible exact Calls.quiet_of_same (CT _)));go_wp2;go_meet;case rel=>exact ⟨by rw [hbg,HD.out];simp,HPQ.out.below (below_drewN (Below.refl _ _) _)⟩
        case rest=>
         obtain ⟨rfl,hD⟩:=hcut;clear HPQ hP p0 p1 zc hQ9 hQ10;obtain ⟨tag2,f2,hP⟩:=hD;have zc:=hP.z;have ho:=hP.o;cases hag:(Sk.bg&&decide (sq=(Sk.due-1).toNat))
         ·have HA2:Hid (Sk.ans ⟨sq,bd,false⟩=(Sk,[63])):=by
           show _=_;rw [HAN.out,if_neg (fun q=>by rw [q.1,decide_eq_true q.2] at hag;cases hag)]
          rw [HA2.out] at HEND;clear HAN hag;go_wp2_with (first|(at_builtin;go_must (refine wpList_append_lies _ rfl (.tmp 28) (.tmp 29) 35 rfl w1.heap.size 5 i0 (.int .u8 0) 1 1 zx hi0 hz0 hz1 hz2 rfl zzb u5 out.length (zS out) rfl (ho.alloc _) ⟨wc.heap.size,0,none⟩ 1 1 [.int .u8 63] rfl rfl (ye _ _ _) (Um _) zzb zze zza zzd _ rfl ?_;intro g' cap' w4 hown hgrow hat hlt;have HM:=hid ((hP.below ((Below.refl _ _).alloc (Nat.le_refl _) _)).more (L:=[63]) (n:=out.length+1) hgrow hat zzc hown HV.out);clear hown hgrow hat hlt)));go_roundw;case rel=>
           exact zbX
          case measure=>simp [intOf];omega
         ·simp only [Bool.and_eq_true,decide_eq_true_eq] at hag;have HA2:Hid (Sk.ans ⟨sq,bd,false⟩=(Sk,43::zH (Sk.due-1) Sk.rp)):=by
           show _=_;rw [HAN.out,if_pos hag]
          have hfl:0<(zH (Sk.due-1) Sk.rp).length/\(zH (Sk.due-1) Sk.rp).length<=200:=⟨by simp [zH],jW _ _ HX.out.2.2.1⟩;rw [HA2.out,show out++(Sk,43::zH (Sk.due-1) Sk.rp).2=(out++ [43])++zH (Sk.due-1) Sk.rp from by simp] at HEND;have HLS:Hid (∀wy tag2 f2,DS wy base tag2 f2 Sk->LB wy base f2.vl (zH (Sk.due-1) Sk.rp)):=fun wy tag2 f2 q=>q.c.ls.resolve_left (fun z=>by rw [hag.1] at z;cases z.1)
          generalize zH (Sk.due-1) Sk.rp=fl at*;have hbl:=hP.b.lt;clear HAN hag hsq HA2;go_upto_region 19 with fail;go_cut [5] from 94 to 96 (fun v wx=> ∃g' cap',v=.slice (some ⟨g',0,none⟩) (out.length+1) cap'/\v.ownBlock≠some wr.heap.size/\DQ tag w base f.Q w1 pg wr.heap.size #[.int .i64 (sq:Int),.string ⟨bd.toArray⟩,.bool false] Sk (out++ [43]) v wx)
          case first=>
           go_wp2_with (first|(at_builtin;go_must (refine wpList_append_lies _ rfl (.tmp 94) (.tmp 95) 35 rfl w1.heap.size 5 i0 (.int .u8 0) 1 1 zx hi0 hz0 hz1 hz2 rfl zzb u5 out.length (zS out) rfl (ho.alloc _) ⟨wc.heap.size,0,none⟩ 1 1 [.int .u8 43] rfl rfl (ye _ _ _) (Um _) zzb zze zza zzd _ rfl ?_;intro g' cap' w4 hown hgrow hat hlt;have HM:=hid ((hP.below ((Below.refl _ _).alloc (Nat.le_refl _) _)).more (L:=[43]) (n:=out.length+1) hgrow hat zzc hown HV.out);have HG:Hid ((Value.slice (some ⟨g',0,none⟩) (out.length+1) cap').ownBlock≠some wr.heap.size):=fun e=>(by injection e with e;have e:g'=wr.heap.size:=e;rcases hat with z|z;exact HV.out (by rw [z,e]);simp at z;omega);clear hown hgrow hat hlt)));go_meet;case rel=>exact ⟨_,_,rfl,HG.out,_,_,HM.out⟩
          case rest=>
           obtain ⟨g',cap',rfl,hG,tag3,f3,hP⟩:=hcut;have HG:=hid hG;obtain ⟨gl,cl,el,l1,l2,l3,l4⟩:=HLS.out _ _ _ hP.d;have HBl:=hid l4;have HO:Hid (wc.ownsRow w1.heap.size 5 1 (.slice (some ⟨g',0,none⟩) (out.length+1) cap') (out.length+1) (zS (out++ [43]))):=by have:=hP.o;rwa [List.length_append] at this
           have q11:wc.cell? ⟨f.Q,11,none⟩=some (.slice (some ⟨gl,0,none⟩) fl.length cl):=by rw [<-el, <-hP.q];exact hP.d.blk.cell 11
           have zc:=hP.z;clear el l1 l2 l3 l4 hG ho;go_wp2_with (first|(at_builtin;go_must (refine wpList_append_lies _ rfl (.tmp 97) (.tmp 101) 35 rfl w1.heap.size 5 i0 (.int .u8 0) 1 1 zx hi0 hz0 hz1 hz2 rfl zzb (.slice (some ⟨g',0,none⟩) (out.length+1) cap') (out.length+1) (zS (out++ [43])) rfl HO.out ⟨gl,0,none⟩ fl.length cl (zS fl) rfl (by rw [yR];simp) (jt HBl.out) (Zo fl) hfl.1 zze zza zza _ rfl ?_;intro g2 cap2 w5 hown hgrow hat hlt;have HM:=hid (hP.more (L:=fl) (n:=out.length+1+fl.length) hgrow hat zzd hown HG.out);clear hown hgrow hat hlt)));go_roundw;case rel=>
            exact zbX
           case measure=>simp [intOf];omega
     ·have ho:=hP.o;go_wp2_with (first|(at_builtin;go_must (refine wpList_append_lies _ rfl (.tmp 34) (.tmp 35) 35 rfl w1.heap.size 5 i0 (.int .u8 0) 1 1 zx hi0 hz0 hz1 hz2 rfl zzb u5 out.length (zS out) rfl (ho.alloc _) ⟨wc.heap.size,0,none⟩ 1 1 [.int .u8 45] rfl rfl (ye _ _ _) (Um _) zzb zze zza zzd _ rfl ?_;intro g' cap' w4 hown hgrow hat hlt;have HM:=hid ((hP.below ((Below.refl _ _).alloc (Nat.le_refl _) _)).more (L:=[45]) (n:=out.length+1) hgrow hat zzc hown HV.out);clear hown hgrow hat hlt)));go_roundw;case rel=>
       exact zbX
      case measure=>simp [intOf];omega
   ·obtain rfl:k=ps.length:=by omega
    have HE:Hid (FdR tag w base f.Q (S1.answers ps) (.returned u5) wr):=by
     rw [List.take_length] at a2 a7;exact ⟨_,_,f1,rfl,a1,a2,a3,K8 a7 HZ.out.1,a8⟩
    clear a1 a2 a3 a4 a5 a6 a7 a8 a9 HW0;go_wp2;go_ret;exact HE.out
theorem zcJ:(prog.info? 139).map (fun i=>(i.zero,i.size,i.bytes))=some (some (.agg #[.slice none 0 0,.slice none 0 0,.slice none 0 0,.slice none 0 0,.int .i64 0]),5,104):=by kernel_rfl
theorem zcK:prog.underlying 77=some (.slice 139):=by kernel_rfl
def Out(e size:Nat)(w:World)(X:Nat->Prop)(v:Value)(n:Nat):Prop:=(v=.slice none 0 0/\n=0)\/ ∃g cap,v=.slice (some ⟨g,0,none⟩) n cap/\n<=cap/\RowAt w g e size cap/\X g
theorem UO(m n:Nat)(v:Value)(X:Nat->Prop)(w:World)(hm:m<=1000000000)(hn:n<=100000000)(hv:Out 5 1 w X v n):Calls prog 99 #[v,.int .i64 m] w fun e w'=> ∃v1 v2 v3,e=.returned (.agg #[v,v1,v2,v3,.int .i64 m])/\w.grownBy w' v.ownBlock/\
   AllX 5 1 (xfB m) v.ownBlock w.heap.size w' v n/\AllX 5 1 (xfB m) v.ownBlock w.heap.size w' v1 (n+1)/\AllX 5 1 (xfB m) v.ownBlock w.heap.size w' v2 (n+2)/\AllX 5 1 (xfB m) v.ownBlock w.heap.size w' v3 (n+64):=by
 rcases hv with ⟨rfl,rfl⟩|⟨g,cap,rfl,h1,h2,_⟩
 ·exact UQ m w hm
 ·exact UR m g n cap hn h1 w hm h2
section
variable {w0:World} {f:Fix} {X:Nat->Prop} {s t:Nat->Sc} {vb vp:Value} {nb np:Nat} {w w1:World}
theorem Out.blk{e size:Nat}{v:Value}{n g:Nat}(h:Out e size w X v n)(hg:v.ownBlock=some g):X g:=by
 rcases h with ⟨rfl,_⟩|⟨g',cap,rfl,_,_,hX⟩
 ·simp [Value.ownBlock] at hg
 ·simp [Value.ownBlock] at hg;subst hg;exact hX
theorem Inv.own{e size:Nat}{v:Value}{n:Nat}(h:Inv w0 f X s t vb vp nb np w)(hv:Out e size w X v n)(hg:w.grownBy w1 v.ownBlock):Inv w0 f (fun g=>X g/\v.ownBlock≠some g) s t vb vp nb np w1:=
 h.kept hg.os hg.tape hg.output hg.size (fun k hl hnX=>hg.block k hl (fun e=>hnX (hv.blk e.symm))) (fun _ hX=>.inl hX.1)
theorem zin{e size:Nat}{xf:Nat->Nat->Value}{i n:Nat}{v v1 v2 v3:Value}(h:Inv w0 f X s t vb vp nb np w)(hXlt:∀g,X g->g<w.heap.size)(hv:Out e size w X v n)(hn:n<=100000000)
  (h0:AllX e size (xf i) v.ownBlock w.heap.size w1 v n) (h1:AllX e size (xf i) v.ownBlock w.heap.size w1 v1 (n+1)) (h2:AllX e size (xf i) v.ownBlock w.heap.size w1 v2 (n+2)) (h3:AllX e size (xf i) v.ownBlock w.heap.size w1 v3 (n+64)):
  Ent e size xf w1 (Bad f (fun g=>X g/\v.ownBlock≠some g) vb vp) i v v1 v2 v3:=by
 refine ⟨n,hn,h0.free,h1.free,h2.free,h3.free,?_⟩;intro g hg;have hok:Ok v.ownBlock w.heap.size g:=by
  rcases hg with q|q|q|q
  ·exact (h0.blk q).2
  ·exact (h1.blk q).2
  ·exact (h2.blk q).2
  ·exact (h3.blk q).2
 rintro (q|q|q|q)
 ·rcases hok with e|e
  ·exact (h.xm g (hv.blk e.symm)).1 q
  ·have:=h.mlt g q;omega
 ·rcases hok with e|e
  ·exact (h.vbm g q).2.2 (hv.blk e.symm)
  ·have:=(h.bk.vlt q).2;omega
 ·rcases hok with e|e
  ·exact (h.vpm g q).2 (hv.blk e.symm)
  ·have:=(h.pk.vlt q).2;omega
 ·rcases hok with e|e
  ·exact q.2 e.symm
  ·have:=hXlt g q.1;omega
theorem Inv.cell(h:Inv w0 f X s t vb vp nb np w):w.cell? ⟨f.W,2,none⟩=some (.slice (some ⟨f.SB,0,none⟩) 2 f.cs)/\w.cell? ⟨f.W,3,none⟩=some (.slice (some ⟨f.RB,0,none⟩) 2 f.cr)/\w.cell? ⟨f.W,4,none⟩=some vb/\w.cell? ⟨f.W,5,none⟩=some vp/\∀o,w.frozen? ⟨f.W,o,none⟩=false:=by
 have hc:∀o,w.cell? ⟨f.W,o,none⟩=_:=fun o=>cell_of_row w f.W o _ _ (0,0) h.blk
 exact ⟨hc 2,hc 3,hc 4,hc 5,fun o=>by simp [World.frozen?,h.blk]⟩
theorem V7{te base n:Nat}{v:Value}{xs:List Value}(h:w.ownsRow base te 5 v n xs):(n=0/\v=.slice none 0 0)\/ ∃g c,v=.slice (some ⟨g,0,none⟩) n c:=by
 rcases h.2 with ⟨e,e2⟩|⟨g,cap,_,e,_⟩
 ·exact .inl ⟨e2,e⟩
 ·exact .inr ⟨g,cap,e⟩
theorem Z0{te base n:Nat}{v:Value}{xs:List Value}(h:w.ownsRow base te 5 v n xs):∃a c,v=.slice a n c:=by
 rcases V7 h with ⟨rfl,rfl⟩|⟨g,c,rfl⟩
 ·exact ⟨_,_,rfl⟩
 ·exact ⟨_,_,rfl⟩
theorem zfl(w:World)(n:Nat)(hn:n=w.heap.size)(a b c d m:Value)(T:TypeId):∀j u,([a,b,c,d,m]:List Value)[j]?=some u->((w.alloc (.cells #[a,b,c,d,m] T)).drew).cell? ((⟨n,0,none⟩:Addr).add j)=some u:=by
 subst hn;exact World.news_of_block (w:=(w.alloc (.cells #[a,b,c,d,m] T)).drew) (cs:=#[a,b,c,d,m]) (t:=T) (fr:=(0,0)) (heap_alloc_new w _)
end
theorem zfm(a1 a2 a3 a4:Option Addr)(k1 k2 k3 k4 c1 c2 c3 c4:Nat)(m:Int):∀u∈ ([.slice a1 k1 c1,.slice a2 k2 c2,.slice a3 k3 c3,.slice a4 k4 c4,.int .i64 m]:List Value),u.oneCell'=true:=by
 intro u hu;simp at hu;rcases hu with rfl|rfl|rfl|rfl|rfl<;>rfl
theorem zfn{e size:Nat}{xf:Nat->Nat->Value}{w0:World}{f:Fix}{X X':Nat->Prop}{s t:Nat->Sc}{vb vp:Value}{nb np i:Nat}{w w1:World}{v v1 v2 v3:Value}(h:Inv w0 f X s t vb vp nb np w1)(hE:Ent e size xf w1 (Bad f X vb vp) i v v1 v2 v3)(hX:∀g,X g->g<w1.heap.size)
  (hk:∀g,X' g->v.ownBlock≠some g->w1.heap[g]?=w.heap[g]?) (o p:Obj) (hXX:∀g,X' g->v.ownBlock≠some g->X g:=by intro g a b;exact ⟨a,b⟩):
  Inv w0 f X s t vb vp nb np ((w1.alloc o).alloc p).drew/\Ent e size xf ((w1.alloc o).alloc p).drew (Bad f X vb vp) i v v1 v2 v3/\(∀g,X g->g<((w1.alloc o).alloc p).drew.heap.size)/\(∀g,X' g->v.ownBlock≠some g->((w1.alloc o).alloc p).drew.heap[g]?=w.heap[g]?/\g<((w1.alloc o).alloc p).drew.heap.size):=by
 have hb:Below w1.heap.size w1 ((w1.alloc o).alloc p).drew:=(xI w1 o p).drew;refine ⟨h.below hb,hE.kept (fun g hl _=>hb.block g hl) (fun _ _ q=>q),fun g hg=>Nat.lt_of_lt_of_le (hX g hg) hb.size,fun g a b=>?_⟩;have hl:=hX g (hXX g a b);exact ⟨(hb.block g hl).trans (hk g a b),Nat.lt_of_lt_of_le hl hb.size⟩
section
variable {w0:World} {f:Fix} {X:Nat->Prop} {s t:Nat->Sc} {vb vp:Value} {nb np:Nat} {w w1 w3:World}
theorem zio(h:Inv w0 f X s t vb vp nb np w)(hg:w.grownBy w3 vb.ownBlock):w3.cell? ⟨f.W,4,none⟩=some vb/\w3.frozen? ⟨f.W,4,none⟩=false:=by
 have hb:=hg.block f.W h.wlt (fun e=>(h.vbm _ e.symm).1 (.inl rfl));exact ⟨(World.cell?_of_block (a:=⟨f.W,4,none⟩) hb).trans h.cell.2.2.1,(World.frozen?_of_block (a:=⟨f.W,4,none⟩) hb).trans (h.cell.2.2.2.2 4)⟩
theorem zlm{X':Nat->Prop}{b:Value}{u:Value}{i:Nat}(h:Inv w0 f (fun g=>X' g/\b.ownBlock≠some g) s t vb vp nb np w)(hg:w.grownBy w3 vb.ownBlock)(hk:∀g,X' g->b.ownBlock≠some g->w.heap[g]?=w1.heap[g]?/\g<w.heap.size):∀g,X' g->b.ownBlock≠some g->(w3.setCell ⟨f.W,i,none⟩ u).heap[g]?=w1.heap[g]?:=by
 intro g a c;have hX:=h.xm g ⟨a,c⟩;rw [Below.heap_setCell _ _ _ _ (fun e=>hX.1 (by subst e;exact .inl rfl)),hg.block g (hk g a c).2 (fun e=>(h.vbm g e.symm).2.2 ⟨a,c⟩)];exact (hk g a c).1
end
theorem ziq{e size:Nat}{w:World}{X:Nat->Prop}{v:Value}{n:Nat}(h:Out e size w X v n):(∃a k c,v=.slice a k c):=by
 rcases h with ⟨rfl,_⟩|⟨g,cap,rfl,_⟩
 ·exact ⟨_,_,_,rfl⟩
 ·exact ⟨_,_,_,rfl⟩
theorem QK(w0:World)(f:Fix)(X:Nat->Prop)(s t:Nat->Sc)(vb vp:Value)(nb np n:Nat)(v:Value)(w:World)(h:Inv w0 f X s t vb vp nb np w)(hXlt:∀g,X g->g<w.heap.size)(hv:Out 5 1 w X v n)(hn:n<=100000000)(hnb:nb<=10000000):Calls prog 69 #[.pointer (some ⟨f.W,4,none⟩),v] w fun e w'=>e=.returned (.tuple #[])/\∃vb',Inv w0 f (fun g=>X g/\v.ownBlock≠some g) s t vb' vp (nb+1) np w'/\(∀g,X g->v.ownBlock≠some g->w'.heap[g]?=w.heap[g]?)/\w.heap.size<=w'.heap.size:=by
 obtain ⟨i0,hi,hz0,hz1,hz2⟩:=info_parts zcJ;obtain ⟨xs0,ho0,_⟩:=h.bk;obtain ⟨ao,cb,rfl⟩:=Z0 ho0;obtain ⟨va,vk,vc,hve⟩:=ziq hv;have HI:Hid (Inv w0 f X s t (.slice ao nb cb) vp nb np w/\(∀g,X g->g<w.heap.size)/\Out 5 1 w X v n):=⟨h,hXlt,hv⟩;have c4:=h.cell.2.2.1;clear h hXlt hv ho0;subst hve;go_enter func69,ntmps69;go_wp2_with fail;refine (UO nb n (.slice va vk vc) X _ zza hn HI.out.2.2).mono ?_;rintro e w1 ⟨v1,v2,v3,rfl,hg1,a0,a1,a2,a3⟩;have HZ:Hid (w.heap.size<=w1.heap.size):=hg1.size;obtain ⟨ga,ca,rfl⟩:=xL a1 zza;obtain ⟨gq,cq,rfl⟩:=xL a2 zza;obtain ⟨gc,cc,rfl⟩:=xL a3 zza;have HI1:Hid (Inv w0 f (fun g=>X g/\(Value.slice va vk vc).ownBlock≠some g) s t (.slice ao nb cb) vp nb np w1/\Ent 5 1 xfB w1 (Bad f (fun g=>X g/\(Value.slice va vk vc).ownBlock≠some g) (.slice ao nb cb) vp) nb (.slice va vk vc) (.slice (some ⟨ga,0,none⟩) (n+1) ca) (.slice (some ⟨gq,0,none⟩) (n+2) cq) (.slice (some ⟨gc,0,none⟩) (n+64) cc)/\(∀g,X g->(Value.slice va vk vc).ownBlock≠some g->w1.heap[g]?=w.heap[g]?)/\(∀g,(X g/\(Value.slice va vk vc).ownBlock≠some g)->g<w1.heap.size)):=
  ⟨HI.out.1.own HI.out.2.2 hg1,zin (xf:=xfB) HI.out.1 HI.out.2.1 HI.out.2.2 hn a0 a1 a2 a3,fun g hX hne=>hg1.block g (HI.out.2.1 g hX) (fun e=>hne e.symm),fun g hX=>Nat.lt_of_lt_of_le (HI.out.2.1 g hX.1) hg1.size⟩
 clear hg1 a0 a1 a2 a3 HI c4;have k4:=HI1.out.1.cell.2.2.1;have kf:=HI1.out.1.cell.2.2.2.2 4;have kW:=HI1.out.1.wlt;have hsz1:=HI1.out.1.bel.size;go_wp2_with fail;have HA:Hid (Inv w0 f (fun g=>X g/\(Value.slice va vk vc).ownBlock≠some g) s t (.slice ao nb cb) vp nb np (((w1.alloc (.cells #[.slice va vk vc,.slice (some ⟨ga,0,none⟩) (n+1) ca,.slice (some ⟨gq,0,none⟩) (n+2) cq,.slice (some ⟨gc,0,none⟩) (n+64) cc,.int .i64 (nb:Int)] 139)).alloc (.cells #[.slice va vk vc,.slice (some ⟨ga,0,none⟩) (n+1) ca,.slice (some ⟨gq,0,none⟩) (n+2) cq,.slice (some ⟨gc,0,none⟩) (n+64) cc,.int .i64 (nb:Int)] 139)).drew)/\Ent 5 1 xfB (((w1.alloc (.cells #[.slice va vk vc,.slice (some ⟨ga,0,none⟩) (n+1) ca,.slice (some ⟨gq,0,none⟩) (n+2) cq,.slice (some ⟨gc,0,none⟩) (n+64) cc,.int .i64 (nb:Int)] 139)).alloc (.cells #[.slice va vk vc,.slice (some ⟨ga,0,none⟩) (n+1) ca,.slice (some ⟨gq,0,none⟩) (n+2) cq,.slice (some ⟨gc,0,none⟩) (n+64) cc,.int .i64 (nb:Int)] 139)).drew) (Bad f (fun g=>X g/\(Value.slice va vk vc).ownBlock≠some g) (.slice ao nb cb) vp) nb (.slice va vk vc) (.slice (some ⟨ga,0,none⟩) (n+1) ca) (.slice (some ⟨gq,0,none⟩) (n+2) cq) (.slice (some ⟨gc,0,none⟩) (n+64) cc)/\(∀g,(X g/\(Value.slice va vk vc).ownBlock≠some g)->g<(((w1.alloc (.cells #[.slice va vk vc,.slice (some ⟨ga,0,none⟩) (n+1) ca,.slice (some ⟨gq,0,none⟩) (n+2) cq,.slice (some ⟨gc,0,none⟩) (n+64) cc,.int .i64 (nb:Int)] 139)).alloc (.cells #[.slice va vk vc,.slice (some ⟨ga,0,none⟩) (n+1) ca,.slice (some ⟨gq,0,none⟩) (n+2) cq,.slice (some ⟨gc,0,none⟩) (n+64) cc,.int .i64 (nb:Int)] 139)).drew).heap.size)/\(∀g,X g->(Value.slice va vk vc).ownBlock≠some g->(((w1.alloc (.cells #[.slice va vk vc,.slice (some ⟨ga,0,none⟩) (n+1) ca,.slice (some ⟨gq,0,none⟩) (n+2) cq,.slice (some ⟨gc,0,none⟩) (n+64) cc,.int .i64 (nb:Int)] 139)).alloc (.cells #[.slice va vk vc,.slice (some ⟨ga,0,none⟩) (n+1) ca,.slice (some ⟨gq,0,none⟩) (n+2) cq,.slice (some ⟨gc,0,none⟩) (n+64) cc,.int .i64 (nb:Int)] 139)).drew).heap[g]?=w.heap[g]?/\g<(((w1.alloc (.cells #[.slice va vk vc,.slice (some ⟨ga,0,none⟩) (n+1) ca,.slice (some ⟨gq,0,none⟩) (n+2) cq,.slice (some ⟨gc,0,none⟩) (n+64) cc,.int .i64 (nb:Int)] 139)).alloc (.cells #[.slice va vk vc,.slice (some ⟨ga,0,none⟩) (n+1) ca,.slice (some ⟨gq,0,none⟩) (n+2) cq,.slice (some ⟨gc,0,none⟩) (n+64) cc,.int .i64 (nb:Int)] 139)).drew).heap.size)):=
  zfn HI1.out.1 HI1.out.2.1 HI1.out.2.2.2 HI1.out.2.2.1 _ _
 obtain ⟨xs,ho,he⟩:=HA.out.1.bk;have HB:Hid ((((w1.alloc (.cells #[.slice va vk vc,.slice (some ⟨ga,0,none⟩) (n+1) ca,.slice (some ⟨gq,0,none⟩) (n+2) cq,.slice (some ⟨gc,0,none⟩) (n+64) cc,.int .i64 (nb:Int)] 139)).alloc (.cells #[.slice va vk vc,.slice (some ⟨ga,0,none⟩) (n+1) ca,.slice (some ⟨gq,0,none⟩) (n+2) cq,.slice (some ⟨gc,0,none⟩) (n+64) cc,.int .i64 (nb:Int)] 139)).drew).ownsRow w0.heap.size 139 5 (.slice ao nb cb) nb xs/\∀i,i<nb->∃v v1 v2 v3,xs[i*5]?=some v/\xs[i*5+1]?=some v1/\xs[i*5+2]?=some v2/\xs[i*5+3]?=some v3/\xs[i*5+4]?=some (.int .i64 (i:Int))/\Ent 5 1 xfB (((w1.alloc (.cells #[.slice va vk vc,.slice (some ⟨ga,0,none⟩) (n+1) ca,.slice (some ⟨gq,0,none⟩) (n+2) cq,.slice (some ⟨gc,0,none⟩) (n+64) cc,.int .i64 (nb:Int)] 139)).alloc (.cells #[.slice va vk vc,.slice (some ⟨ga,0,none⟩) (n+1) ca,.slice (some ⟨gq,0,none⟩) (n+2) cq,.slice (some ⟨gc,0,none⟩) (n+64) cc,.int .i64 (nb:Int)] 139)).drew) (Bad f (fun g=>X g/\(Value.slice va vk vc).ownBlock≠some g) (.slice ao nb cb) vp) i v v1 v2 v3):=⟨ho,he⟩;clear ho he HI1;go_region_law (first|(refine step_append_lies _ rfl (.tmp 16) (.tmp 18) 77 rfl w0.heap.size 139 i0 _ 5 104 zcK hi hz0 hz1 hz2 rfl zzb (.slice ao nb cb) nb xs rfl ?_ ⟨w1.heap.size+1,0,none⟩ 1 1 [.slice va vk vc,.slice (some ⟨ga,0,none⟩) (n+1) ca,.slice (some ⟨gq,0,none⟩) (n+2) cq,.slice (some ⟨gc,0,none⟩) (n+64) cc,.int .i64 (nb:Int)] rfl rfl ?_ ?_ zzb ?_ ?_ ?_ _ rfl ?_;exact HB.out.1;exact zfl _ _ zzc _ _ _ _ _ _;exact zfm _ _ _ _ _ _ _ _ _ _ _ _ _;(unfold maxLen;omega);omega;(simp;omega);intro g' cap' w3 hown' hgrow hat hlt';obtain ⟨j4,jf⟩:=zio HA.out.1 hgrow;have HF:Hid (Inv w0 f (fun g=>X g/\(Value.slice va vk vc).ownBlock≠some g) s t (.slice (some ⟨g',0,none⟩) (nb+1) cap') vp (nb+1) np (w3.setCell ⟨f.W,4,none⟩ (.slice (some ⟨g',0,none⟩) (nb+1) cap'))/\(∀g,X g->(Value.slice va vk vc).ownBlock≠some g->(w3.setCell ⟨f.W,4,none⟩ (.slice (some ⟨g',0,none⟩) (nb+1) cap')).heap[g]?=w.heap[g]?)/\w.heap.size<=(w3.setCell ⟨f.W,4,none⟩ (.slice (some ⟨g',0,none⟩) (nb+1) cap')).heap.size):=⟨HA.out.1.pushB HA.out.2.2.1 HB.out.1 HB.out.2 HA.out.2.1 hown' hgrow hat,zlm HA.out.1 hgrow HA.out.2.2.2,(by have q1:=hgrow.size;have q2:=HZ.out;simp at q1⊢;omega)⟩;clear hown' hgrow hat hlt'))
 all_goals
  go_wp2;go_end0;exact ⟨rfl,_,HF.out⟩
theorem zbi{e size:Nat}{xf:Nat->Nat->Value}{te base nb:Nat}{w:World}{B:Nat->Prop}{a:Option Addr}{cb:Nat}(h:BookX e size xf te w base B (.slice a nb cb) nb)(i:Nat)(hi:i<nb):∃g v v1 v2 v3,a=some ⟨g,0,none⟩/\w.cell? ⟨g,i*5,none⟩=some v/\w.cell? ⟨g,i*5+1,none⟩=some v1/\w.cell? ⟨g,i*5+2,none⟩=some v2/\w.cell? ⟨g,i*5+3,none⟩=some v3/\w.cell? ⟨g,i*5+4,none⟩=some (.int .i64 (i:Int))/\Ent e size xf w B i v v1 v2 v3:=by
 obtain ⟨xs,ho,he⟩:=h;obtain ⟨v,v1,v2,v3,q0,q1,q2,q3,q4,hE⟩:=he i hi;rcases V7 ho with ⟨h0,_⟩|⟨g,c,e⟩
 ·omega
 ·injection e with e1 e2 e3;subst e1;exact ⟨g,v,v1,v2,v3,rfl,(ho.cellAt _ zza).trans q0,(ho.cellAt _ zza).trans q1,(ho.cellAt _ zza).trans q2,(ho.cellAt _ zza).trans q3,(ho.cellAt _ zza).trans q4,hE⟩
theorem Ent.one{e size:Nat}{xf:Nat->Nat->Value}{w:World}{B:Nat->Prop}{i:Nat}{v v1 v2 v3:Value}(h:Ent e size xf w B i v v1 v2 v3):∃a0 k0 c0 a1 k1 c1 a2 k2 c2 a3 k3 c3,v=.slice a0 k0 c0/\v1=.slice a1 k1 c1/\v2=.slice a2 k2 c2/\v3=.slice a3 k3 c3:=by
 have sh:∀ {u:Value} {n:Nat},AllX e size (xf i) none 0 w u n->∃a k c,u=.slice a k c:=by
  rintro u n (⟨rfl,_⟩|⟨g,cap,rfl,_⟩)
  ·exact ⟨_,_,_,rfl⟩
  ·exact ⟨_,_,_,rfl⟩
 obtain ⟨n,_,h0,h1,h2,h3,_⟩:=h;obtain ⟨a0,k0,c0,e0⟩:=sh h0;obtain ⟨a1,k1,c1,e1⟩:=sh h1;obtain ⟨a2,k2,c2,e2⟩:=sh h2;obtain ⟨a3,k3,c3,e3⟩:=sh h3;exact ⟨a0,k0,c0,a1,k1,c1,a2,k2,c2,a3,k3,c3,e0,e1,e2,e3⟩
theorem zaf(i:Nat)(v v1 v2 v3:Value)(w:World)(B:Nat->Prop)(hi:i<=1000000000)(h:Ent 5 1 xfB w B i v v1 v2 v3):Calls prog 47 #[.agg #[v,v1,v2,v3,.int .i64 i]] w fun e w'=>e=.returned (.bool true)/\Below w.heap.size w w':=by
 obtain ⟨n,hn,h0,h1,h2,h3,_⟩:=h;exact zay none 0 i n v v1 v2 v3 w hi hn h0 h1 h2 h3 (Nat.zero_le _)
theorem zag(i:Nat)(v v1 v2 v3:Value)(w:World)(B:Nat->Prop)(hi:i<=1000000000)(h:Ent 152 3 xfP w B i v v1 v2 v3):Calls prog 48 #[.agg #[v,v1,v2,v3,.int .i64 i]] w fun e w'=>e=.returned (.bool true)/\Below w.heap.size w w':=by
 obtain ⟨n,hn,h0,h1,h2,h3,_⟩:=h;exact zaa none 0 i n v v1 v2 v3 w hi hn h0 h1 h2 h3 (Nat.zero_le _)
theorem zcs(w0:World)(f:Fix)(X:Nat->Prop)(s t:Nat->Sc)(vb vp:Value)(nb np:Nat)(w:World)(h:Inv w0 f X s t vb vp nb np w)(hnb:nb<=10000000)(hnp:np<=10000000):Calls prog 32 #[.pointer (some ⟨f.W,4,none⟩)] w fun e w'=>e=.returned (.bool true)/\Below w.heap.size w w':=by
 obtain ⟨xs0,ho0,_⟩:=h.bk;obtain ⟨ao,cb,rfl⟩:=Z0 ho0;obtain ⟨ys0,hp0,_⟩:=h.pk;obtain ⟨ap,cp,rfl⟩:=Z0 hp0;have HI:Hid (Inv w0 f X s t (.slice ao nb cb) (.slice ap np cp) nb np w):=h;clear h ho0 hp0;go_enter func32,ntmps32;go_wp2;go_loopw [3,4] (fun b i wr=> ∃k:Nat,k<=nb/\b=.bool true/\i=.int .i64 k/\Below w.heap.size w wr) (fun _ i _=>nb-(intOf i).toNat);case atStart=>exact ⟨0,Nat.zero_le _,rfl,rfl,Below.refl _ _⟩
 case round=>
  obtain ⟨k,hk,rfl,rfl,hb⟩:=hrel;have HJ:Hid (Inv w0 f X s t (.slice ao nb cb) (.slice ap np cp) nb np wr/\Below w.heap.size w wr):=⟨HI.out.below hb,hb⟩;clear hb;have c4:=HJ.out.1.cell.2.2.1;have c5:=HJ.out.1.cell.2.2.2.1;by_cases hlt:k<nb
  ·obtain ⟨g,v,v1,v2,v3,rfl,q0,q1,q2,q3,q4,hE⟩:=zbi HJ.out.1.bk k hlt;have HE:Hid (Ent 5 1 xfB wr (Bad f X (.slice (some ⟨g,0,none⟩) nb cb) (.slice ap np cp)) k v v1 v2 v3):=hE;obtain ⟨a0,k0,c0,a1,k1,c1,a2,k2,c2,a3,k3,c3,rfl,rfl,rfl,rfl⟩:=hE.one;clear hE;go_wp2_with fail;refine (zaf k _ _ _ _ _ _ zza HE.out).mono ?_;rintro e w2 ⟨rfl,hb2⟩;have HB:Hid (Below w.heap.size w w2):=HJ.out.2.trans (hb2.mono HJ.out.2.size);clear hb2 HJ HE q0 q1 q2 q3 q4 c4 c5;go_wp2;go_roundw;case rel=>exact ⟨k+1,by omega,rfl,by go_num,HB.out⟩
   case measure=>simp [intOf];omega
  ·go_wp2_with fail;go_loopw [3,6] (fun b i wq=> ∃k:Nat,k<=np/\b=.bool true/\i=.int .i64 k/\Below w.heap.size w wq) (fun _ i _=>np-(intOf i).toNat);case atStart=>exact ⟨0,Nat.zero_le _,rfl,rfl,HJ.out.2⟩
   case round=>
    clear HJ c4 c5;obtain ⟨k2,hk2,rfl,rfl,hb⟩:=hrel;have HJ:Hid (Inv w0 f X s t (.slice ao nb cb) (.slice ap np cp) nb np wr/\Below w.heap.size w wr):=⟨HI.out.below hb,hb⟩;clear hb;have c5:=HJ.out.1.cell.2.2.2.1;by_cases hlt2:k2<np
    ·obtain ⟨g,v,v1,v2,v3,rfl,q0,q1,q2,q3,q4,hE⟩:=zbi HJ.out.1.pk k2 hlt2;have HE:Hid (Ent 152 3 xfP wr (Bad f X (.slice ao nb cb) (.slice (some ⟨g,0,none⟩) np cp)) k2 v v1 v2 v3):=hE;obtain ⟨a0,k0,c0,a1,k1,c1,a2,k3,c2,a3,k4,c3,rfl,rfl,rfl,rfl⟩:=hE.one;clear hE;go_wp2_with fail;refine (zag k2 _ _ _ _ _ _ zza HE.out).mono ?_;rintro e w2 ⟨rfl,hb2⟩;have HB:Hid (Below w.heap.size w w2):=HJ.out.2.trans (hb2.mono HJ.out.2.size);clear hb2 HJ HE q0 q1 q2 q3 q4 c5;go_wp2;go_roundw;case rel=>exact ⟨k2+1,by omega,rfl,by go_num,HB.out⟩
     case measure=>simp [intOf];omega
    ·go_wp2;go_ret;exact ⟨rfl,HJ.out.2⟩
def No:Nat->Prop:=fun _=>False
theorem UM(w:World):(convert 35 9 (.slice none 0 0)).run prog w=.ok (.string ⟨#[]⟩) w:=
 run_convert_bytes_nil (P:=prog) w 35 5 zx jq 0 0 9 vj
theorem zia{e base g n cap size:Nat}{w:World}{xs:List Value}(h:w.ownsRow base e size (.slice (some ⟨g,0,none⟩) n cap) n xs):RowAt w g e size cap/\n<=cap/\base<=g:=by
 rcases h.2 with ⟨q,_⟩|⟨g',c',cur,q,hb,h1,h2,_,h3,_⟩
 ·simp at q
 ·injection q with q1 q2 q3;injection q1 with q1;injection q1 with q1;subst q1 q3;exact ⟨⟨cur,h1,h3⟩,h2,hb⟩
theorem UN{w0 w:World}{v:Value}{l:List UInt8}(h:qk w0 w v l):(convert 35 9 v).run prog w=.ok (.string ⟨l.toArray⟩) w:=by
 obtain ⟨g,cap,rfl,_,hb,_⟩:=h;exact run_convert_bytes_back (P:=prog) w 35 9 5 ⟨g,0,none⟩ cap l zx jq vj (fun j hj=>by
  have q:=hb j hj;rw [Nat.zero_add] at q;rw [show (⟨g,0,none⟩:Addr).add j=⟨g,j,none⟩ from by unfold Addr.add;split<;>simp_all];exact q)
section
variable {w0:World} {f:Fix} {X:Nat->Prop} {s t:Nat->Sc} {vb vp:Value} {nb np:Nat} {w w':World}
end
theorem zcw{w w':World}{g b:Nat}{l:List UInt8}(h:LentAt w g l)(hg:w.grownBy w' (some b))(hne:g≠b):LentAt w' g l:=by
 have hb:=hg.block g h.row.lt (fun e=>hne (by injection e));obtain ⟨cur,r1,r2⟩:=h.row;exact ⟨⟨cur,hb.trans r1,r2⟩,fun i hi=>by rw [World.cell?_of_block (a:=⟨g,0+i,none⟩) hb];exact h.bytes i hi,fun i hi=>by rw [World.cell?_of_block (a:=⟨g,l.length+i,none⟩) hb];exact h.spare i hi⟩
theorem zeY(s:Sc)(l:List UInt8):(zR s l).length<=l.length:=by
 induction l generalizing s with
 |nil=>simp [zR]
 |cons c r ih=>
  have:=ih (s.step c);simp only [zR,List.length_append,List.length_cons];split<;>simp<;>omega
def pkI(c n:Int):Int:=if c<0 then -(c+1).tmod n else c%n
def Jb:Sc:=⟨0,[],0⟩
def ptr(n:Nat):Value:=.pointer (some ⟨n,0,none⟩)
def XL(B:Nat->Nat)(k:Nat):List Value:=(List.range k).map fun i=>ptr (B i)
theorem Zt{w w':World}{base te size n:Nat}{V:Value}{xs:List Value}(h:w.ownsRow base te size V n xs)(hV:∀g,V.ownBlock=some g->w'.heap[g]?=w.heap[g]?):w'.ownsRow base te size V n xs:=by
 refine ⟨h.1,?_⟩;rcases h.2 with h|⟨g,cap,cur,rfl,hbg,hgg,r⟩
 ·exact .inl h
 ·exact .inr ⟨g,cap,cur,rfl,hbg,(hV g rfl).trans hgg,r⟩
theorem zcQ(B:Nat->Nat)(k n:Nat):XL (fun i=>if i=k then n else B i) (k+1)=XL B k++ [ptr n]:=by
 unfold XL;rw [List.range_succ,List.map_append];congr 1
 ·exact List.map_congr_left fun i hi=>by
   have h1:=List.mem_range.1 hi;have h2:i≠k:=by omega
   simp [h2]
 ·simp
structure Boot (w0:World) (W:Nat) (tag:Nat->Nat) (B R:Nat->Nat) (ks kr:Nat) (vs vr:Value) (w:World):Prop where
 bel:Below w0.heap.size w0 w
 loW:w0.heap.size<=W
 loB:∀i,i<ks->w0.heap.size<=B i
 loR:∀i,i<kr->w0.heap.size<=R i
 blk:w.heap[W]?=some (.cells #[.slice none 0 0,.slice none 0 0,vs,vr,.slice none 0 0,.slice none 0 0] 82 (0,0))
 oS:w.ownsRow w0.heap.size 83 1 vs ks (XL B ks)
 oR:w.ownsRow w0.heap.size 85 1 vr kr (XL R kr)
 sc:∀i,i<ks->ScAt w (B i) Jb
 rs:∀i,i<kr->RsAt w (R i) Jb
 tW:tag W=0
 tS:∀g,vs.ownBlock=some g->tag g=1
 tR:∀g,vr.ownBlock=some g->tag g=2
 tB:∀i,i<ks->tag (B i)=3+2*i
 tr:∀i,i<kr->tag (R i)=4+2*i
section
variable {w0:World} {W:Nat} {tag:Nat->Nat} {B R:Nat->Nat} {ks kr:Nat} {vs vr:Value} {w:World}
theorem Boot.wlt(h:Boot w0 W tag B R ks kr vs vr w):W<w.heap.size:=(Array.getElem?_eq_some_iff.1 h.blk).1
theorem Boot.below{w':World}(h:Boot w0 W tag B R ks kr vs vr w)(hb:Below w.heap.size w w'):Boot w0 W tag B R ks kr vs vr w':=
 ⟨h.bel.trans (hb.mono h.bel.size),h.loW,h.loB,h.loR,(hb.block _ h.wlt).trans h.blk,Zt h.oS (fun g hg=>hb.block g (h.oS.lt g hg).2),Zt h.oR (fun g hg=>hb.block g (h.oR.lt g hg).2),
  fun i hi=>(h.sc i hi).sameBlock (hb.block _ (h.sc i hi).lt),fun i hi=>(h.rs i hi).sameBlock (hb.block _ (h.rs i hi).cells.lt),h.tW,h.tS,h.tR,h.tB,h.tr⟩
theorem Boot.tagged{tag':Nat->Nat}(h:Boot w0 W tag B R ks kr vs vr w)(ht:∀g,g<w.heap.size->tag' g=tag g):Boot w0 W tag' B R ks kr vs vr w:=
 ⟨h.bel,h.loW,h.loB,h.loR,h.blk,h.oS,h.oR,h.sc,h.rs,(ht _ h.wlt).trans h.tW,fun g hg=>(ht g (h.oS.lt g hg).2).trans (h.tS g hg),fun g hg=>(ht g (h.oR.lt g hg).2).trans (h.tR g hg),
  fun i hi=>(ht _ (h.sc i hi).lt).trans (h.tB i hi),fun i hi=>(ht _ (h.rs i hi).cells.lt).trans (h.tr i hi)⟩
theorem znD{p:Prop} (q:p:=by
 rw [zcQ];exact Zt hown (fun g e=>by
  have e2:g'=g:=by simpa [Value.ownBlock] using e
  subst e2;exact Below.heap_setCell _ _ _ _ hgW)):p:=q
theorem Boot.pushS{n g' cap':Nat}{w3:World}(h:Boot w0 W tag B R ks kr vs vr w)(hn:ScAt w n Jb)(hlo:w0.heap.size<=n)(htn:tag n=3+2*ks)
  (hown:w3.ownsRow w0.heap.size 83 1 (.slice (some ⟨g',0,none⟩) (ks+1) cap') (ks+1) (XL B ks++ [ptr n])) (hg:w.grownBy w3 vs.ownBlock) (hat:vs.ownBlock=some g'\/g'=w.heap.size):
  Boot w0 W (fun g=>if w.heap.size<=g then 1 else tag g) (fun i=>if i=ks then n else B i) R (ks+1) kr (.slice (some ⟨g',0,none⟩) (ks+1) cap') vr (w3.setCell ⟨W,2,none⟩ (.slice (some ⟨g',0,none⟩) (ks+1) cap')):=by
 have hWne:some W≠vs.ownBlock:=fun e=>by have h1:=h.tS W e.symm;have h2:=h.tW;omega
 have hgW:g'≠W:=by
  rcases hat with e|e
  ·exact fun e2=>hWne (by rw [<-e2];exact e.symm)
  ·have:=h.wlt;omega
 have hkeep:∀g,g<w.heap.size->tag g≠0->tag g≠1->(w3.setCell ⟨W,2,none⟩ (.slice (some ⟨g',0,none⟩) (ks+1) cap')).heap[g]?=w.heap[g]?:=fun g hl h0 h1=>by
  rw [Below.heap_setCell _ _ _ _ (fun e=>h0 (by rw [e];exact h.tW))];exact hg.block g hl (fun e=>h1 (h.tS g e.symm))
 have htag:∀g,g<w.heap.size->(if w.heap.size<=g then 1 else tag g)=tag g:=fun g hl=>if_neg zza
 refine ⟨?_,h.loW,?_,?_,?_,?_,?_,?_,?_,?_,?_,?_,?_,?_⟩
 ·have hloW:=h.loW;refine ⟨hg.os.trans h.bel.os,hg.tape.trans h.bel.tape,hg.output.trans h.bel.output,?_,fun k hk=>?_⟩
  ·have h1:=h.bel.size;have h2:=hg.size;simp;omega
  ·rw [Below.heap_setCell _ _ _ _ (show k≠W by omega)];refine (hg.block k (by have:=h.bel.size;omega) (fun e=>?_)).trans (h.bel.block k hk);have:=(h.oS.lt k e.symm).1;omega
 ·intro i hi;by_cases e:i=ks
  ·simp [e];exact hlo
  ·simp [e];exact h.loB i zza
 ·exact h.loR
 ·exact XW ((hg.block W h.wlt hWne).trans h.blk) _
 ·exact znD
 ·exact Zt h.oR (fun g e=>hkeep g (h.oR.lt g e).2 (by rw [h.tR g e];omega) (by rw [h.tR g e];omega))
 ·intro i hi;by_cases e:i=ks
  ·simp only [if_pos e];exact hn.sameBlock (hkeep n hn.lt zza zza)
  ·simp only [if_neg e];exact (h.sc i zza).sameBlock (hkeep _ (h.sc i zza).lt (by rw [h.tB i zza];omega) (by rw [h.tB i zza];omega))
 ·intro i hi;exact (h.rs i hi).sameBlock (hkeep _ (h.rs i hi).cells.lt (by rw [h.tr i hi];omega) (by rw [h.tr i hi];omega))
 ·exact (htag _ h.wlt).trans h.tW
 ·intro g e;have e2:g'=g:=by simpa [Value.ownBlock] using e
  subst e2;rcases hat with e|e
  ·exact (htag _ (h.oS.lt _ e).2).trans (h.tS _ e)
  ·exact if_pos zza
 ·intro g e;exact (htag _ (h.oR.lt _ e).2).trans (h.tR _ e)
 ·intro i hi;by_cases e:i=ks
  ·simp only [if_pos e];exact (htag _ hn.lt).trans (by rw [htn,e])
  ·simp only [if_neg e];exact (htag _ (h.sc i zza).lt).trans (h.tB i zza)
 ·intro i hi;exact (htag _ (h.rs i hi).cells.lt).trans (h.tr i hi)
theorem Boot.pushR{n g' cap':Nat}{w3:World}(h:Boot w0 W tag B R ks kr vs vr w)(hn:RsAt w n Jb)(hlo:w0.heap.size<=n)(htn:tag n=4+2*kr)
  (hown:w3.ownsRow w0.heap.size 85 1 (.slice (some ⟨g',0,none⟩) (kr+1) cap') (kr+1) (XL R kr++ [ptr n])) (hg:w.grownBy w3 vr.ownBlock) (hat:vr.ownBlock=some g'\/g'=w.heap.size):
  Boot w0 W (fun g=>if w.heap.size<=g then 2 else tag g) B (fun i=>if i=kr then n else R i) ks (kr+1) vs (.slice (some ⟨g',0,none⟩) (kr+1) cap') (w3.setCell ⟨W,3,none⟩ (.slice (some ⟨g',0,none⟩) (kr+1) cap')):=by
 have hWne:some W≠vr.ownBlock:=fun e=>by have h1:=h.tR W e.symm;have h2:=h.tW;omega
 have hgW:g'≠W:=by
  rcases hat with e|e
  ·exact fun e2=>hWne (by rw [<-e2];exact e.symm)
  ·have:=h.wlt;omega
 have hkeep:∀g,g<w.heap.size->tag g≠0->tag g≠2->(w3.setCell ⟨W,3,none⟩ (.slice (some ⟨g',0,none⟩) (kr+1) cap')).heap[g]?=w.heap[g]?:=fun g hl h0 h1=>by
  rw [Below.heap_setCell _ _ _ _ (fun e=>h0 (by rw [e];exact h.tW))];exact hg.block g hl (fun e=>h1 (h.tR g e.symm))
 have htag:∀g,g<w.heap.size->(if w.heap.size<=g then 2 else tag g)=tag g:=fun g hl=>if_neg zza
 refine ⟨?_,h.loW,?_,?_,?_,?_,?_,?_,?_,?_,?_,?_,?_,?_⟩
 ·have hloW:=h.loW;refine ⟨hg.os.trans h.bel.os,hg.tape.trans h.bel.tape,hg.output.trans h.bel.output,?_,fun k hk=>?_⟩
  ·have h1:=h.bel.size;have h2:=hg.size;simp;omega
  ·rw [Below.heap_setCell _ _ _ _ (show k≠W by omega)];refine (hg.block k (by have:=h.bel.size;omega) (fun e=>?_)).trans (h.bel.block k hk);have:=(h.oR.lt k e.symm).1;omega
 ·exact h.loB
 ·intro i hi;by_cases e:i=kr
  ·simp [e];exact hlo
  ·simp [e];exact h.loR i zza
 ·exact XW ((hg.block W h.wlt hWne).trans h.blk) _
 ·exact Zt h.oS (fun g e=>hkeep g (h.oS.lt g e).2 (by rw [h.tS g e];omega) (by rw [h.tS g e];omega))
 ·exact znD
 ·intro i hi;exact (h.sc i hi).sameBlock (hkeep _ (h.sc i hi).lt (by rw [h.tB i hi];omega) (by rw [h.tB i hi];omega))
 ·intro i hi;by_cases e:i=kr
  ·simp only [if_pos e];exact hn.sameBlock (hkeep n hn.cells.lt zza zza)
  ·simp only [if_neg e];exact (h.rs i zza).sameBlock (hkeep _ (h.rs i zza).cells.lt (by rw [h.tr i zza];omega) (by rw [h.tr i zza];omega))
 ·exact (htag _ h.wlt).trans h.tW
 ·intro g e;exact (htag _ (h.oS.lt _ e).2).trans (h.tS _ e)
 ·intro g e;have e2:g'=g:=by simpa [Value.ownBlock] using e
  subst e2;rcases hat with e|e
  ·exact (htag _ (h.oR.lt _ e).2).trans (h.tR _ e)
  ·exact if_pos zza
 ·intro i hi;exact (htag _ (h.sc i hi).lt).trans (h.tB i hi)
 ·intro i hi;by_cases e:i=kr
  ·simp only [if_pos e];exact (htag _ hn.cells.lt).trans (by rw [htn,e])
  ·simp only [if_neg e];exact (htag _ (h.rs i zza).cells.lt).trans (h.tr i zza)
theorem Boot.inv2(h:Boot w0 W tag B R 2 2 vs vr w):∃f:Fix,(f.W=W/\f.vm=.slice none 0 0/\f.vs=.slice none 0 0)/\Inv w0 f No (fun _=>Jb) (fun _=>Jb) (.slice none 0 0) (.slice none 0 0) 0 0 w:=by
 obtain ⟨SB,cs,rfl,hS1,hS2⟩:=h.oS.form zza;obtain ⟨RB,cr,rfl,hR1,hR2⟩:=h.oR.form zza;have tS:=h.tS SB rfl;have tR:=h.tR RB rfl;have tW:=h.tW;refine ⟨⟨W,SB,RB,cs,cr,B,R,.slice none 0 0,.slice none 0 0⟩,⟨rfl,rfl,rfl⟩,h.bel,⟨?_,?_,?_,?_,?_,?_,?_,?_,?_⟩,?_,h.blk,?_,?_,h.sc,h.rs,⟨[],World.ownsRow_nil _ _ _ _,fun i hi=>absurd hi zza⟩,⟨[],World.ownsRow_nil _ _ _ _,fun i hi=>absurd hi zza⟩,?_,?_,fun g q=>q.elim⟩
 ·intro e;simp only at e;rw [e] at tW;omega
 ·intro e;simp only at e;rw [e] at tW;omega
 ·intro e;simp only at e;rw [e] at tS;omega
 ·intro k hk;have h1:=h.tB k hk;have h2:=h.tr k hk;exact ⟨fun e=>by simp only at e;rw [e] at tW;omega,fun e=>by simp only at e;rw [e] at tW;omega⟩
 ·intro k hk;have h1:=h.tB k hk;have h2:=h.tr k hk;exact ⟨fun e=>by simp only at e;rw [e] at tS;omega,fun e=>by simp only at e;rw [e] at tS;omega⟩
 ·intro k hk;have h1:=h.tB k hk;have h2:=h.tr k hk;exact ⟨fun e=>by simp only at e;rw [e] at tR;omega,fun e=>by simp only at e;rw [e] at tR;omega⟩
 ·intro k j hk hj e;have h1:=h.tB k hk;have h2:=h.tr j hj;simp only at e;rw [e] at h1;omega
 ·intro k j hk hj e;have h1:=h.tB k hk;have h2:=h.tB j hj;simp only at e;rw [e] at h1;omega
 ·intro k j hk hj e;have h1:=h.tr k hk;have h2:=h.tr j hj;simp only at e;rw [e] at h1;omega
 ·rintro g (e|e|e|⟨k,hk,e|e⟩)
  ·simp only at e;rw [e];exact h.loW
  ·simp only at e;rw [e];exact hS1
  ·simp only at e;rw [e];exact hR1
  ·simp only at e;rw [e];exact h.loB k hk
  ·simp only at e;rw [e];exact h.loR k hk
 ·intro k hk;refine (h.oS.cellAt k zza).trans ?_;simp [XL,ptr,hk]
 ·intro k hk;refine (h.oR.cellAt k zza).trans ?_;simp [XL,ptr,hk]
 ·intro g hg;simp [Value.ownBlock] at hg
 ·intro g hg;simp [Value.ownBlock] at hg
end
def OpAt(p:Int->Prop)(w:World)(g o:Nat):Prop:= ∃(k a b:Int) (S:ByteArray) (n q:Bool) (ca:Option Addr) (cl cc:Nat) (rom:Int),
 w.cell? ⟨g,o,none⟩=some (.int .i64 k)/\w.cell? ⟨g,o+1,none⟩=some (.int .i64 a)/\w.cell? ⟨g,o+2,none⟩=some (.int .i64 b)/\w.cell? ⟨g,o+3,none⟩=some (.string S)/\w.cell? ⟨g,o+4,none⟩=some (.bool n)/\w.cell? ⟨g,o+5,none⟩=some (.bool q)/\w.cell? ⟨g,o+6,none⟩=some (.slice ca cl cc)/\w.cell? ⟨g,o+7,none⟩=some (.int .i64 rom)/\
 S.size<=4000000/\ -9223372036854775808<=a/\a<=9223372036854775807/\p k
theorem OpAt.later{p:Int->Prop}{w w':World}{g o:Nat}(h:OpAt p w g o)(hb:Below w.heap.size w w'):OpAt p w' g o:=by
 obtain ⟨k,a,b,S,n,q,ca,cl,cc,rom,h0,h1,h2,h3,h4,h5,h6,h7,r⟩:=h;exact ⟨k,a,b,S,n,q,ca,cl,cc,rom,cell_later hb h0,cell_later hb h1,cell_later hb h2,cell_later hb h3,cell_later hb h4,cell_later hb h5,cell_later hb h6,cell_later hb h7,r⟩
theorem zkw:(prog.info? 83).map (fun i=>(i.zero,i.size,i.bytes))=some (some (.pointer none),1,8):=by kernel_rfl
theorem zkx:(prog.info? 85).map (fun i=>(i.zero,i.size,i.bytes))=some (some (.pointer none),1,8):=by kernel_rfl
theorem zky:prog.underlying 75=some (.slice 83):=by kernel_rfl
theorem zkz:prog.underlying 76=some (.slice 85):=by kernel_rfl
theorem zdG(w:World):Boot w w.heap.size (fun _=>0) (fun _=>0) (fun _=>0) 0 0 (.slice none 0 0) (.slice none 0 0) (w.alloc (.cells #[.slice none 0 0,.slice none 0 0,.slice none 0 0,.slice none 0 0,.slice none 0 0,.slice none 0 0] 82)):=
 ⟨(Below.refl _ _).alloc (Nat.le_refl _) _,Nat.le_refl _,fun i hi=>absurd hi zza,fun i hi=>absurd hi zza,heap_alloc_new w _,World.ownsRow_nil _ _ _ _,World.ownsRow_nil _ _ _ _,fun i hi=>absurd hi zza,fun i hi=>absurd hi zza,rfl,fun g e=>by simp [Value.ownBlock] at e,fun g e=>by simp [Value.ownBlock] at e,fun i hi=>absurd hi zza,fun i hi=>absurd hi zza⟩
theorem zdH(w:World)(t:TypeId):RsAt (w.alloc (.cells #[.string ⟨#[]⟩,.bool false,.int .i64 0] t)) w.heap.size Jb:=
 ⟨by simp [Jb],by simp [Jb],⟨World.cell?_alloc_at _ _ _ _ rfl,World.cell?_alloc_at _ _ _ _ rfl,World.cell?_alloc_at _ _ _ _ rfl,fun o=>World.frozen?_alloc_at _ _ _ _ rfl⟩⟩
theorem zdI(w:World)(o:Obj)(x:Value)(t:TypeId)(n:Nat)(hn:n=w.heap.size+1):∀j u,[x][j]?=some u->((w.alloc o).alloc (.cells #[x] t)).cell? ((⟨n,0,none⟩:Addr).add j)=some u:=by
 have:=ye (w.alloc o) x t;rw [hn];simpa using this
theorem za5(n:Nat):∀u∈[Value.pointer (some ⟨n,0,none⟩)],u.oneCell'=true:=by
 intro u hu;simp at hu;subst hu;rfl
section
variable {w0:World} {W:Nat} {tag:Nat->Nat} {B R:Nat->Nat} {ks kr:Nat} {vs vr:Value} {w:World}
theorem Boot.cell(h:Boot w0 W tag B R ks kr vs vr w):w.cell? ⟨W,2,none⟩=some vs/\w.cell? ⟨W,3,none⟩=some vr/\∀o,w.frozen? ⟨W,o,none⟩=false:=by
 have hc:∀o,w.cell? ⟨W,o,none⟩=_:=fun o=>cell_of_row w W o _ _ (0,0) h.blk
 exact ⟨hc 2,hc 3,fun o=>by simp [World.frozen?,h.blk]⟩
theorem Boot.shape(h:Boot w0 W tag B R ks kr vs vr w):∃aS cs ar cr,vs=.slice aS ks cs/\vr=.slice ar kr cr:=by
 have one:∀ {te n:Nat} {v:Value} {xs:List Value},w.ownsRow w0.heap.size te 1 v n xs->∃a c,v=.slice a n c:=by
  intro te n v xs h;rcases h.2 with ⟨rfl,rfl⟩|⟨g,cap,_,rfl,_⟩
  ·exact ⟨_,_,rfl⟩
  ·exact ⟨_,_,rfl⟩
 obtain ⟨a,c,e⟩:=one h.oS;obtain ⟨a',c',e'⟩:=one h.oR;exact ⟨a,c,a',c',e,e'⟩
theorem Boot.keptS{w3:World}(h:Boot w0 W tag B R ks kr vs vr w)(hg:w.grownBy w3 vs.ownBlock):w3.cell? ⟨W,2,none⟩=some vs/\w3.frozen? ⟨W,2,none⟩=false/\w3.cell? ⟨W,3,none⟩=some vr/\W<w3.heap.size:=by
 have hb:=hg.block W h.wlt (fun e=>by have h1:=h.tS W e.symm;have h2:=h.tW;omega);exact ⟨(World.cell?_of_block (a:=⟨W,2,none⟩) hb).trans h.cell.1,(World.frozen?_of_block (a:=⟨W,2,none⟩) hb).trans (h.cell.2.2 2),(World.cell?_of_block (a:=⟨W,3,none⟩) hb).trans h.cell.2.1,Nat.lt_of_lt_of_le h.wlt hg.size⟩
theorem Boot.more(h:Boot w0 W tag B R ks kr vs vr w)(o p:Obj):∃tag',Boot w0 W tag' B R ks kr vs vr ((w.alloc o).alloc p)/\tag' w.heap.size=4+2*kr:=
 ⟨fun g=>if g=w.heap.size then 4+2*kr else tag g,(h.tagged (fun g hl=>if_neg zza)).below (xI _ _ _),if_pos rfl⟩
theorem Boot.endR{w3:World}{k g' cap':Nat}(h:Boot w0 W tag B R ks k vs vr w)(o:Obj)(t:TypeId)(n:Nat)(hn:n=w.heap.size)
  (hown:w3.ownsRow w0.heap.size 85 1 (.slice (some ⟨g',0,none⟩) (k+1) cap') (k+1) (XL R k++ [ptr n])) (hg:((w.alloc (.cells #[.string ⟨#[]⟩,.bool false,.int .i64 0] t)).alloc o).grownBy w3 vr.ownBlock) (hat:vr.ownBlock=some g'\/g'=((w.alloc (.cells #[.string ⟨#[]⟩,.bool false,.int .i64 0] t)).alloc o).heap.size):
  ∃tag R',Boot w0 W tag B R' ks (k+1) vs (.slice (some ⟨g',0,none⟩) (k+1) cap') (w3.setCell ⟨W,3,none⟩ (.slice (some ⟨g',0,none⟩) (k+1) cap')):=by
 subst hn;obtain ⟨tag',hB,ht⟩:=h.more (.cells #[.string ⟨#[]⟩,.bool false,.int .i64 0] t) o;exact ⟨_,_,hB.pushR ((zdH w t).sameBlock (Below.heap_alloc _ _ _ zzc)) h.bel.size ht hown hg hat⟩
theorem Boot.keptR{w3:World}(h:Boot w0 W tag B R ks kr vs vr w)(hg:w.grownBy w3 vr.ownBlock):w3.cell? ⟨W,3,none⟩=some vr/\w3.frozen? ⟨W,3,none⟩=false:=by
 have hb:=hg.block W h.wlt (fun e=>by have h1:=h.tR W e.symm;have h2:=h.tW;omega);exact ⟨(World.cell?_of_block (a:=⟨W,3,none⟩) hb).trans h.cell.2.1,(World.frozen?_of_block (a:=⟨W,3,none⟩) hb).trans (h.cell.2.2 3)⟩
end
theorem U2(N:Nat)(v:Value)(cs:List Chn)(rom:Int)(w:World)(hc:CfAt N w v cs)(hl:cs.length<=100000000)(hb:yq cs<=100000000)(hv:yt rom cs=false):Calls prog 62 #[.agg #[v,.int .i64 rom]] w fun e w'=>e=.returned (.tuple #[.pointer none,.int .i64 1])/\Below w.heap.size w w':=by
 obtain ⟨p,cap,rfl,hC⟩:=hc;have RN:=zgq N (.slice p cs.length cap) cs rom (w.alloc (.cells #[.slice p cs.length cap,.int .i64 rom] 26)) (CfAt.below ⟨p,cap,rfl,hC⟩ ((Below.refl _ _).alloc (Nat.le_refl _) _)) hl hb hv;clear hC;go_enter func62,ntmps62;go_wp2_with (first|(go_at_call 61;refine RN.mono ?_;rintro e w1 ⟨rfl,hbl⟩;have HB:Hid (Below w.heap.size w w1):=((Below.refl _ _).alloc (Nat.le_refl _) _).trans (hbl.mono zzc);clear hbl));go_ret2;exact ⟨rfl,HB.out⟩
structure NwS (w:World) (base:Nat) (rom:Int) (cs:List Chn) (Q:Nat) (w':World):Prop where
 bel:Below w.heap.size w w'
 ds:∃tag f,f.Q=Q/\DS w' base tag f (SB.fresh rom cs)/\∀g,tag g≠0->w.heap.size<=g/\g<w'.heap.size
theorem U3(N:Nat)(v:Value)(cs:List Chn)(rom:Int)(w:World)(base:Nat)(hbs:base<=w.heap.size)(hN:N<=w.heap.size)(hc:CfAt N w v cs)(hl:cs.length<=100000000)(hb:yq cs<=100000000)(hv:yt rom cs=true):Calls prog 62 #[.agg #[v,.int .i64 rom]] w fun e w'=> ∃Q,e=.returned (.tuple #[.pointer (some ⟨Q,0,none⟩),.int .i64 0])/\NwS w base rom cs Q w':=by
 obtain ⟨p,cap,rfl,hC⟩:=hc;have RN:=zgr N (.slice p cs.length cap) cs rom (w.alloc (.cells #[.slice p cs.length cap,.int .i64 rom] 26)) zzd (CfAt.below ⟨p,cap,rfl,hC⟩ ((Below.refl _ _).alloc (Nat.le_refl _) _)) hl hb hv;clear hC;go_enter func62,ntmps62;go_wp2_with (first|(go_at_call 61;refine RN.mono ?_;rintro e w1 ⟨R,M,hR,hM,rfl,hA,hbl⟩;have HB:Hid (Below w.heap.size w w1/\w.heap.size<=R/\w.heap.size<=M/\MAt w1 R M (MV M (.slice none 0 0) (RS.fresh rom cs)) (RS.fresh rom cs).mem):=⟨((Below.refl _ _).alloc (Nat.le_refl _) _).trans (hbl.mono zzc),(by simp at hR;omega),(by simp at hM;omega),hA⟩;clear hbl hA hR hM));go_ret2;refine ⟨w1.heap.size+1,rfl,?_⟩;obtain ⟨hb1,hR,hM,hA⟩:=HB.out;have lR:=hA.lt;have lM:=hA.ltM;have nRM:=hA.ne;have s1:=hb1.size;refine ⟨hb1.trans (((Below.refl _ _).alloc zza _).alloc zzd _),fun g=>if g=w1.heap.size+1 then 1 else if g=w1.heap.size then 2 else if g=R then 3 else if g=M then 4 else 0,⟨w1.heap.size+1,w1.heap.size,R,M,.slice none 0 0,.slice none 0 0,.slice none 0 0,.slice none 0 0,.slice none 0 0,.slice none 0 0,[]⟩,rfl,⟨Blk.new' _ _ _ _ zzc,⟨RS.fresh rom cs,?_,⟨World.ownsRow_nil _ _ _ _,(fun g e=>by cases e)⟩,U1,fun _=>rfl⟩,?_,⟨rfl,World.ownsRow_nil _ _ _ _,fun i hi=>absurd hi (by simp [SB.fresh])⟩,⟨[],World.ownsRow_nil _ _ _ _,List.nodup_nil,by simp [SB.fresh,Pts.list]⟩,⟨[],World.ownsRow_nil _ _ _ _,List.nodup_nil,by simp [SB.fresh,Pts.list]⟩,World.ownsRow_nil _ _ _ _,.inl ⟨rfl,rfl⟩,⟨by show base<=w1.heap.size+1;omega,by show base<=w1.heap.size;omega,by show base<=R;omega,by show base<=M;omega⟩,?_,?_,?_,?_,(fun g e=>by cases e),(fun g e=>by cases e),(fun g e=>by cases e),(fun g e=>by cases e),(fun g e=>by cases e),(fun g e=>by cases e),(fun i v hv=>by simp at hv)⟩,fun g hg=>?_⟩
 ·exact hA.same ((Below.heap_alloc _ _ _ zzd).trans (Below.heap_alloc _ _ _ lR)) ((Below.heap_alloc _ _ _ zzd).trans (Below.heap_alloc _ _ _ lM))
 ·exact (zdH w1 _).sameBlock (Below.heap_alloc _ _ _ zzc)
 ·exact if_pos rfl
 ·exact (if_neg (by show ¬w1.heap.size=w1.heap.size+1;omega)).trans (if_pos rfl)
 ·exact (if_neg (by show ¬R=w1.heap.size+1;omega)).trans ((if_neg (by show ¬R=w1.heap.size;omega)).trans (if_pos rfl))
 ·exact (if_neg (by show ¬M=w1.heap.size+1;omega)).trans ((if_neg (by show ¬M=w1.heap.size;omega)).trans ((if_neg (by show ¬M=R;omega)).trans (if_pos rfl)))
 ·simp only at hg;simp only [World.size_alloc];split at hg
  ·omega
  ·split at hg
   ·omega
   ·split at hg
    ·omega
    ·split at hg
     ·omega
     ·exact absurd rfl hg
