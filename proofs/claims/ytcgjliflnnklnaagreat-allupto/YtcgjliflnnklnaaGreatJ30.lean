import Derived.Test.YtcgjliflnnklnaaGreatJ28
import Derived.Test.YtcgjliflnnklnaaGreatJ29
import Derived.Test.YtcgjliflnnklnaaGreatJ19
namespace Go.Proofs.YtcgjliflnnklnaaGreat
open Go.RowKit Tryz
set_option maxRecDepth 100000
set_option maxHeartbeats 20000000
structure Sb where
 P:Nat
 B:Nat
 f:DF
 S:SB
 sent:Int
def je(T:Nat->Nat)(j:Nat):Nat->Nat:=fun g=>if T g/16=j+1/\T g%16<=11 then T g%16 else 0
structure StI (w:World) (base:Nat) (T:Nat->Nat) (j:Nat) (b:Sb) (N:Int):Prop where
 pg:∃s,CAt w b.B s/\SV b.S s/\SI b.S N
 ds:DS w base (je T j) b.f b.S
 id:vO b.S
 rp:b.S.rp.length<=80
 blk:Blk w b.P #[vy b.B,vy b.f.Q,Iq b.sent] 166
 tB:T b.B=16*(j+1)+12
 tP:T b.P=16*(j+1)+13
 lo:base<=b.B/\base<=b.P
section
variable {w w' wx wy:World} {base:Nat} {T T':Nat->Nat} {j:Nat} {b:Sb} {N:Int}
theorem zbs{g:Nat}(h:je T j g≠0):T g≠0/\T g/16=j+1:=by
 unfold je at h;split at h
 ·next q=>exact ⟨fun e=>by rw [e] at h;exact h rfl,q.1⟩
 ·exact absurd rfl h
theorem StI.kept(h:StI w base T j b N)(hs:w.heap.size<=w'.heap.size)(hk:∀g,g<w.heap.size->T g/16=j+1->w'.heap[g]?=w.heap[g]?)(ht:∀g,g<w.heap.size->T g/16=j+1\/T' g/16=j+1->T' g=T g):StI w' base T' j b N:=by
 obtain ⟨s,c,h2,h3⟩:=h.pg;have qB:T b.B/16=j+1:=by rw [h.tB];omega
 have qP:T b.P/16=j+1:=by rw [h.tP];omega
 have lB:=c.lt;have lP:=h.blk.lt;exact ⟨⟨s,c.same (hk _ lB qB),h2,h3⟩,h.ds.kept hs (fun g h1 h2=>hk g h1 (zbs h2).2) (fun g hg=>by
  unfold je;by_cases q:T g/16=j+1\/T' g/16=j+1
  ·rw [ht g hg q]
  ·simp only [not_or] at q;rw [if_neg (fun z=>q.2 z.1),if_neg (fun z=>q.1 z.1)]),h.id,h.rp,h.blk.same (hk _ lP qP),(ht _ lB (.inl qB)).trans h.tB,(ht _ lP (.inl qP)).trans h.tP,h.lo⟩
theorem StI.mono(h:StI w base T j b N){M:Int}(hM:N<=M):StI w base T j b M:=by
 obtain ⟨s,c,h2,h3⟩:=h.pg;exact ⟨⟨s,c,h2,h3.mono hM⟩,h.ds,h.id,h.rp,h.blk,h.tB,h.tP,h.lo⟩
structure Mv (w:World) (base:Nat) (T:Nat->Nat) (j:Nat) (b:Sb) (Sp Sd:SB) (sent N:Int) (tag:Nat->Nat) (f:DF) (wx:World):Prop where
 os:wx.os=w.os
 tape:wx.tape=w.tape
 output:wx.output=w.output
 size:w.heap.size<=wx.heap.size
 rest:∀g,g<w.heap.size->je T j g=0->g≠b.B->g≠b.P->wx.heap[g]?=w.heap[g]?
 tags:∀g,g<w.heap.size->je T j g=0->tag g=0
 tn:∀g,wx.heap.size<=g->tag g=0
 pg:∃s,CAt wx b.B s/\SV Sp s/\SI Sp N
 q:f.Q=b.f.Q
 ds:DS wx base tag f Sd
 blk:Blk wx b.P #[vy b.B,vy b.f.Q,Iq sent] 166
 lB:b.B<w.heap.size
 lP:b.P<w.heap.size
 ne:b.B≠b.P
 zB:je T j b.B=0
 zP:je T j b.P=0
theorem Mv.first(h:StI w base T j b N)(hn:∀g,w.heap.size<=g->T g=0):Mv w base T j b b.S b.S b.sent N (je T j) b.f w:=by
 obtain ⟨s,c,h2,h3⟩:=h.pg;refine ⟨rfl,rfl,rfl,Nat.le_refl _,fun _ _ _ _ _=>rfl,fun _ _ h=>h,fun g hg=>?_,⟨s,c,h2,h3⟩,rfl,h.ds,h.blk,c.lt,h.blk.lt,fun e=>?_,?_,?_⟩
 ·unfold je;rw [hn g hg];exact if_neg (fun z=>by have:=z.1;omega)
 ·have h1:=h.tB;rw [e,h.tP] at h1;omega
 ·unfold je;rw [h.tB];exact if_neg (fun z=>by have:=z.2;omega)
 ·unfold je;rw [h.tP];exact if_neg (fun z=>by have:=z.2;omega)
variable {Sp Sd:SB} {sent:Int} {tag:Nat->Nat} {f:DF}
theorem Mv.other(h:Mv w base T j b Sp Sd sent N tag f wx)(h1:wy.os=wx.os)(h2:wy.tape=wx.tape)(h3:wy.output=wx.output)(h4:wx.heap.size<=wy.heap.size)(hk:∀g,g<wx.heap.size->g<w.heap.size\/tag g≠0->wy.heap[g]?=wx.heap[g]?):Mv w base T j b Sp Sd sent N tag f wy:=by
 obtain ⟨s,c,h6,h7⟩:=h.pg;have hs:=h.size;have lB:=h.lB;have lP:=h.lP;exact ⟨h1.trans h.os,h2.trans h.tape,h3.trans h.output,Nat.le_trans h.size h4,fun g a q1 q2 q3=>(hk g zza (.inl a)).trans (h.rest g a q1 q2 q3),h.tags,fun g hg=>h.tn g zza,⟨s,c.same (hk _ c.lt (.inl lB)),h6,h7⟩,h.q,h.ds.kept h4 (fun g a q=>hk g a (.inr q)) (fun _ _=>rfl),h.blk.same (hk _ h.blk.lt (.inl lP)),h.lB,h.lP,h.ne,h.zB,h.zP⟩
theorem Mv.below(h:Mv w base T j b Sp Sd sent N tag f wx)(hb:Bq wx wy):Mv w base T j b Sp Sd sent N tag f wy:=
 h.other hb.os hb.tape hb.output hb.size (fun g hg _=>hb.block g hg)
theorem Mv.inNew(h:Mv w base T j b Sp Sd sent N tag f wx){g:Nat}(hg:wx.grownBy wy (some g))(hn:w.heap.size<=g)(ht:tag g=0):Mv w base T j b Sp Sd sent N tag f wy:=
 h.other hg.os hg.tape hg.output hg.size (fun k hk q=>hg.block k hk (fun e=>by injection e with e;subst e;rcases q with q|q;omega;exact q ht))
theorem Mv.prog(h:Mv w base T j b Sp Sd sent N tag f wx){s':PC}{Sp':SB}{N':Int}(ht:Tn b.B s' wx wy)(hS:SV Sp' s')(hI:SI Sp' N'):Mv w base T j b Sp' Sd sent N' tag f wy:=by
 have lB:=h.lB;have lP:=h.lP;have hs:=h.size;have k:∀g,g<wx.heap.size->g≠b.B->wy.heap[g]?=wx.heap[g]?:=fun g a q=>ht.g.block g a (fun e=>q (Option.some.inj e))
 exact ⟨ht.g.os.trans h.os,ht.g.tape.trans h.tape,ht.g.output.trans h.output,Nat.le_trans h.size ht.g.size,fun g a q1 q2 q3=>(k g zza q2).trans (h.rest g a q1 q2 q3),h.tags,fun g hg=>h.tn g (Nat.le_trans ht.g.size hg),⟨s',ht.c,hS,hI⟩,h.q,h.ds.kept ht.g.size (fun g a q=>k g a (fun e=>q (by rw [e];exact h.tags _ lB h.zB))) (fun _ _=>rfl),h.blk.same (k _ h.blk.lt (fun e=>h.ne e.symm)),h.lB,h.lP,h.ne,h.zB,h.zP⟩
theorem Mv.doc(h:Mv w base T j b Sp Sd sent N tag f wx){R:SB × List UInt8}{e:Ending}(hr:FdR tag wx base f.Q R e wy):∃v tag' f',e=.returned v/\wy.ownsRow wx.heap.size 5 1 v R.2.length (zS R.2)/\(∀g,v.ownBlock=some g->tag' g=0)/\Mv w base T j b Sp R.1 sent N tag' f' wy/\∀g,g<wx.heap.size->tag g=0->wy.heap[g]?=wx.heap[g]?/\tag' g=0:=by
 obtain ⟨v,t2,f2,rfl,e2,d2,c2,o2,z2⟩:=hr;obtain ⟨s,c,h6,h7⟩:=h.pg;have lB:=h.lB;have lP:=h.lP;have hs:=h.size;have tB:=h.tags _ lB h.zB;have tP:=h.tags _ lP h.zP;have tg:∀g,g<wx.heap.size->tag g=0->yF wy t2 g=0:=fun g a q=>(xM g (Nat.lt_of_lt_of_le a c2.size)).trans (c2.tags g a q)
 refine ⟨v,yF wy t2,f2,rfl,o2,fun g q=>(xM g (o2.lt g q).2).trans (z2 g q),⟨c2.os.trans h.os,c2.tape.trans h.tape,c2.output.trans h.output,Nat.le_trans h.size c2.size,fun g a q1 q2 q3=>(c2.block g zza (h.tags g a q1)).trans (h.rest g a q1 q2 q3),fun g a q=>tg g zza (h.tags g a q),fun g hg=>xN hg,⟨s,c.same (c2.block _ c.lt tB),h6,h7⟩,e2.trans h.q,d2.old,h.blk.same (c2.block _ h.blk.lt tP),h.lB,h.lP,h.ne,h.zB,h.zP⟩,fun g a q=>⟨c2.block g a q,tg g a q⟩⟩
theorem Mv.send(h:Mv w base T j b Sp Sd sent N tag f wx)(n:Int):Mv w base T j b Sp Sd n N tag f (wx.setCell (Aq b.P 2) (Iq n)):=by
 obtain ⟨s,c,h6,h7⟩:=h.pg;have k:∀g,g≠b.P->(wx.setCell (Aq b.P 2) (Iq n)).heap[g]?=wx.heap[g]?:=fun g q=>Below.heap_setCell _ _ _ _ q
 exact ⟨h.os,h.tape,h.output,by simpa using h.size,fun g a q1 q2 q3=>(k g q3).trans (h.rest g a q1 q2 q3),h.tags,fun g hg=>h.tn g (by simpa using hg),⟨s,c.same (k _ h.ne),h6,h7⟩,h.q,h.ds.kept zzc (fun g a q=>k g (fun e=>q (by rw [e];exact h.tags _ h.lP h.zP))) (fun _ _=>rfl),h.blk.put 2 _,h.lB,h.lP,h.ne,h.zB,h.zP⟩
end
theorem DS.norm{w:World}{base:Nat}{tag tag2:Nat->Nat}{f:DF}{S:SB}(h:DS w base tag f S)(ht:∀g,1<=tag g->tag g<=11->tag2 g=tag g):DS w base tag2 f S:=by
 have k:∀g n,tag g=n+1->n+1<=11->tag2 g=n+1:=fun g n e h=>(ht g zza zza).trans e
 exact ⟨h.blk,h.c.mch,h.c.sc,h.c.pat,h.c.bk,h.c.wt,h.c.rg,h.c.ls,h.c.lo,k _ _ h.c.tQ zzb,k _ _ h.c.tZ zzb,k _ _ h.c.tR zzb,k _ _ h.c.tM zzb,fun g e=>k _ _ (h.c.th g e) zzb,fun g e=>k _ _ (h.c.tp g e) zzb,fun g e=>k _ _ (h.c.tb g e) zzb,fun g e=>k _ _ (h.c.tw g e) zzb,fun g e=>k _ _ (h.c.tr g e) zzb,fun g e=>k _ _ (h.c.tl g e) zzb,fun i v hv g e=>k _ _ (h.c.ts i v hv g e) zzb⟩
structure Sts (w0:World) (vs:Value) (T:Nat->Nat) (ss:List Sb) (N:Int) (w:World):Prop where
 tl:∀g,T g≠0->g<w.heap.size
 own:w.ownsRow w0.heap.size 136 1 vs ss.length (ss.map fun b=>vy b.P)
 tV:∀g,vs.ownBlock=some g->T g=1
 st:∀i,(h:i<ss.length)->StI w w0.heap.size T (2*i) ss[i] N
section
variable {w0 w wx:World} {vs:Value} {T:Nat->Nat} {ss:List Sb} {N N':Int} {k:Nat}
theorem Sts.past{T':Nat->Nat}(h:Sts w0 vs T ss N w)(hs:w.heap.size<=wx.heap.size)(hk:∀g,g<w.heap.size->T g=1\/16<=T g%32->wx.heap[g]?=w.heap[g]?)(ht:∀g,g<w.heap.size->T' g=T g)(tl:∀g,T' g≠0->g<wx.heap.size):Sts w0 vs T' ss N wx:=
 ⟨tl,zG h.own (fun g e=>hk g (h.own.lt g e).2 (.inl (h.tV g e))),fun g e=>(ht g (h.own.lt g e).2).trans (h.tV g e),fun i q=>(h.st i q).kept hs (fun g a e=>hk g a (.inr zza)) (fun g a _=>ht g a)⟩
theorem Sts.kept(h:Sts w0 vs T ss N w)(hs:w.heap.size<=wx.heap.size)(hk:∀g,T g≠0->wx.heap[g]?=w.heap[g]?):Sts w0 vs T ss N wx:=
 h.past hs (fun g _ q=>hk g zza) (fun _ _=>rfl) (fun g q=>Nat.lt_of_lt_of_le (h.tl g q) hs)
theorem Sts.with_(h:Sts w0 vs T ss N w)(o:Obj):Sts w0 vs (fun g=>if g=w.heap.size then 2 else T g) ss N (w.alloc o):=by
 have lt:∀g,g<w.heap.size->(if g=w.heap.size then 2 else T g)=T g:=fun g q=>if_neg zza
 refine ⟨fun g q=>?_,zG h.own (fun g e=>Below.heap_alloc _ _ _ (h.own.lt g e).2),fun g e=>(lt g (h.own.lt g e).2).trans (h.tV g e),fun i q=>(h.st i q).kept zzc (fun g a _=>Below.heap_alloc _ _ _ a) (fun g a _=>lt g a)⟩;have q:(if g=w.heap.size then 2 else T g)≠0:=q;simp only [World.size_alloc];split at q
 ·omega
 ·have:=h.tl g q;omega
theorem Sts.mono(h:Sts w0 vs T ss N w)(hN:N<=N'):Sts w0 vs T ss N' w:=⟨h.tl,h.own,h.tV,fun i q=>(h.st i q).mono hN⟩
def XM(w:World)(T tag:Nat->Nat)(j:Nat):Nat->Nat:=fun g=>if je T j g≠0\/w.heap.size<=g then (if 1<=tag g/\tag g<=11 then 16*(j+1)+tag g else 0) else T g
theorem zfu(hk:k<ss.length){S':SB}{sent:Int}{fd:DF}:((ss.set k ⟨ss[k].P,ss[k].B,fd,S',sent⟩).map fun b=>vy b.P)=ss.map fun b=>vy b.P:=by
 apply List.ext_getElem?;intro i;rw [List.map_set,List.getElem?_set];split
 ·next e=>subst e;simp [hk]
 ·rfl
theorem Sts.fed(h:Sts w0 vs T ss N w)(hk:k<ss.length){S':SB}{sent:Int}{tag:Nat->Nat}{fd:DF}(m:Mv w w0.heap.size T (2*k) ss[k] S' S' sent N' tag fd wx)(hi:vO S')(hr:S'.rp.length<=80)(hN:N<=N'):Sts w0 vs (XM w T tag (2*k)) (ss.set k ⟨ss[k].P,ss[k].B,fd,S',sent⟩) N' wx/\(∀g,XM w T tag (2*k) g≠0->T g≠0\/w.heap.size<=g)/\(∀g,w.heap.size<=g->tag g=0->XM w T tag (2*k) g=0)/\(∀g,g<w.heap.size->T g=0->wx.heap[g]?=w.heap[g]?)/\∀g,T g≠0->T g/16≠2*k+1->wx.heap[g]?=w.heap[g]?/\XM w T tag (2*k) g=T g:=by
 have sk:=h.st k hk;have old:∀g,g<w.heap.size->je T (2*k) g=0->XM w T tag (2*k) g=T g:=fun g a q=>if_neg (fun z=>z.elim (fun z=>z q) zza)
 have z0:∀g,T g/16≠2*k+1->je T (2*k) g=0:=fun g q=>if_neg (fun z=>q z.1)
 have nB:∀g,T g/16≠2*k+1->g≠ss[k].B/\g≠ss[k].P:=fun g q=>⟨fun e=>q (by rw [e,sk.tB];omega),fun e=>q (by rw [e,sk.tP];omega)⟩
 have hpm:=zfu hk (fd:=fd) (S':=S') (sent:=sent);have nv:∀g,XM w T tag (2*k) g=(if 1<=tag g/\tag g<=11 then 16*(2*k+1)+tag g else 0)\/(XM w T tag (2*k) g=T g/\g<w.heap.size/\je T (2*k) g=0):=fun g=>by
  unfold XM;by_cases q:je T (2*k) g≠0\/w.heap.size<=g
  ·rw [if_pos q];exact .inl rfl
  ·rw [if_neg q];simp only [not_or,Decidable.not_not] at q;exact .inr ⟨rfl,by omega,q.1⟩
 refine ⟨⟨fun g q=>?_,?_,fun g e=>?_,fun i q=>?_⟩,fun g q=>?_,fun g a q=>?_,fun g a q=>m.rest g a (z0 g (by rw [q];omega)) (nB g (by rw [q];omega)).1 (nB g (by rw [q];omega)).2,fun g q0 q=>⟨m.rest g (h.tl g q0) (z0 g q) (nB g q).1 (nB g q).2,old g (h.tl g q0) (z0 g q)⟩⟩
 ·rcases nv g with e|⟨e,a,_⟩
  ·rw [e] at q;rcases Nat.lt_or_ge g wx.heap.size with z|z
   ·exact z
   ·rw [m.tn g z] at q;simp at q
  ·exact Nat.lt_of_lt_of_le a m.size
 ·rw [hpm,List.length_set];exact zG h.own (fun g e=>m.rest g (h.own.lt g e).2 (z0 g (by rw [h.tV g e];omega)) (nB g (by rw [h.tV g e];omega)).1 (nB g (by rw [h.tV g e];omega)).2)
 ·exact (old g (h.own.lt g e).2 (z0 g (by rw [h.tV g e];omega))).trans (h.tV g e)
 ·have q':i<ss.length:=by simpa using q
  by_cases e:i=k
  ·subst e;simp only [List.getElem_set_self];obtain ⟨s,c,h2,h3⟩:=m.pg;refine ⟨⟨s,c,h2,h3⟩,m.ds.norm (fun g a1 a2=>?_),hi,hr,by have:=m.blk;rw [<-m.q] at this;exact this,(old _ m.lB m.zB).trans sk.tB,(old _ m.lP m.zP).trans sk.tP,sk.lo⟩;rcases nv g with e|⟨e,b1,b2⟩
   ·rw [if_pos ⟨a1,a2⟩] at e;unfold je;rw [e,if_pos ⟨by omega,by omega⟩];omega
   ·have:=m.tags g b1 b2;omega
  ·rw [List.getElem_set_ne (fun z=>e z.symm)];refine ((h.st i q').kept m.size (fun g a1 a2=>?_) (fun g a1 a2=>?_)).mono hN
   ·have w1:T g/16≠2*k+1:=by omega
    exact m.rest g a1 (z0 g w1) (nB g w1).1 (nB g w1).2
   ·rcases nv g with z|⟨z,_,_⟩
    ·rcases a2 with a2|a2
     ·exact old g a1 (z0 g zza)
     ·rw [z] at a2;split at a2
      ·omega
      ·omega
    ·exact z
 ·rcases nv g with e|⟨e,a,_⟩
  ·by_cases z:je T (2*k) g≠0
   ·exact .inl (zbs z).1
   ·rcases Nat.lt_or_ge g w.heap.size with y|y
    ·rw [old g y (by simpa using z)] at q;exact .inl q
    ·exact .inr y
  ·rw [e] at q;exact .inl q
 ·unfold XM;rw [if_pos (.inr a),if_neg zza]
end
theorem zdL(c:Int)(hc1: -9223372036854775808<=c)(hc2:c<=9223372036854775807):∃d:UInt8,∀w,Cq 43 #[Iq c,Iq 256] w (Iq (d.toNat:Int)) fun w'=>w'=w:=by
 have q:∃d:UInt8,pkI c 256=(d.toNat:Int):=by
  unfold pkI;split
  ·have:=za9 c 256 zza zzh;exact ⟨UInt8.ofNat (-(c+1).tmod 256).toNat,by simp;omega⟩
  ·exact ⟨UInt8.ofNat (c%256).toNat,by simp;omega⟩
 obtain ⟨d,hd⟩:=q;refine ⟨d,fun w=>?_⟩;rw [<-hd];clear hd;go_enter func43,ntmps43;go_wp2;all_goals go_ret
 ·exact zpY
 ·exact zpX
theorem YM(B:Nat)(w:World):Cq 57 #[.pointer (some (Aq B 65562)),Nq] w (Nq) fun w'=>w'=w:=by
 go_enter func57,ntmps57;go_wp2_with fail;go_loopw [5,10] (fun v i wr=>v=Nq/\i=Iq 0/\wr=w) (fun _ _ _=>1);case atStart=>exact ⟨rfl,rfl,rfl⟩
 case round=>
  obtain ⟨rfl,rfl,rfl⟩:=hrel;go_wp2;go_ret;exact ⟨rfl,rfl⟩
theorem zdM(B:Nat)(w:World):Cq 40 #[Pq B,Nq] w (Nq) fun w'=>w'=w:=by
 go_enter func40,ntmps40;go_wp2_with fail;refine (YM B _).mono ?_;rintro e w1 ⟨rfl,hw⟩;subst w1;go_wp2_with fail;go_loopw [5,14] (fun v i wr=>v=Nq/\i=Iq 0/\wr=w) (fun _ _ _=>1);case atStart=>exact ⟨rfl,rfl,rfl⟩
 case round=>
  obtain ⟨rfl,rfl,rfl⟩:=hrel;go_wp2;go_ret;exact ⟨rfl,rfl⟩
theorem zbT(B:Nat)(w:World):Cq 29 #[Pq B,Nq] w (Nq) fun w'=>w'=w:=by
 go_enter func29,ntmps29;go_wp2_with fail;refine (zdM B _).mono ?_;rintro e w1 ⟨rfl,hw⟩;subst w1;go_wp2;go_ret;exact ⟨rfl,rfl⟩
theorem Q7{w:World}{base:Nat}{v:Value}{l:List UInt8}(h:w.ownsRow base 5 1 v l.length (zS l)):(convert 35 9 v).run prog w=.ok (Zq ⟨l.toArray⟩) w:=by
 rcases h.2 with ⟨e,e2⟩|⟨g,cap,cur,e,h1,h2,h3,h4,h5⟩
 ·have:l=[]:=List.eq_nil_of_length_eq_zero e2;subst this;rw [e];exact UM w
 ·have hc:=e ▸ h;rw [e];exact run_convert_bytes_back (P:=prog) w 35 9 5 (Aq g 0) cap l zx zoj vj (fun j hj=>by
   have q:=Hc hc j hj;rw [Jk l j hj] at q;rw [show ((Aq g 0):Addr).add j=(Aq g j) from by unfold Addr.add;split<;>simp_all];exact q)
theorem He(S:SB):S.feed []=(S,[]):=rfl
theorem zbU{S:SB}(h:vO S)(l:List UInt8):vO (S.feed l).1:=by
 unfold SB.feed;have k:∀ (ps:List Pk) (Q:SB),vO Q->vO (Q.answers ps).1:=by
  intro ps;induction ps with
  |nil=>intro Q hQ;exact hQ
  |cons p r ih=>intro Q hQ;exact ih _ (Kc hQ p)
 exact k _ _ h
theorem Ve:∀ (l:List UInt8) (s:Sc),s.st<=3->4*(zR s l).length<=l.length+s.st
 | [],s,_=>by simp [zR]
 |c::r,s,h=>by
  have q:(s.step c).st<=3/\(s.step c).st<=(if s.st=3 then 0 else s.st+1):=by
   unfold Sc.step;repeat' split
   all_goals first
    |(simp<;>omega)
    |omega
  have ih:=Ve r (s.step c) q.1;rw [zR,List.length_append,List.length_cons];have q2:=q.2;by_cases e:s.st=3
  ·rw [if_pos e] at q2⊢;simp only [List.length_cons,List.length_nil];omega
  ·rw [if_neg e] at q2⊢;simp only [List.length_nil];omega
theorem zgs{S:SB}(l:List UInt8)(h:S.rp.length<=80)(h3:S.sc.st<=3)(hl:l.length<=1100000):(S.feed l).2.length<=60000000:=by
 have h1:=Ve l S.sc h3;have h2:=Gc (zR S.sc l) {S with sc:=yA S.sc l} h;unfold SB.feed;omega
theorem Kf{w:World}{base:Nat}{tag:Nat->Nat}{f:DF}{S:SB}{N:Int}(h:DS w base tag f S)(hs:Sat S N)(hN:N<=2000000000000000000)(hi:vO S)(hrp:S.rp.length<=80)(hb:base<=w.heap.size)(bb off cap n:Nat)(l:List UInt8)(hn:l.length=n)(hl:l.length<=4000000)(hcap:l.length<=cap)(hB:zy w bb off l)(hne:bb≠f.Z):Calls prog 76 #[Pq f.Q,.slice (some (Aq bb off)) n cap] w (FdR tag w base f.Q (S.feed l)):=by
 subst hn;exact zlS h hs hN hi hrp hb bb off cap l hl hcap hB hne
theorem JO{T:Nat->Nat}{j g:Nat}(h:T g=0):je T j g=0:=by
 unfold je;rw [h];exact if_neg (fun z=>by have:=z.1;omega)
theorem zkA{w:World}{base:Nat}{X:Nat->Prop}{v:Value}{l:List UInt8}(h:w.ownsRow base 5 1 v l.length (zS l))(hX:∀g,v.ownBlock=some g->X g):Out 5 1 w X v l.length:=by
 rcases h.2 with ⟨e,e2⟩|⟨g,cap,cur,e, -⟩
 ·exact .inl ⟨e,e2⟩
 ·have h':=h;rw [e] at h';obtain ⟨r1,r2,r3⟩:=zia h';exact .inr ⟨g,cap,e,r2,r1,hX g (by rw [e];rfl)⟩
def zi1(w0:World)(f:Fix)(s:Nat->Sc)(vp:Value)(nb np:Nat)(T:Nat->Nat)(ss:List Sb)(N:Int)(w w':World):Prop:=
 ∃T' ss' vb',(ss'.map fun b=>vy b.P)=(ss.map fun b=>vy b.P)/\(∀g,T g≠0->T g%32<16->w'.heap[g]?=w.heap[g]?/\T' g=T g)/\Inv w0 f (fun g=>T' g≠0) s s vb' vp (nb+1) np w'/\Sts w0 f.vs T' ss' (N+1100000000000) w'
theorem zp4{p:Prop} (q:p:=by
 go_wp2;go_meet;case rel=>exact ⟨⟨#[]⟩,_,rfl,by decide,HM2.out,o1',hsz⟩):p:=q
theorem zaP(w0:World)(f:Fix)(s:Nat->Sc)(vb vp:Value)(nb np:Nat)(w:World)(T:Nat->Nat)(ss:List Sb)(N:Int)(hI:Inv w0 f (fun g=>T g≠0) s s vb vp nb np w)(hS:Sts w0 f.vs T ss N w)(hN:N<=1900000000000000000)(hnb:nb<=9000000)
  (kd a b:Int) (S:ByteArray) (n q:Bool) (ca:Option Addr) (cl cc:Nat) (rom:Int) (hkd:kd=8\/kd=9) (hS4:S.size<=1100000) (k:Nat) (hk:k<ss.length):
  Cq 46 #[Pq f.W,.agg #[Iq kd,Iq a,Iq b,Zq S,Tq n,Tq q,.slice ca cl cc,Iq rom],.pointer (some ⟨ss[k].P,0,none⟩)] w (Tq true) fun w'=>zi1 w0 f s vp nb np T ss N w w':=by
 have HI:=hid hI;have HS:=hid hS;have hst:=hS.st k hk;have hT0:∀g,w.heap.size<=g->T g=0:=fun g hg=>by
  by_cases e:T g=0
  ·exact e
  ·have:=hS.tl g e;omega
 have HT0:=hid hT0;have m0:=Mv.first hst hT0;have HX:=qH3 hst.id hst.rp hI.bel.size;have hWl:=hI.wlt;generalize hsb:ss[k]=sb at*;have HSB:=hid hsb;clear hI hS hst hT0 hsb;have hb1:Bq w (w.alloc (.cells #[Iq kd,Iq a,Iq b,Zq S,Tq n,Tq q,.slice ca cl cc,Iq rom] 29)):=qBa;have HM1:=hid (m0.below hb1);have hO1:Blk (w.alloc (.cells #[Iq kd,Iq a,Iq b,Zq S,Tq n,Tq q,.slice ca cl cc,Iq rom] 29)) w.heap.size #[Iq kd,Iq a,Iq b,Zq S,Tq n,Tq q,.slice ca cl cc,Iq rom] 29:=Blk.new _ _ _;go_enter func46,ntmps46;go_upto_if 19 with fail;generalize (w.alloc (.cells #[Iq kd,Iq a,Iq b,Zq S,Tq n,Tq q,.slice ca cl cc,Iq rom] 29))=W at*;have HO1:=hid hO1;clear m0 hb1;go_cut [7] from 15 to 51 (fun v wx=> ∃t sn,v=Zq t/\t.size<=1100000/\Mv w w0.heap.size T (2*k) sb sb.S sb.S sn N (je T (2*k)) sb.f wx/\wx.cell? (Aq w.heap.size 1)=some (Iq a)/\w.heap.size<wx.heap.size)
 case first=>
  have o0:=hO1.cell 0;rcases hkd with rfl|rfl
  ·clear hO1 o0;go_wp2;go_meet;case rel=>exact ⟨S,sb.sent,rfl,hS4,HM1.out,HO1.out.cell 1,HO1.out.lt⟩
  ·have o2:=hO1.cq 2;have o3:=hO1.cq 3;have p2:=HM1.out.blk.cq 2;have f2:=HM1.out.blk.free 2;have ol:=hO1.lt;have pl:=HM1.out.blk.lt;have HPne:Hid (sb.P≠w.heap.size):=by have:=HM1.out.lP;show ¬_=_;omega
   obtain ⟨d,PK⟩:=zdL (IntKind.wrap .i64 (sb.sent+b)) (by rw [IntKind.wrap_i64];omega) (by rw [IntKind.wrap_i64];omega);generalize hcw:IntKind.wrap .i64 (sb.sent+b)=cw at*;have kb:∀ {w1:World} {p:Addr} {v:Value},Bq W w1->W.cell? p=some v->w1.cell? p=some v:=fun h1 h2=>cell_later h1 h2
   clear hO1 o0;by_cases h80:S.size<=80
   ·have FR:=fun w1=>YJ d S w1 h80
    go_upto_region 3 with fail;go_cut [8,9] from 20 to 33 (fun v _ wx=>qk W wx v (zH d S.data.toList))
    case first=>
     go_region_held3 (fun w'=>w'.cell? (Aq sb.P 2)=some (Iq sb.sent)/\w'.cell? (Aq w.heap.size 2)=some (Iq b)/\w'.cell? (Aq w.heap.size 3)=some (Zq S)) (go_keep) (first|(go_at_call 43;refine (PK _).mono ?_;rintro e w1 ⟨rfl,hw⟩;subst w1)|(go_at_call 68;refine (FR _).mono ?_;rintro e w2 ⟨va,rfl,g2,cap2,rfl,l1,l2,l3,l4,l5⟩;have k1:w2.cell? (Aq sb.P 2)=some (Iq sb.sent):=cell_later l5 p2;have k2:w2.cell? (Aq w.heap.size 2)=some (Iq b):=cell_later l5 o2;have k3:w2.cell? (Aq w.heap.size 3)=some (Zq S):=cell_later l5 o3;have HNB:Hid (qk W w2 (Sq g2 (zH d S.data.toList).length cap2) (zH d S.data.toList)):=⟨g2,cap2,rfl,l1,l2,l3,l4,(Below.refl _ _).drew.trans l5⟩;clear l1 l2 l3 l4 l5))
     all_goals
      go_wp2;go_meet;case rel=>exact HNB.out
    case rest=>
     have hcv:=UN hcut;obtain ⟨g2,cap2,rfl,l1,l2,l3,l4,l5⟩:=hcut;have HM2:=hid (HM1.out.below l5);have hfr:(zH d S.data.toList).length<=200:=zon d S.data.toList (by simpa using h80);have o1':wc.cell? (Aq w.heap.size 1)=some (Iq a):=cell_later l5 (HO1.out.cell 1);have o2':wc.cell? (Aq w.heap.size 2)=some (Iq b):=cell_later l5 o2;have o3':wc.cell? (Aq w.heap.size 3)=some (Zq S):=cell_later l5 o3;have p2':wc.cell? (Aq sb.P 2)=some (Iq sb.sent):=cell_later l5 p2;have f2':=HM2.out.blk.free 2;have h80':(S.size:Int)<=80:=by omega
     have hsz:w.heap.size<wc.heap.size:=Nat.lt_of_lt_of_le ol l5.size;generalize zH d S.data.toList=fr at*;clear l1 l2 l3 l4 l5 FR PK hcw p2 o2 o3 f2;by_cases hb0:b=0
     ·subst hb0;go_wp2;go_meet;case rel=>exact ⟨⟨fr.toArray⟩,_,rfl,by show fr.toArray.size<=1100000;simp;omega,HM2.out.send _,by rw [World.cell?_setCell_other _ _ _ _ (fun e=>HPne.out (congrArg Addr.block e))];exact o1',by simpa using hsz⟩
     ·have hb0':(b==0)=false:=by simpa using hb0
      go_wp2;go_meet;case rel=>exact ⟨⟨fr.toArray⟩,_,rfl,by show fr.toArray.size<=1100000;simp;omega,HM2.out,o1',hsz⟩
   ·have FR:=fun w1=>JE d S w1 zza
    have h80':¬(S.size:Int)<=80:=by omega
    have hnl:=UM;have o1:=HO1.out.cq 1;go_upto_region 3 with fail;go_cut [8,9] from 20 to 33 (fun v _ wx=>v=Nq/\Bq W wx)
    case first=>
     go_quiet (first|(go_at_call 43;with_reducible exact Calls.quiet_of_same (PK _))|(go_at_call 68;with_reducible exact Calls.quiet_of_same (FR _)));go_wp2;go_meet;case rel=>exact ⟨rfl,below_drewN (Below.refl _ _) _⟩
    case rest=>
     obtain ⟨rfl,l5⟩:=hcut;have HM2:=hid (HM1.out.below l5);have o1':wc.cell? (Aq w.heap.size 1)=some (Iq a):=cell_later l5 o1;have o2':wc.cell? (Aq w.heap.size 2)=some (Iq b):=cell_later l5 o2;have o3':wc.cell? (Aq w.heap.size 3)=some (Zq S):=cell_later l5 o3;have hsz:w.heap.size<wc.heap.size:=Nat.lt_of_lt_of_le ol l5.size;clear l5 FR PK hcw p2 o2 o3 f2 o1;by_cases hb0:b=0
     ·subst hb0;exact zp4
     ·have hb0':(b==0)=false:=by simpa using hb0
      exact zp4
 case rest=>
  obtain ⟨t,sn,rfl,ht,hm,ca1,hlt⟩:=hcut;have HM:=hid hm;have p0:=hm.blk.cq 0;unfold vy at p0;have HL:=qH1 hlt;obtain ⟨W5,h5w⟩:∃W5,W5=wc:=⟨_,rfl⟩
  subst wc;clear hm HM1 HO1 hO1 hkd;by_cases hnil:t.size=0/\(a.tmod 2 !=0)=true
  ·obtain rfl:t=⟨#[]⟩:=by
    have h0:=hnil.1;obtain ⟨⟨l⟩⟩:=t;have:l.length=0:=h0;rw [List.eq_nil_of_length_eq_zero this]
   have HNl:=qH1 hnil.2;have p1:=HM.out.blk.cq 1;have hby:=Js;have n1:=World.new_ne W5 _ p1;have HSAT:=hid (show Sat sb.S N from by obtain ⟨s1,c1,v1,i1⟩:=HM.out.pg;exact ⟨_,_,s1,c1,v1,i1⟩);clear hnil ht;go_upto_region 8 with (first|(go_at_call 70;rw [HNl.out];refine (Kz _).mono ?_;rintro e w2 ⟨rfl,hw⟩;subst w2));go_upto_region 11 with (first|(go_at_call 29;refine (zbT _ _).mono ?_;rintro e w2 ⟨rfl,hw⟩;subst w2)|(go_at_call 72;refine (KB _).mono ?_;rintro e w2 ⟨rfl,hw⟩;subst w2)|(go_at_call 76;go_must (refine (Kf (HM.out.below (((Below.refl W5.heap.size W5).alloc (Nat.le_refl _) _).drew)).ds HSAT.out zza HX.out.1 HX.out.2.1 ?_ W5.heap.size 0 _ 0 [] rfl zzc zzc (fun i hi=>by simp at hi) ?_).mono ?_;(have:=HX.out.2.2;have:=HM.out.size;simp;omega);(have:=HM.out.ds.c.sc.cells.lt;omega);intro e w6 hr;obtain ⟨v2,tag6,f6,rfl,o6,z6,m6,k6⟩:=(HM.out.below (((Below.refl W5.heap.size W5).alloc (Nat.le_refl _) _).drew)).doc hr;obtain ⟨rb,rd,hv2, -⟩:=yG o6;subst hv2;have HD6:=qH1 m6;have C2:=Q7 o6;clear hr o6 z6 m6 k6)));have C1:=UM w6;obtain ⟨F1,F2,F3,F4,F5⟩:=HS.out.fed hk (show Mv w w0.heap.size T (2*k) ss[k] sb.S sb.S sn N tag6 f6 w6 from by rw [HSB.out];exact HD6.out) HX.out.1 HX.out.2.1 (Int.le_refl _);have BY:=QK w0 f (fun g=>XM w T tag6 (2*k) g≠0) s s vb vp nb np 0 (Nq) w6 (HI.out.kept HD6.out.os HD6.out.tape HD6.out.output HD6.out.size (fun g a q=>F4 g a (by simpa using q)) F2) F1.tl (.inl ⟨rfl,rfl⟩) zza zza
   have HF1:=hid (F1.mono (N':=N+1100000000000) zza);have HF5:=hid F5;clear F1 F2 F3 F4 F5 n1 hby p1;go_wp2_with (first|(go_at_call 69;refine BY.mono ?_;rintro e w7 ⟨rfl,vb',hI7,k7,s7⟩;have HE:Hid (zi1 w0 f s vp nb np T ss N w w7):=⟨_,_,vb',zfu hk,fun g q0 q=>(by obtain ⟨z1,z2⟩:=HF5.out g q0 zza;exact ⟨(k7 g (by rw [z2];exact q0) (fun e=>by cases e)).trans z1,z2⟩),hI7.lessX (fun g q=>⟨q,fun e=>by cases e⟩),HF1.out.kept s7 (fun g q=>k7 g q (fun e=>by cases e))⟩;clear hI7 k7 s7));go_ret;exact ⟨by simp [He],HE.out⟩
  ·have LT:=Kv t (a.tmod 2 !=0) W5 zza hnil;have hlen:t.data.toList.length=t.size:=by simp
   go_upto_region 8 with (first|(go_at_call 70;refine LT.mono ?_;rintro e w2 ⟨rfl,hL,hb2⟩;have HL2:=qH2 hL hb2;clear hL hb2));clear LT hnil p0 ca1;have HM2:=hid (HM.out.below HL2.out.2);have p0:=HM2.out.blk.cq 0;obtain ⟨s1,c1,v1,i1⟩:=HM2.out.pg;have hN0:0<=N:=by have:=i1.c0;have:=i1.c1;omega
   have lB:=HM.out.lB;have hBl:W5.heap.size≠sb.B:=by omega
   have MF:=Qt (Tn.refl c1) v1 i1 hN0 zza HX.out.2.1 W5.heap.size 0 (t.size+8) t.data.toList zza HL2.out.1.bytes hBl;rw [hlen] at MF;have HPL:=hid (zeY sb.S.sc t.data.toList);clear c1 v1 i1;go_upto_region 9 with (first|(go_at_call 29;refine MF.mono ?_;rintro e w3 ⟨va,s3,rfl,o3,t3,v3,i3,r3⟩;have HF3:=hid (show w3.ownsRow w2.heap.size 5 1 va (sb.S.feed t.data.toList).2.length (zS (sb.S.feed t.data.toList).2)/\Tn sb.B s3 w2 w3/\SV (sb.S.feed t.data.toList).1 s3/\SI (sb.S.feed t.data.toList).1 (N+1100000000000)/\(sb.S.feed t.data.toList).1.rp.length<=80 from ⟨o3,t3,v3,i3.mono (by have:=HPL.out;omega),r3⟩);clear o3 t3 v3 i3 r3));clear MF p0;have HM3:=hid (HM2.out.prog HF3.out.2.1 HF3.out.2.2.1 HF3.out.2.2.2.1);have HL3:=hid (zcw HL2.out.1 HF3.out.2.1.g hBl);have BK:=KE t W5.heap.size w3 zza HL3.out;obtain ⟨ra,rc,hva, -⟩:=yG HF3.out.1;subst hva;go_upto_region 10 with (first|(go_at_call 72;refine BK.mono ?_;rintro e w4 ⟨rfl,g4,s4⟩;have HB4:=qH2 g4 s4;clear g4 s4));clear BK;have HG:Hid (w.heap.size<=W5.heap.size/\T W5.heap.size=0/\W5.heap.size<w2.heap.size/\w2.heap.size<=w3.heap.size):=⟨by have:=HL.out;omega,HT0.out _ (by have:=HL.out;omega),HL2.out.1.row.lt,HF3.out.2.1.g.size⟩;have HM4:=hid (HM3.out.inNew HB4.out.1 HG.out.1 (JO HG.out.2.1));have HO4:Hid (w4.ownsRow w2.heap.size 5 1 (.slice ra (sb.S.feed t.data.toList).2.length rc) (sb.S.feed t.data.toList).2.length (zS (sb.S.feed t.data.toList).2)):=zG HF3.out.1 (fun g e=>HB4.out.1.block g (HF3.out.1.lt g e).2 (fun z=>by have:=(HF3.out.1.lt g e).1;have:=HG.out;injection z with z;omega))
   have HQ:Hid (∀g,(Value.slice ra (sb.S.feed t.data.toList).2.length rc).ownBlock=some g->g<w4.heap.size/\je T (2*k) g=0/\w.heap.size<=g):=fun g e=>by
    have h1:=HO4.out.lt g e;have h2:=HG.out;exact ⟨h1.2,JO (HT0.out g zza),by omega⟩
   have p1:=HM4.out.blk.cq 1;have hby:=Js;have n1:=World.new_ne w4 _ p1;have HSAT:=hid (show Sat sb.S N from by obtain ⟨s1,c1,v1,i1⟩:=HM.out.pg;exact ⟨_,_,s1,c1,v1,i1⟩);have HSZ:=qH1 HB4.out.2;have hfl:(sb.S.feed t.data.toList).2.length<=60000000:=zgs _ HX.out.2.1 (by obtain ⟨s1,c1,v1,i1⟩:=HM.out.pg;exact v1.sc.st3) zza;clear HM3 HL3 HB4;go_upto_region 11 with (first|(go_at_call 76;go_must (refine (Kf (HM4.out.below (((Below.refl w4.heap.size w4).alloc (Nat.le_refl _) _).drew)).ds HSAT.out zza HX.out.1 HX.out.2.1 ?_ w4.heap.size 0 _ t.size t.data.toList hlen zza ?_ (QZ w4 t _ _) ?_).mono ?_;(have:=HX.out.2.2;have:=HM4.out.size;simp;omega);(rw [hlen];exact grownCap_ge _ _ _ _);(have:=HM4.out.ds.c.sc.cells.lt;omega);intro e w6 hr;obtain ⟨v2,tag6,f6,rfl,o6,z6,m6,k6⟩:=(HM4.out.below (((Below.refl w4.heap.size w4).alloc (Nat.le_refl _) _).drew)).doc hr;obtain ⟨rb,rd,hv2, -⟩:=yG o6;subst hv2;have HD6:=hid (show w6.ownsRow w2.heap.size 5 1 (.slice ra (sb.S.feed t.data.toList).2.length rc) (sb.S.feed t.data.toList).2.length (zS (sb.S.feed t.data.toList).2)/\Mv w w0.heap.size T (2*k) sb (sb.S.feed t.data.toList).1 (sb.S.feed t.data.toList).1 sn (N+1100000000000) tag6 f6 w6/\(∀g,(Value.slice ra (sb.S.feed t.data.toList).2.length rc).ownBlock=some g->tag6 g=0) from ⟨zG HO4.out (fun g e=>((k6 g (by have:=(HQ.out g e).1;simp;omega) (HQ.out g e).2.1).1).trans (Below.heap_alloc _ _ _ (HQ.out g e).1)),m6,fun g e=>(k6 g (by have:=(HQ.out g e).1;simp;omega) (HQ.out g e).2.1).2⟩);have C2:=Q7 o6;clear hr o6 z6 m6 k6)))
   have C1:=Q7 HD6.out.1;obtain ⟨F1,F2,F3,F4,F5⟩:=HS.out.fed hk (show Mv w w0.heap.size T (2*k) ss[k] (sb.S.feed t.data.toList).1 (sb.S.feed t.data.toList).1 sn (N+1100000000000) tag6 f6 w6 from by rw [HSB.out];exact HD6.out.2.1) (zbU HX.out.1 _) HF3.out.2.2.2.2 zza;have HZ:Hid (∀g,(Value.slice ra (sb.S.feed t.data.toList).2.length rc).ownBlock=some g->XM w T tag6 (2*k) g=0):=fun g e=>F3 g (HQ.out g e).2.2 (HD6.out.2.2 g e)
   have BY:=QK w0 f (fun g=>XM w T tag6 (2*k) g≠0\/(Value.slice ra (sb.S.feed t.data.toList).2.length rc).ownBlock=some g) s s vb vp nb np (sb.S.feed t.data.toList).2.length (.slice ra (sb.S.feed t.data.toList).2.length rc) w6 (HI.out.kept HD6.out.2.1.os HD6.out.2.1.tape HD6.out.2.1.output HD6.out.2.1.size (fun g a q=>F4 g a (by simpa using q)) (fun g q=>q.elim (F2 g) (fun e=>.inr (HQ.out g e).2.2))) (fun g q=>q.elim (F1.tl g) (fun e=>(HD6.out.1.lt g e).2)) (zkA HD6.out.1 (fun g e=>.inr e)) zza zza;have HF1:=hid F1;have HF5:=hid F5;clear F1 F2 F3 F4 F5 n1 hby p1;generalize (sb.S.feed t.data.toList).2=L at*;go_wp2_with (first|(go_at_call 69;refine BY.mono ?_;rintro e w7 ⟨rfl,vb',hI7,k7,s7⟩;have HE:Hid (zi1 w0 f s vp nb np T ss N w w7):=⟨_,_,vb',zfu hk,fun g q0 q=>(by obtain ⟨z1,z2⟩:=HF5.out g q0 zza;exact ⟨(k7 g (.inl (by rw [z2];exact q0)) (fun e=>by have:=HZ.out g e;rw [z2] at this;exact q0 this)).trans z1,z2⟩),hI7.lessX (fun g q=>⟨.inl q,fun e=>q (HZ.out g e)⟩),HF1.out.kept s7 (fun g q=>k7 g (.inl q) (fun e=>q (HZ.out g e)))⟩;clear hI7 k7 s7));go_ret;exact ⟨by simp,HE.out⟩
theorem Up(N:Nat)(v:Value)(cs:List Chn)(rom:Int){w:World}{B:Nat}(hc:CfAt N w v cs)(hv:yt rom cs=false)(hl:cs.length<=140737488355328)(hb:∀c∈cs,c.bs.length<=140737488355328):Cq 37 #[Pq B,.agg #[v,Iq rom]] w (Iq 1) fun w'=>Bq w w':=by
 have S:=fun o=>zeH (B:=B) (w:=(w.alloc o).drew) N v cs rom ((hc.below ((Below.refl _ _).alloc (Nat.le_refl _) o)).below (qJ (Below.refl _ _))) hv hl hb
 obtain ⟨p,cap,rfl, -⟩:=hc;go_enter func37,ntmps37;go_wp2_with fail;go_region_with (first|(go_at_call 34;refine (S _).mono ?_;rintro e w2 ⟨rfl,T2⟩;have HT:Hid (Bq w w2):=qBa.drew.trans (T2.mono zzc);clear T2 S));all_goals go_wp2
 all_goals go_ret
 all_goals exact ⟨rfl,HT.out⟩
theorem Hw(N:Nat)(v:Value)(cs:List Chn)(rom:Int)(w:World)(hc:CfAt N w v cs)(hv:yt rom cs=false)(hl:cs.length<=140737488355328)(hb:∀c∈cs,c.bs.length<=140737488355328):Cq 26 #[.agg #[v,Iq rom]] w (.tuple #[.pointer none,Iq 1]) fun w'=>Bq w w':=by
 obtain ⟨R,zz,hz,hzs,hR,HZ⟩:=VW;have hne:zz≠ #[]:=by intro e;rw [e] at hzs;cases hzs
 have S:∀ (o:Obj) (t:TypeId),Calls prog 37 #[.pointer (some ⟨w.heap.size+1,0,none⟩),.agg #[v,Iq rom]] ((w.alloc o).alloc (.cells zz t)).drew fun e w'=>e=.returned (Iq 1)/\Below ((w.alloc o).alloc (.cells zz t)).drew.heap.size ((w.alloc o).alloc (.cells zz t)).drew w':=by
  intro o t;exact Up N v cs rom ((hc.below (((Below.refl _ _).alloc (Nat.le_refl _) o).alloc zzc _)).below (qJ (Below.refl _ _))) hv hl hb
 clear HZ hR;obtain ⟨p,cap,rfl, -⟩:=hc;go_enter func26,ntmps26;go_wp2_with fail;go_region_with (first|(go_at_call 37;refine (S _ _).mono ?_;rintro e w2 ⟨rfl,T2⟩;have HT:Hid (Bq w w2):=(qBa.alloc zzc _).drew.trans (T2.mono zzd);clear T2 S));all_goals go_wp2
 all_goals go_ret2
 all_goals exact ⟨rfl,HT.out⟩
def IvS(w0:World)(f:Fix)(s:Nat->Sc)(vb vp:Value)(nb np:Nat)(T:Nat->Nat)(ss:List Sb)(N:Int)(w:World):Prop:=Inv w0 f (fun g=>T g≠0) s s vb vp nb np w/\Sts w0 f.vs T ss N w
section
variable {w0 w wz:World} {f:Fix} {s t:Nat->Sc} {vb vp vs v':Value} {nb np:Nat} {T tg:Nat->Nat} {ss:List Sb} {N:Int} {X:Nat->Prop}
theorem IvS.below(h:IvS w0 f s vb vp nb np T ss N w)(hb:Bq w wz):IvS w0 f s vb vp nb np T ss N wz:=⟨h.1.below hb,h.2.kept hb.size (fun g q=>hb.block g (h.2.tl g q))⟩
theorem Inv.setC(h:Inv w0 f X s t vb vp nb np w)(a b:Value)(h1:wz.os=w.os)(h2:wz.tape=w.tape)(h3:wz.output=w.output)(hs:w.heap.size<=wz.heap.size)(k:∀g,g≠f.W->wz.heap[g]?=w.heap[g]?)(hb:wz.heap[f.W]?=some (.cells #[a,b,Sq f.SB 2 f.cs,Sq f.RB 2 f.cr,vb,vp] 82 (0,0))):Inv w0 {f with vm:=a,vs:=b} X s t vb vp nb np wz:=by
 have hm:f.mem f.W:=.inl rfl;have hsb:f.SB≠f.W:=h.ap.ws.symm;have hrb:f.RB≠f.W:=h.ap.wr.symm;refine ⟨⟨h1.trans h.bel.os,h2.trans h.bel.tape,h3.trans h.bel.output,Nat.le_trans h.bel.size hs,fun g q=>(k g (fun e=>by have:=h.lo _ hm;omega)).trans (h.bel.block g q)⟩,⟨h.ap.ws,h.ap.wr,h.ap.sr,h.ap.wb,h.ap.sb,h.ap.rb,h.ap.br,h.ap.bb,h.ap.rr⟩,h.lo,hb,?_,?_,?_,?_,?_,?_,h.vbm,h.vpm,h.xm⟩
 ·intro i hi;exact (World.cell?_of_block (a:=(Aq f.SB i)) (k _ hsb)).trans (h.sb i hi)
 ·intro i hi;exact (World.cell?_of_block (a:=(Aq f.RB i)) (k _ hrb)).trans (h.rb i hi)
 ·intro i hi;exact (h.sc i hi).sameBlock (k _ (h.ap.wb i hi).1.symm)
 ·intro i hi;exact (h.rs i hi).sameBlock (k _ (h.ap.wb i hi).2.symm)
 ·exact h.bk.kept (fun g hg=>k g (fun e=>(h.vbm g hg).1 (by rw [e];exact hm))) (fun g _ hB=>k g (fun e=>hB (.inl (by rw [e];exact hm)))) (fun _ _ q=>q)
 ·exact h.pk.kept (fun g hg=>k g (fun e=>(h.vpm g hg).1 (by rw [e];exact hm))) (fun g _ hB=>k g (fun e=>hB (.inl (by rw [e];exact hm)))) (fun _ _ q=>q)
theorem Inv.setS(h:Inv w0 f X s t vb vp nb np w)(v':Value):Inv w0 {f with vs:=v'} X s t vb vp nb np (w.setCell (Aq f.W 1) v'):=h.setC f.vm v' rfl rfl rfl zzc (fun g q=>Below.heap_setCell _ _ _ _ q) (XW h.blk v')
theorem Inv.setM(h:Inv w0 f X s t vb vp nb np w)(v':Value):Inv w0 {f with vm:=v'} X s t vb vp nb np (w.setCell (Aq f.W 0) v'):=h.setC v' f.vs rfl rfl rfl zzc (fun g q=>Below.heap_setCell _ _ _ _ q) (XW h.blk v')
theorem Sts.push(h:Sts w0 vs T ss N w){b:Sb}(hs:w.heap.size<=wz.heap.size)(hk:∀g,g<w.heap.size->T g≠0->T g≠1->wz.heap[g]?=w.heap[g]?)
  (hown:wz.ownsRow w0.heap.size 136 1 v' (ss.length+1) ((ss.map fun b=>vy b.P)++ [vy b.P])) (hv:∀g,v'.ownBlock=some g->T g=1\/w.heap.size<=g)
  (pg:∃s,CAt wz b.B s/\SV b.S s/\SI b.S N) (ds:DS wz w0.heap.size tg b.f b.S) (hi:vO b.S) (hr:b.S.rp.length<=80) (blk:Blk wz b.P #[vy b.B,vy b.f.Q,Iq b.sent] 166)
  (tn:∀g,tg g≠0->w.heap.size<=g/\g<wz.heap.size/\g≠b.B/\g≠b.P/\v'.ownBlock≠some g) (nB:w.heap.size<=b.B) (nP:w.heap.size<=b.P) (ne:b.B≠b.P) (nv:v'.ownBlock≠some b.B/\v'.ownBlock≠some b.P) (lo:w0.heap.size<=w.heap.size):
  ∃T',Sts w0 v' T' (ss++ [b]) N wz/\∀g,g<w.heap.size->T' g=T g:=by
 obtain ⟨T',hT⟩:∃T':Nat->Nat,T'=fun g=>if g=b.P then 16*(2*ss.length+1)+13 else if g=b.B then 16*(2*ss.length+1)+12 else if 1<=tg g/\tg g<=11 then 16*(2*ss.length+1)+tg g else if v'.ownBlock=some g then 1 else T g:=⟨_,rfl⟩
 have tP:T' b.P=16*(2*ss.length+1)+13:=by rw [hT];exact if_pos rfl
 have tB:T' b.B=16*(2*ss.length+1)+12:=by rw [hT];exact (if_neg ne).trans (if_pos rfl)
 have tD:∀g,1<=tg g->tg g<=11->T' g=16*(2*ss.length+1)+tg g:=fun g h1 h2=>by
  obtain ⟨_,_,q3,q4,_⟩:=tn g zza;rw [hT];exact (if_neg q4).trans ((if_neg q3).trans (if_pos ⟨h1,h2⟩))
 have tV:∀g,v'.ownBlock=some g->T' g=1:=fun g e=>by
  rw [hT];exact (if_neg (fun z=>nv.2 (by rw [<-z];exact e))).trans ((if_neg (fun z=>nv.1 (by rw [<-z];exact e))).trans ((if_neg (fun z=>(tn g zza).2.2.2.2 e)).trans (if_pos e)))
 have tO:∀g,g<w.heap.size->T' g=T g:=fun g hg=>by
  by_cases z:v'.ownBlock=some g
  ·rw [tV g z];rcases hv g z with y|y
   ·exact y.symm
   ·omega
  ·rw [hT];exact (if_neg zza).trans ((if_neg zza).trans ((if_neg (fun z=>by have:=(tn g zza).1;omega)).trans (if_neg z)))
 refine ⟨T',⟨fun g q=>?_,?_,tV,fun i q=>?_⟩,tO⟩
 ·rcases Nat.lt_or_ge g w.heap.size with z|z
  ·omega
  ·rw [hT] at q;by_cases e1:g=b.P
   ·rw [e1];exact blk.lt
   ·by_cases e2:g=b.B
    ·obtain ⟨s1,c1,_⟩:=pg;rw [e2];exact c1.lt
    ·by_cases e3:1<=tg g/\tg g<=11
     ·exact (tn g zza).2.1
     ·by_cases e4:v'.ownBlock=some g
      ·exact (hown.lt g e4).2
      ·have q:(if g=b.P then _ else if g=b.B then _ else if 1<=tg g/\tg g<=11 then _ else if v'.ownBlock=some g then 1 else T g)≠0:=q;rw [if_neg e1,if_neg e2,if_neg e3,if_neg e4] at q;exact Nat.lt_of_lt_of_le (h.tl g q) hs
 ·rw [List.length_append,List.map_append];exact hown
 ·by_cases q2:i<ss.length
  ·rw [List.getElem_append_left q2];exact (h.st i q2).kept hs (fun g a1 a2=>hk g a1 zza zza) (fun g a1 _=>tO g a1)
  ·have e:i=ss.length:=by simp at q;omega
   subst e;rw [List.getElem_append_right (Nat.le_refl _)];simp only [Nat.sub_self,List.getElem_cons_zero];refine ⟨pg,ds.norm (fun g a1 a2=>?_),hi,hr,blk,tB,tP,by omega,by omega⟩;unfold je;rw [tD g a1 a2,if_pos ⟨by omega,by omega⟩];omega
end
structure CmI (w:World) (base:Nat) (T:Nat->Nat) (i:Nat) (m:Mc):Prop where
 p:Pair w base m.B m.R m.M m.s m.t m.vh
 tB:T m.B=32*i+34
 tR:T m.R=32*i+35
 tM:T m.M=32*i+36
 tH:∀g,m.vh.ownBlock=some g->T g=32*i+37
structure Cms (w0:World) (vm:Value) (T:Nat->Nat) (ms:List Mc) (w:World):Prop where
 own:w.ownsRow w0.heap.size 134 2 vm ms.length (mcs ms)
 tV:∀g,vm.ownBlock=some g->T g=3
 st:∀i,(h:i<ms.length)->CmI w w0.heap.size T i ms[i]
section
variable {w0 w w':World} {vm v':Value} {T T':Nat->Nat} {ms:List Mc} {base i k:Nat} {m:Mc}
theorem CmI.kept(h:CmI w base T i m)(hk:∀g,g<w.heap.size->T g/32=i+1->T g%32<16->w'.heap[g]?=w.heap[g]?/\T' g=T g):CmI w' base T' i m:=by
 have kB:=hk _ h.p.x.lt (by rw [h.tB];omega) (by rw [h.tB];omega);have kR:=hk _ h.p.y.lt (by rw [h.tR];omega) (by rw [h.tR];omega);have kM:=hk _ h.p.y.ltM (by rw [h.tM];omega) (by rw [h.tM];omega);have kH:=fun g e=>hk g (h.p.o.o.lt g e).2 (by rw [h.tH g e];omega) (by rw [h.tH g e];omega)
 exact ⟨h.p.same kB.1 kR.1 kM.1 (fun g e=>(kH g e).1),kB.2.trans h.tB,kR.2.trans h.tR,kM.2.trans h.tM,fun g e=>(kH g e).2.trans (h.tH g e)⟩
theorem Cms.kept(h:Cms w0 vm T ms w)(hk:∀g,g<w.heap.size->1<T g->T g%32<16->w'.heap[g]?=w.heap[g]?/\T' g=T g):Cms w0 vm T' ms w':=by
 have kV:=fun g e=>hk g (h.own.lt g e).2 (by rw [h.tV g e];decide) (by rw [h.tV g e];decide)
 exact ⟨zG h.own (fun g e=>(kV g e).1),fun g e=>(kV g e).2.trans (h.tV g e),fun i q=>(h.st i q).kept (fun g a e z=>hk g a zza z)⟩
theorem Cms.ran(h:Cms w0 vm T ms w)(hk:k<ms.length){s':PC}{t':RS}{vh':Value}(p:Pair w' w0.heap.size ms[k].B ms[k].R ms[k].M s' t' vh')(f:Four ms[k].B ms[k].R ms[k].M ms[k].vh.ownBlock w w')(ho:∀g,vh'.ownBlock=some g->ms[k].vh.ownBlock=some g\/w.heap.size<=g):∃T',Cms w0 vm T' (ms.set k ⟨ms[k].B,ms[k].R,ms[k].M,s',t',vh'⟩) w'/\(∀g,g<w.heap.size->T' g=T g)/\(∀g,T' g≠0->g<w'.heap.size)/\∀g,g<w.heap.size->T g/32≠k+1\/16<=T g%32->w'.heap[g]?=w.heap[g]?:=by
 have c:=h.st k hk;obtain ⟨T',e⟩:∃T':Nat->Nat,T'=fun g=>if g<w.heap.size then T g else if vh'.ownBlock=some g then 32*k+37 else 0:=⟨_,rfl⟩
 have t1:∀g,g<w.heap.size->T' g=T g:=fun g q=>by rw [e];exact if_pos q
 have kb:∀g,g<w.heap.size->T g/32≠k+1\/16<=T g%32->w'.heap[g]?=w.heap[g]?:=fun g q z=>f.block g q (fun y=>by rw [y,c.tB] at z;omega) (fun y=>by rw [y,c.tR] at z;omega) (fun y=>by rw [y,c.tM] at z;omega) (fun y=>by rw [c.tH g y.symm] at z;omega)
 have hm:mcs (ms.set k ⟨ms[k].B,ms[k].R,ms[k].M,s',t',vh'⟩)=mcs ms:=zgI ms k hk _ rfl rfl;refine ⟨T',⟨?_,fun g q=>(t1 g (h.own.lt g q).2).trans (h.tV g q),fun i q=>?_⟩,t1,fun g q=>?_,kb⟩
 ·rw [hm,List.length_set];exact zG h.own (fun g q=>kb g (h.own.lt g q).2 (.inl (by rw [h.tV g q];omega)))
 ·have q':i<ms.length:=by simpa using q
  by_cases z:i=k
  ·subst z;simp only [List.getElem_set_self];refine ⟨p,(t1 _ c.p.x.lt).trans c.tB,(t1 _ c.p.y.lt).trans c.tR,(t1 _ c.p.y.ltM).trans c.tM,fun g y=>?_⟩;rcases Nat.lt_or_ge g w.heap.size with x|x
   ·rcases ho g y with y'|y'
    ·exact (t1 g x).trans (c.tH g y')
    ·omega
   ·rw [e];exact (if_neg zza).trans (if_pos y)
  ·rw [List.getElem_set_ne (fun y=>z y.symm)];exact (h.st i q').kept (fun g a y _=>⟨kb g a (.inl zza),t1 g a⟩)
 ·rcases Nat.lt_or_ge g w.heap.size with x|x
  ·exact Nat.lt_of_lt_of_le x f.size
  ·by_cases y:vh'.ownBlock=some g
   ·exact (p.o.o.lt g y).2
   ·rw [e] at q;exact absurd ((if_neg zza).trans (if_neg y)) q
theorem Cms.push(h:Cms w0 vm T ms w)(hs:w.heap.size<=w'.heap.size)(hk:∀g,g<w.heap.size->T g≠0->T g≠3->w'.heap[g]?=w.heap[g]?)
  (hown:w'.ownsRow w0.heap.size 134 2 v' (ms.length+1) (mcs ms++ [vy m.B,vy m.R])) (hv:∀g,v'.ownBlock=some g->T g=3\/w.heap.size<=g)
  (p:Pair w' w0.heap.size m.B m.R m.M m.s m.t m.vh) (hvh:m.vh.ownBlock=none) (nB:w.heap.size<=m.B) (nR:w.heap.size<=m.R) (nM:w.heap.size<=m.M) (nv:v'.ownBlock≠some m.B/\v'.ownBlock≠some m.R/\v'.ownBlock≠some m.M) (hT:∀g,T g≠0->g<w.heap.size):
  ∃T',Cms w0 v' T' (ms++ [m]) w'/\(∀g,g<w.heap.size->T' g=T g)/\∀g,T' g≠0->g<w'.heap.size:=by
 obtain ⟨T',e⟩:∃T':Nat->Nat,T'=fun g=>if v'.ownBlock=some g then 3 else if g=m.B then 32*ms.length+34 else if g=m.R then 32*ms.length+35 else if g=m.M then 32*ms.length+36 else T g:=⟨_,rfl⟩
 have t1:∀g,g<w.heap.size->T' g=T g:=fun g q=>by
  by_cases z:v'.ownBlock=some g
  ·rw [e];refine (if_pos z).trans ?_;rcases hv g z with y|y
   ·exact y.symm
   ·omega
  ·rw [e];exact (if_neg z).trans ((if_neg zza).trans ((if_neg zza).trans (if_neg zza)))
 refine ⟨T',⟨?_,fun g q=>by rw [e];exact if_pos q,fun i q=>?_⟩,t1,fun g q=>?_⟩
 ·rw [zdX,List.length_append];exact hown
 ·by_cases z:i<ms.length
  ·rw [List.getElem_append_left z];exact (h.st i z).kept (fun g a y _=>⟨hk g a zza zza,t1 g a⟩)
  ·obtain rfl:i=ms.length:=by simp at q;omega
   rw [List.getElem_append_right (Nat.le_refl _)];simp only [Nat.sub_self,List.getElem_cons_zero];refine ⟨p,?_,?_,?_,fun g y=>by rw [hvh] at y;cases y⟩
   ·rw [e];exact (if_neg nv.1).trans (if_pos rfl)
   ·rw [e];exact (if_neg nv.2.1).trans ((if_neg (fun y=>p.nr y.symm)).trans (if_pos rfl))
   ·rw [e];exact (if_neg nv.2.2).trans ((if_neg (fun y=>p.nm y.symm)).trans ((if_neg (fun y=>p.y.ne y.symm)).trans (if_pos rfl)))
 ·by_cases e1:v'.ownBlock=some g
  ·exact (hown.lt g e1).2
  ·by_cases e2:g=m.B
   ·rw [e2];exact p.x.lt
   ·by_cases e3:g=m.R
    ·rw [e3];exact p.y.lt
    ·by_cases e4:g=m.M
     ·rw [e4];exact p.y.ltM
     ·rw [e] at q;exact Nat.lt_of_lt_of_le (hT g (fun z=>q ((if_neg e1).trans ((if_neg e2).trans ((if_neg e3).trans ((if_neg e4).trans z)))))) hs
end
structure AV where
 f:Fix
 s:Nat->Sc
 vb:Value
 vp:Value
 nb:Nat
 np:Nat
 T:Nat->Nat
 ms:List Mc
 ss:List Sb
structure IvA (w0:World) (A:AV) (N:Int) (w:World):Prop where
 i:Inv w0 A.f (fun g=>A.T g≠0) A.s A.s A.vb A.vp A.nb A.np w
 s:Sts w0 A.f.vs A.T A.ss N w
 c:Cms w0 A.f.vm A.T A.ms w
def SteppedA(w0:World)(A:AV)(N:Int)(w:World):Prop:=
 ∃A':AV,A'.f.W=A.f.W/\A'.nb<=A.nb+2/\A'.np<=A.np+1/\A'.ms.length<=A.ms.length+1/\A'.ss.length<=A.ss.length+1/\IvA w0 A' (N+1100000000000) w
section
variable {w0 w w':World} {A:AV} {N:Int}
theorem IvA.below(h:IvA w0 A N w)(hb:Bq w w'):IvA w0 A N w':=
 ⟨h.i.below hb,h.s.kept hb.size (fun g q=>hb.block g (h.s.tl g q)),h.c.kept (fun g a _ _=>⟨hb.block g a,rfl⟩)⟩
theorem IvA.stepped(h:IvA w0 A N w):SteppedA w0 A N w:=⟨A,rfl,by omega,by omega,by omega,by omega,h.i,h.s.mono zza,h.c⟩
theorem IvA.book(h:IvA w0 A N w)(hb:zom w0 A.f (fun g=>A.T g≠0) A.nb A.np w w'):SteppedA w0 A N w':=by
 obtain ⟨s,vb,vp,nb,np,h1,h2,h3,h4⟩:=hb;exact ⟨⟨A.f,s,vb,vp,nb,np,A.T,A.ms,A.ss⟩,rfl,h1,h2,Nat.le_add_right _ _,Nat.le_add_right _ _,h3,(h.s.kept h4.1 h4.2).mono zza,h.c.kept (fun g _ q _=>⟨h4.2 g (by show A.T g≠0;omega),rfl⟩)⟩
theorem IvA.ran{k:Nat}{s':PC}{t':RS}{vh':Value}(h:IvA w0 A N w)(hk:k<A.ms.length)(p:Pair w' w0.heap.size A.ms[k].B A.ms[k].R A.ms[k].M s' t' vh')(f:Four A.ms[k].B A.ms[k].R A.ms[k].M A.ms[k].vh.ownBlock w w')(ho:∀g,vh'.ownBlock=some g->A.ms[k].vh.ownBlock=some g\/w.heap.size<=g):SteppedA w0 A N w':=by
 obtain ⟨T',h1,h2,h3,h4⟩:=h.c.ran hk p f ho;refine ⟨⟨A.f,A.s,A.vb,A.vp,A.nb,A.np,T',A.ms.set k ⟨A.ms[k].B,A.ms[k].R,A.ms[k].M,s',t',vh'⟩,A.ss⟩,rfl,Nat.le_add_right _ _,Nat.le_add_right _ _,by simp,Nat.le_add_right _ _,h.i.kept f.os f.tape f.output f.size (fun g a q=>h4 g a (.inl ?_)) (fun g q=>?_),(h.s.past f.size (fun g a q=>h4 g a zza) h2 h3).mono zza,h1⟩
 ·have q:A.T g=0:=by simpa using q
  rw [q];omega
 ·rcases Nat.lt_or_ge g w.heap.size with z|z
  ·exact .inl (by rw [<-h2 g z];exact q)
  ·exact .inr z
theorem IvA.grow{w6 wa w7:World}{V v':Value}{tv g' i:Nat}(h:IvA w0 A N w)(hV:∀g,V.ownBlock=some g->A.T g=tv/\g<w.heap.size)(ht:tv≠0)(b6:Bq w w6)(a1:Bq w6 wa)(a4:wa.grownBy w7 V.ownBlock)(a5:V.ownBlock=some g'\/g'=wa.heap.size)(hv':v'.ownBlock=some g'):(∀g,g<w.heap.size->A.T g≠0->A.T g≠tv->(w7.setCell (Aq A.f.W i) v').heap[g]?=w.heap[g]?)/\(∀g,w.heap.size<=g->g<wa.heap.size->(w7.setCell (Aq A.f.W i) v').heap[g]?=wa.heap[g]?/\v'.ownBlock≠some g)/\(∀g,v'.ownBlock=some g->A.T g=tv\/w.heap.size<=g)/\(∀ {te size m xs},w7.ownsRow w0.heap.size te size v' m xs->(w7.setCell (Aq A.f.W i) v').ownsRow w0.heap.size te size v' m xs)/\w.heap.size<=(w7.setCell (Aq A.f.W i) v').heap.size/\∀T':Nat->Nat,(∀g,g<w.heap.size->T' g=A.T g)->Inv w0 A.f (fun g=>T' g≠0) A.s A.s A.vb A.vp A.nb A.np w7:=by
 have s6:=b6.size;have sa:=a1.size;have s7:=a4.size;have lW:=h.i.wlt;have tW:A.T A.f.W=0:=Decidable.byContradiction fun z=>(h.i.xm A.f.W z).1 (.inl rfl)
 have kz:∀g,g≠A.f.W->(w7.setCell (Aq A.f.W i) v').heap[g]?=w7.heap[g]?:=fun g q=>Below.heap_setCell _ _ _ _ q
 have k0:∀g,g<w.heap.size->A.T g≠tv->w7.heap[g]?=w.heap[g]?:=fun g h1 h2=>(a4.block g zza (fun e=>h2 (hV g e.symm).1)).trans ((a1.block g zza).trans (b6.block g h1))
 have gT:∀g,v'.ownBlock=some g->A.T g=tv\/wa.heap.size<=g:=fun g e=>by
  rw [hv'] at e;injection e with e;rw [<-e];exact a5.imp (fun z=>(hV g' z).1) zza
 refine ⟨fun g h1 h2 h3=>(kz g (fun e=>h2 (by rw [e];exact tW))).trans (k0 g h1 h3),fun g h1 h2=>⟨(kz g zza).trans (a4.block g h2 (fun e=>by have:=(hV g e.symm).2;omega)),fun e=>?_⟩,fun g e=>(gT g e).imp id zza,fun o=>zG o (fun g e=>kz g (fun z=>by have:=gT g e;rw [z,tW] at this;omega)),by simp;omega,fun T' hT=>h.i.kept (a4.os.trans (a1.os.trans b6.os)) (a4.tape.trans (a1.tape.trans b6.tape)) (a4.output.trans (a1.output.trans b6.output)) zza (fun g h1 h2=>k0 g h1 zza) (fun g q=>?_)⟩
 ·rw [hv'] at e;injection e with e;rcases a5 with z|z
  ·have:=(hV g' z).2;omega
  ·omega
 ·rcases Nat.lt_or_ge g w.heap.size with z|z
  ·exact .inl (by rw [<-hT g z];exact q)
  ·exact .inr z
theorem IvA.pushM{w6 wa w7:World}{V:Value}{g' cap':Nat}{m:Mc}(h:IvA w0 A N w)(hV:A.f.vm=V)(b6:Bq w w6)(p:Pair w6 w0.heap.size m.B m.R m.M m.s m.t m.vh)(hvh:m.vh.ownBlock=none)(nB:w.heap.size<=m.B)(nR:w.heap.size<=m.R)(nM:w.heap.size<=m.M)(a1:Bq w6 wa)(a4:wa.grownBy w7 V.ownBlock)(a5:V.ownBlock=some g'\/g'=wa.heap.size)(a6:w7.ownsRow w0.heap.size 134 2 (Sq g' (A.ms.length+1) cap') (A.ms.length+1) (mcs A.ms++ [vy m.B,vy m.R])):SteppedA w0 A N (w7.setCell (Aq A.f.W 0) (Sq g' (A.ms.length+1) cap')):=by
 subst hV;obtain ⟨k1,k2,k3,k4,k5,k6⟩:=h.grow (i:=0) (tv:=3) (v':=Sq g' (A.ms.length+1) cap') (fun g e=>⟨h.c.tV g e,(h.c.own.lt g e).2⟩) zzb b6 a1 a4 a5 rfl;have sa:=a1.size;have lB:=p.x.lt;have lR:=p.y.lt;have lM:=p.y.ltM;have kk:=fun g h1 (h2:g<w6.heap.size)=>(k2 g h1 zza).1.trans (a1.block g h2)
 obtain ⟨T',c1,c2,c3⟩:=h.c.push k5 k1 (k4 a6) k3 (p.same (kk _ nB lB) (kk _ nR lR) (kk _ nM lM) (fun g e=>by rw [hvh] at e;cases e)) hvh nB nR nM ⟨(k2 _ nB zza).2,(k2 _ nR zza).2,(k2 _ nM zza).2⟩ h.s.tl;exact ⟨⟨{A.f with vm:=Sq g' (A.ms.length+1) cap'},A.s,A.vb,A.vp,A.nb,A.np,T',A.ms++ [m],A.ss⟩,rfl,Nat.le_add_right _ _,Nat.le_add_right _ _,by simp,Nat.le_add_right _ _,(k6 T' c2).setM _,(h.s.past k5 (fun g q z=>k1 g q zza zza) c2 c3).mono zza,c1⟩
theorem IvA.pushS{w6 wa w7:World}{V:Value}{g' cap':Nat}{b:Sb}{tg:Nat->Nat}(h:IvA w0 A N w)(hV:A.f.vs=V)(b6:Bq w w6)(pg:∃s,CAt w6 b.B s/\SV b.S s/\SI b.S N)(ds:DS w6 w0.heap.size tg b.f b.S)(hi:vO b.S)(hr:b.S.rp.length<=80)(tn:∀g,tg g≠0->w.heap.size<=g/\g<w6.heap.size/\g≠b.B/\g≠b.P)(nB:w.heap.size<=b.B)(nP:w6.heap.size<=b.P)
  (a1:Bq w6 wa) (blk:Blk wa b.P #[vy b.B,vy b.f.Q,Iq b.sent] 166) (a4:wa.grownBy w7 V.ownBlock) (a5:V.ownBlock=some g'\/g'=wa.heap.size) (a6:w7.ownsRow w0.heap.size 136 1 (Sq g' (A.ss.length+1) cap') (A.ss.length+1) ((A.ss.map fun b=>vy b.P)++ [vy b.P])):
  SteppedA w0 A N (w7.setCell (Aq A.f.W 1) (Sq g' (A.ss.length+1) cap')):=by
 subst hV;obtain ⟨k1,k2,k3,k4,k5,k6⟩:=h.grow (i:=1) (tv:=1) (v':=Sq g' (A.ss.length+1) cap') (fun g e=>⟨h.s.tV g e,(h.s.own.lt g e).2⟩) zzb b6 a1 a4 a5 rfl;have s6:=b6.size;have sa:=a1.size;have lP:=blk.lt;obtain ⟨s,c,v,i⟩:=pg;have lB:=c.lt;have kk:=fun g h1 (h2:g<w6.heap.size)=>(k2 g h1 zza).1.trans (a1.block g h2)
 have sz:w6.heap.size<=(w7.setCell (Aq A.f.W 1) (Sq g' (A.ss.length+1) cap')).heap.size:=by have:=a4.size;simp;omega
 obtain ⟨T',c1,c2⟩:=h.s.push (b:=b) (tg:=tg) k5 k1 (k4 a6) k3 ⟨s,c.same (kk _ nB lB),v,i⟩ (ds.kept sz (fun g q z=>kk g (tn g z).1 q) (fun _ _=>rfl)) hi hr (blk.same (k2 _ zza lP).1) (fun g z=>⟨(tn g z).1,by have:=(tn g z).2.1;omega,(tn g z).2.2.1,(tn g z).2.2.2,(k2 g (tn g z).1 (by have:=(tn g z).2.1;omega)).2⟩) nB zza zza ⟨(k2 _ nB zza).2,(k2 _ zza lP).2⟩ h.i.bel.size;exact ⟨⟨{A.f with vs:=Sq g' (A.ss.length+1) cap'},A.s,A.vb,A.vp,A.nb,A.np,T',A.ms,A.ss++ [b]⟩,rfl,Nat.le_add_right _ _,Nat.le_add_right _ _,Nat.le_add_right _ _,by simp,(k6 T' c2).setS _,c1.mono zza,h.c.kept (fun g q z _=>⟨k1 g q zza zza,c2 g q⟩)⟩
end
theorem zf7:(prog.info? 136).map (fun i=>(i.zero,i.size,i.bytes))=some (some (.pointer none),1,8):=by kernel_rfl
theorem zki:prog.underlying 74=some (.slice 136):=by kernel_rfl
theorem zdd(a:Nat):∀u∈[vy a],u.oneCell'=true:=by
 exact zl5
theorem zde(w:World)(v:Value)(t:TypeId)(n:Nat)(hn:n=w.heap.size):∀j u,[v][j]?=some u->(w.alloc (.cells #[v] t)).cell? (((Aq n 0):Addr).add j)=some u:=by
 subst hn;exact World.news_of_block (w:=w.alloc (.cells #[v] t)) (cs:=#[v]) (t:=t) (fr:=(0,0)) (heap_alloc_new w _)
theorem zdf(rom:Int)(cs:List Chn){N:Int}(hN:0<=N):SI (SB.fresh rom cs) N:=⟨⟨0,.idle rfl rfl zzb⟩,Int.le_refl _,hN,fun i=>by show (0:Int)<=0/\(0:Int)<65536/\(0:Int)<=0/\(0:Int)<256;omega⟩
def NwP(k rom:Int)(cs:List Chn)(w:World)(e:Ending)(w':World):Prop:=
 Bq w w'/\∃x n,e=.returned (.tuple #[.pointer x,Iq n])/\((yt rom cs=false/\x=none/\n=1)\/(yt rom cs=true/\n=0/\∃B R,x=some (Aq B 0)/\w.heap.size<=B/\CAt w' B (.fresh rom cs R)/\(k=7->zeS R)))
def NwD(k rom:Int)(cs:List Chn)(base:Nat)(w:World)(e:Ending)(w':World):Prop:=
 Bq w w'/\∃x n,e=.returned (.tuple #[.pointer x,Iq n])/\((yt rom cs=false/\x=none/\n=1)\/(yt rom cs=true/\n=0/\∃Q,x=some (Aq Q 0)/\(k=1->∃M,w.heap.size<=Q/\w.heap.size<=M/\MAt w' Q M (MV M (Nq) (RS.fresh rom cs)) (RS.fresh rom cs).mem)/\(k=7->NwS w base rom cs Q w')))
section
variable (N:Nat) (v:Value) (cs:List Chn) (rom:Int) (w:World)
theorem zqe(hN:N<=w.heap.size)(hc:CfAt N w v cs)(hl:cs.length<=140737488355328)(hb:∀c∈cs,c.bs.length<=140737488355328):Calls prog 22 #[.agg #[v,Iq rom]] w (NwP 1 rom cs w):=by
 cases hv:yt rom cs
 ·exact (zqc N v cs rom w hc hv hl hb).mono fun _ _ q=>⟨q.2,_,_,q.1,.inl ⟨hv,rfl,rfl⟩⟩
 ·refine (zqg N v cs rom w hN hc hv hl hb).mono fun _ _ q=>?_
  obtain ⟨B,R,q1,q2,q3,q4⟩:=q;exact ⟨q4,_,_,q2,.inr ⟨hv,rfl,B,R,rfl,q1,q3,fun z=>absurd z zzb⟩⟩
theorem zpx(hN:N<=w.heap.size)(hc:CfAt N w v cs)(hl:cs.length<=140737488355328)(hb:∀c∈cs,c.bs.length<=140737488355328):Calls prog 26 #[.agg #[v,Iq rom]] w (NwP 7 rom cs w):=by
 cases hv:yt rom cs
 ·exact (Hw N v cs rom w hc hv hl hb).mono fun _ _ q=>⟨q.2,_,_,q.1,.inl ⟨hv,rfl,rfl⟩⟩
 ·refine (Gb N v cs rom w hN hc hv hl hb).mono fun _ _ q=>?_
  obtain ⟨B,R,q1,q2,q3,q4,q5⟩:=q;exact ⟨q5,_,_,q2,.inr ⟨hv,rfl,B,R,rfl,q1,q3,fun _=>q4⟩⟩
variable (base:Nat)
theorem zqf(hN:N<=w.heap.size)(hc:CfAt N w v cs)(hl:cs.length<=100000000)(hb:yq cs<=100000000):Calls prog 61 #[.agg #[v,Iq rom]] w (NwD 1 rom cs base w):=by
 cases hv:yt rom cs
 ·exact (zgq N v cs rom w hc hl hb hv).mono fun _ _ q=>⟨q.2,_,_,q.1,.inl ⟨hv,rfl,rfl⟩⟩
 ·refine (zgr N v cs rom w hN hc hl hb hv).mono fun _ _ q=>?_
  obtain ⟨B,M,q1,q2,q3,q4,q5⟩:=q;exact ⟨q5,_,_,q3,.inr ⟨hv,rfl,B,rfl,fun _=>⟨M,q1,q2,q4⟩,fun z=>absurd z zzb⟩⟩
theorem zpy(hN:N<=w.heap.size)(hc:CfAt N w v cs)(hl:cs.length<=100000000)(hb:yq cs<=100000000)(hbs:base<=w.heap.size):Calls prog 62 #[.agg #[v,Iq rom]] w (NwD 7 rom cs base w):=by
 cases hv:yt rom cs
 ·exact (U2 N v cs rom w hc hl hb hv).mono fun _ _ q=>⟨q.2,_,_,q.1,.inl ⟨hv,rfl,rfl⟩⟩
 ·refine (U3 N v cs rom w base hbs hN hc hl hb hv).mono fun _ _ q=>?_
  obtain ⟨Q,q1,q2⟩:=q;exact ⟨q2.bel,_,_,q1,.inr ⟨hv,rfl,Q,rfl,fun z=>absurd z zzb,fun _=>q2⟩⟩
end
theorem zpS{p:Prop} (q:p:=by
 have HE:=hid hI6.stepped;clear hI6 hb06 H5 HH hb6 hv;go_wp2;go_ret;exact ⟨rfl,HE.out⟩):p:=q
theorem zpp(w0:World)(A:AV)(N:Int)(w:World)(h:IvA w0 A N w)(hms:A.ms.length<=9000000)(hss:A.ss.length<=9000000)(hN0:0<=N)(k a b:Int)(hk:k=1\/k=7)(S:BA)(n q:Bool)(v:Value)(rom:Int)(cs:List Chn)(hc:CfAt w0.heap.size w v cs)(hl:cs.length<=2000000)(hbs:∀c∈cs,c.bs.length<=2000000)(htot:yq cs<=100000000):Cq 41 #[Pq A.f.W,.agg #[Iq k,Iq a,Iq b,Zq S,Tq n,Tq q,v,Iq rom]] w (Tq true) fun w'=>SteppedA w0 A N w':=by
 have HH:=qH4 h hc hbs htot;have lo0:=h.i.bel.size;have hW:=h.i.wlt;obtain ⟨p,cap,rfl, -⟩:=hc;have hb1:Bq w (w.alloc (.cells #[Iq k,Iq a,Iq b,Zq S,Tq n,Tq q,.slice p cs.length cap,Iq rom] 29)):=qBa;have hO1:Blk (w.alloc (.cells #[Iq k,Iq a,Iq b,Zq S,Tq n,Tq q,.slice p cs.length cap,Iq rom] 29)) w.heap.size #[Iq k,Iq a,Iq b,Zq S,Tq n,Tq q,.slice p cs.length cap,Iq rom] 29:=Blk.new _ _ _;have hs1:(w.alloc (.cells #[Iq k,Iq a,Iq b,Zq S,Tq n,Tq q,.slice p cs.length cap,Iq rom] 29)).heap.size=w.heap.size+1:=World.size_alloc _ _;clear h hbs htot;go_enter func41,ntmps41;go_wp2_with fail;generalize w.alloc (.cells #[Iq k,Iq a,Iq b,Zq S,Tq n,Tq q,.slice p cs.length cap,Iq rom] 29)=w1 at*;have HO1:=qH2 hO1 hb1;clear hO1;refine (zj1 w1 w0.heap.size (.slice p cs.length cap) cs rom (HH.out.2.1.below hb1) zza hl HH.out.2.2.1).mono ?_;rintro e w2 ⟨G,V,vs,tagL,rfl,hLn,hsp,hb2,htl⟩;obtain ⟨aV,cV,rfl⟩:=vD hLn.own;have hO2:=HO1.out.1.below hb2;have o0:=hO2.cq 0;have ol:=hO2.lt;have HL2:=qH4 hLn hsp hb2 htl;have HC:=hid (show ∀w3,Bq w2 w3->CfAt w2.heap.size w3 (Sq G cs.length (cs.length+8)) (xq cs vs) from fun w3 z=>(zdY HL2.out.1).below z);have hcl:(xq cs vs).length<=140737488355328:=by rw [xX cs vs hLn.len];omega
 have hcb:∀c∈xq cs vs,c.bs.length<=140737488355328:=fun c hc=>by
  obtain ⟨i,hi,e⟩:=List.mem_iff_getElem.1 hc;have h2:i<cs.length:=by rw [xX cs vs hLn.len] at hi;exact hi
  rw [<-e,(qw cs vs hLn.len i hi h2).2.1];have:=HH.out.2.2.1 _ (List.getElem_mem h2);omega
 have NE:=hid (show ∀x w3 e w4,NwP x rom (xq cs vs) w3 e w4->NwP x rom cs w3 e w4 from fun x w3 e w4 z=>by simpa only [NwP,Yp hLn.len,Un hLn.len] using z);clear hLn hsp hb2 htl;have NW:Hid (∀w3,Bq w2 w3->Calls prog (if k=1 then 22 else 26) #[.agg #[(Sq G cs.length (cs.length+8)),Iq rom]] w3 (NwP k rom cs w3)):=fun w3 z=>by
  rcases hk with rfl|rfl
  ·exact (zqe w2.heap.size _ _ rom w3 z.size (HC.out w3 z) hcl hcb).mono fun _ _=>NE.out _ _ _ _
  ·exact (zpx w2.heap.size _ _ rom w3 z.size (HC.out w3 z) hcl hcb).mono fun _ _=>NE.out _ _ _ _
 have ND:Hid (∀w5,Bq w w5->Calls prog (if k=1 then 61 else 62) #[.agg #[.slice p cs.length cap,Iq rom]] w5 (NwD k rom cs w0.heap.size w5)):=fun w5 z=>by
  have:=z.size;rcases hk with rfl|rfl
  ·exact zqf w0.heap.size _ _ rom w5 w0.heap.size zza (HH.out.2.1.below z) zza HH.out.2.2.2
  ·exact zpy w0.heap.size _ _ rom w5 w0.heap.size zza (HH.out.2.1.below z) zza HH.out.2.2.2 zza
 clear hcl hcb NE HC;rcases hk with hk|hk;case' inl=>rw [if_pos hk] at NW ND;go_upto_region 3 with fail
 case' inr=>rw [if_neg zza] at NW ND;go_upto_region 11 with fail
 all_goals
  have hb3:Bq w2 ((w2.alloc (.cells #[(Sq G cs.length (cs.length+8)),Iq rom] 26)).alloc (.cells #[(Sq G (cs.length+8) (cs.length+8)),.slice aV cs.length cV] 156)):=qBa.alloc zzc _;have hC3:Blk ((w2.alloc (.cells #[(Sq G cs.length (cs.length+8)),Iq rom] 26)).alloc (.cells #[(Sq G (cs.length+8) (cs.length+8)),.slice aV cs.length cV] 156)) w2.heap.size #[(Sq G cs.length (cs.length+8)),Iq rom] 26:=(Blk.new _ _ _).alloc _;have hL3:Blk ((w2.alloc (.cells #[(Sq G cs.length (cs.length+8)),Iq rom] 26)).alloc (.cells #[(Sq G (cs.length+8) (cs.length+8)),.slice aV cs.length cV] 156)) (w2.heap.size+1) #[(Sq G (cs.length+8) (cs.length+8)),.slice aV cs.length cV] 156:=Blk.new' _ _ _ _ zzc;have hO3:=hO2.below hb3;generalize ((w2.alloc (.cells #[(Sq G cs.length (cs.length+8)),Iq rom] 26)).alloc (.cells #[(Sq G (cs.length+8) (cs.length+8)),.slice aV cs.length cV] 156))=w3 at*;have HB3:=qH3 hb3 hL3 hO3;have c0:=hC3.cq 0;have c1:=hC3.cq 1;have cl:=hC3.lt;clear hb3 hC3 hL3 hO3 hO2 o0 ol hb1;go_wp2_with fail;refine (NW.out w3 HB3.out.1).mono ?_;rintro e w4 ⟨hb4,x,er,rfl,hQ⟩;have hO4:=HB3.out.2.2.below hb4;have hL4:=HB3.out.2.1.below hb4;have s43:=hb4.size;have s32:=HB3.out.1.size;have hs2:=HL2.out.2.2.1.size;obtain ⟨tagB,htB⟩:∃tagB:Nat->Nat,tagB=fun g=>if g<w2.heap.size then tagL g else 0:=⟨_,rfl⟩
  have tB1:∀g,g<w2.heap.size->tagB g=tagL g:=fun g hg=>by rw [htB];exact if_pos hg
  have tB2:∀g,w2.heap.size<=g->tagB g=0:=fun g hg=>by rw [htB];exact if_neg zza
  have tB0:∀g,g<w1.heap.size->tagB g=0:=fun g hg=>(tB1 g zza).trans (HL2.out.2.2.2 g hg)
  have hb24:Bq w2 w4:=HB3.out.1.trans (hb4.mono s32);have hb04:Bq w w4:=HO1.out.2.trans ((HL2.out.2.2.1.mono zza).trans (hb24.mono zza))
  have BK:=zjZ w4 w0.heap.size w1.heap.size (.slice p cs.length cap) cs rom tagB vs G (.slice aV cs.length cV) (HL2.out.1.kept (fun g hg _=>hb24.block g hg) tB1)
   (fun j hj=>by
    have hG:=hb24.block G HL2.out.1.row.lt;exact ⟨(World.cell?_of_block (a:=⟨G,(cs.length+j)*2,none⟩) hG).trans (HL2.out.2.1 j hj).1,(World.cell?_of_block (a:=⟨G,(cs.length+j)*2+1,none⟩) hG).trans (HL2.out.2.1 j hj).2⟩)
   tB0 (fun g hg=>tB2 g zza) (HH.out.2.1.below hb04) zza hl HH.out.2.2.1
  have l0:=hL4.cq 0;have l1:=hL4.cq 1;have o6:=hO4.cq 6;have o7:=hO4.cq 7;have ll:=hL4.lt;have ol:=hO4.lt;have HQ:=hid hQ;have H4:=hid (show Bq w w4/\Blk w4 w.heap.size #[Iq k,Iq a,Iq b,Zq S,Tq n,Tq q,.slice p cs.length cap,Iq rom] 29/\(∀g,w2.heap.size<=g->tagB g=0)/\∀g,g<w.heap.size+1->tagB g=0 from ⟨hb04,hO4,tB2,fun g hg=>tB0 g zza⟩);clear c0 c1 cl NW hb4 htB tB1 tB2 tB0 hb24 hb04 hL4 hO4 HB3 hQ;go_wp2_with fail;refine BK.mono ?_;rintro e w5 ⟨rfl,q1,q2,q3,q4,q5⟩;have k5:∀g,g<w.heap.size+1->w5.heap[g]?=w4.heap[g]?:=fun g hg=>q5 g zza (H4.out.2.2.2 g hg)
  have hO5:=H4.out.2.1.same (k5 w.heap.size zza);have H5:=hid (show Bq w w5/\∀g,w3.heap.size<=g->g<w4.heap.size->w5.heap[g]?=w4.heap[g]? from ⟨⟨q1.trans H4.out.1.os,q2.trans H4.out.1.tape,q3.trans H4.out.1.output,by have:=H4.out.1.size;omega,fun g hg=>(k5 g zza).trans (H4.out.1.block g hg)⟩,fun g h1 h2=>q5 g h2 (H4.out.2.2.1 g zza)⟩);have p6:=hO5.cq 6;have p7:=hO5.cq 7;have pl:=hO5.lt;clear l0 l1 o6 o7 ll ol q1 q2 q3 q5 k5 hO5 BK H4 HO1;go_wp2_with fail;refine (ND.out w5 H5.out.1).mono ?_;rintro e w6 ⟨hb6,y,es,rfl,hR⟩;clear ND HL2 p6 p7 pl;have hb06:=H5.out.1.trans (hb6.mono H5.out.1.size);have hI6:=HH.out.1.below hb06;rcases HQ.out with ⟨hv,hx,he⟩|⟨hv,he,B,Rx,hx,hB,hC,hZ⟩
  all_goals
   clear HQ;subst hx he;rcases hR with ⟨z,hx,he⟩|⟨z,he,Q,hx,hR1,hR7⟩;all_goals try (rw [hv] at z;cases z)
   subst hx he
 ·exact zpS
 ·have lB:=hC.lt;have hC6:CAt w6 B (.fresh rom cs Rx):=(hC.same (H5.out.2 B hB lB)).same (hb6.block B zza);have hBw:w.heap.size<=B:=by omega
  have yl:=hI6.i.wlt;have lo6:w0.heap.size<=w6.heap.size:=hI6.i.bel.size;obtain ⟨aM,cM,hvs⟩:=vD HH.out.1.s.own;obtain ⟨i2,hj,hj0,hj1,hj2⟩:=info_parts zf7;have y0:w6.cell? (Aq A.f.W 1)=some (.slice aM A.ss.length cM):=by rw [<-hvs];exact cell_of_row w6 A.f.W 1 _ _ (0,0) hI6.i.blk
  have yf:w6.frozen? (Aq A.f.W 1)=false:=hI6.i.cell.2.2.2.2 1;have hrow:=hI6.s.own;rw [hvs] at hrow;have hNw:=hR7 hk;have HV:Hid (∀ (wa w7:World) (g' cap':Nat),Bq w6 wa->Blk wa w6.heap.size #[Pq B,Pq Q,Iq 0] 166->wa.grownBy w7 (Value.slice aM A.ss.length cM).ownBlock->((Value.slice aM A.ss.length cM).ownBlock=some g'\/g'=wa.heap.size)->w7.ownsRow w0.heap.size 136 1 (Sq g' (A.ss.length+1) cap') (A.ss.length+1) ((A.ss.map fun b=>vy b.P)++ [vy w6.heap.size])->SteppedA w0 A N (w7.setCell (Aq A.f.W 1) (Sq g' (A.ss.length+1) cap'))):=fun wa w7 g' cap' a1 a3 a4 a5 a6=>by
   obtain ⟨nb1,tg,fd,hQ,dd,tn⟩:=hNw;have s5:=H5.out.1.size;have s6:=nb1.size;rw [<-show fd.Q=Q from hQ] at a3;exact HH.out.1.pushS (b:=⟨w6.heap.size,B,fd,SB.fresh rom cs,0⟩) (tg:=tg) hvs hb06 ⟨_,hC6,Ga rom cs Rx (hZ hk),zdf rom cs hN0⟩ dd (fun _=>rfl) (by show ([]:List UInt8).length<=80;decide) (fun g h=>⟨by have:=(tn g h).1;omega,(tn g h).2,by have:=(tn g h).1;show g≠B;omega,by have:=(tn g h).2;show g≠w6.heap.size;omega⟩) hBw (Nat.le_refl _) a1 a3 a4 a5 a6
  have HVW:=hid (show ∀g,(Value.slice aM A.ss.length cM).ownBlock=some g->g≠A.f.W from fun g e z=>by
   have h1:=HH.out.1.s.tV g (by rw [hvs];exact e);exact (HH.out.1.i.xm g (by rw [h1];decide)).1 (by rw [z];exact .inl rfl))
  clear H5 HH hI6 hb06 hC6 hb6 hvs hR1 hR7 hZ hC hNw;go_wp2_with (first|(at_builtin;go_must (refine wpList_append_lies _ rfl (.tmp 104) (.tmp 109) 74 rfl w0.heap.size 136 i2 _ 1 8 zki hj hj0 hj1 hj2 rfl zzb (.slice aM A.ss.length cM) A.ss.length (A.ss.map fun b=>vy b.P) rfl ?_ ⟨w6.heap.size+1,0,none⟩ 1 1 [vy w6.heap.size] rfl rfl ?_ ?_ zzb ?_ ?_ ?_ _ rfl ?_;exact (hrow.alloc _).alloc _;exact zde _ _ _ _ zzc;exact zdd _;(unfold maxLen;omega);omega;(simp;omega);intro g' cap' w7 hown hgrow hat hlt7;have HE:=hid (HV.out _ w7 g' cap' (qBa.alloc zzc _) ((Blk.new _ _ _).alloc _) hgrow hat hown);have hw7:=(hgrow.block A.f.W zzd (fun e=>HVW.out _ e.symm rfl)).trans ((Below.heap_alloc _ _ _ zzd).trans (Below.heap_alloc _ _ _ yl));have z0:=(World.cell?_of_block (a:=(Aq A.f.W 1)) hw7).trans y0;have zf:=(World.frozen?_of_block (a:=(Aq A.f.W 1)) hw7).trans yf;have zl:A.f.W<w7.heap.size:=World.block_lt_of_cell? _ _ z0;clear hown hgrow hat hlt7 hw7)));go_ret;exact ⟨rfl,HE.out⟩
 ·exact zpS
 ·have lB:=hC.lt;have hC6:CAt w6 B (.fresh rom cs Rx):=(hC.same (H5.out.2 B hB lB)).same (hb6.block B zza);have hBw:w.heap.size<=B:=by omega
  have yl:=hI6.i.wlt;have lo6:w0.heap.size<=w6.heap.size:=hI6.i.bel.size;obtain ⟨M,hR,hM,hMA⟩:=hR1 hk;obtain ⟨aM,cM,hvm⟩:=vD HH.out.1.c.own;obtain ⟨i2,hj,hj0,hj1,hj2⟩:=info_parts zpu;have y0:w6.cell? (Aq A.f.W 0)=some (.slice aM A.ms.length cM):=by rw [<-hvm];exact cell_of_row w6 A.f.W 0 _ _ (0,0) hI6.i.blk
  have yf:w6.frozen? (Aq A.f.W 0)=false:=hI6.i.cell.2.2.2.2 0;have hrow:=hI6.c.own;rw [hvm] at hrow;have HV:Hid (∀ (wa w7:World) (g' cap':Nat),Bq w6 wa->wa.grownBy w7 (Value.slice aM A.ms.length cM).ownBlock->((Value.slice aM A.ms.length cM).ownBlock=some g'\/g'=wa.heap.size)->w7.ownsRow w0.heap.size 134 2 (Sq g' (A.ms.length+1) cap') (A.ms.length+1) (mcs A.ms++ [vy B,vy Q])->SteppedA w0 A N (w7.setCell (Aq A.f.W 0) (Sq g' (A.ms.length+1) cap'))):=fun wa w7 g' cap' a1 a4 a5 a6=>
   HH.out.1.pushM (m:=⟨B,Q,M,.fresh rom cs Rx,.fresh rom cs,Nq⟩) hvm hb06 ⟨hC6,hMA,HV.nil,U1,by show B≠Q;omega,by show B≠M;omega,fun g hg=>by cases hg⟩ rfl hBw (by show _<=Q;omega) (by show _<=M;omega) a1 a4 a5 a6
  have HVW:=hid (show ∀g,(Value.slice aM A.ms.length cM).ownBlock=some g->g≠A.f.W from fun g e z=>by
   have h1:=HH.out.1.c.tV g (by rw [hvm];exact e);exact (HH.out.1.i.xm g (by rw [h1];decide)).1 (by rw [z];exact .inl rfl))
  clear H5 HH hI6 hb06 hC6 hMA hb6 hvm hR1 hR7 hZ hC;go_wp2_with (first|(at_builtin;go_must (refine wpList_append_lies _ rfl (.tmp 61) (.tmp 65) 73 rfl w0.heap.size 134 i2 _ 2 16 zqk hj hj0 hj1 hj2 rfl zzb (.slice aM A.ms.length cM) A.ms.length (mcs A.ms) rfl ?_ (Aq w6.heap.size 0) 1 1 [vy B,vy Q] rfl rfl (zpK _ _ _ _) (zpv _ _) zzb ?_ ?_ ?_ _ rfl ?_;exact hrow.alloc _;(unfold maxLen;omega);omega;(simp;omega);intro g' cap' w7 hown hgrow hat hlt7;have HE:=hid (HV.out _ w7 g' cap' qBa hgrow hat hown);have hw7:=(hgrow.block A.f.W zzd (fun e=>HVW.out _ e.symm rfl)).trans (Below.heap_alloc _ _ _ yl);have z0:=(World.cell?_of_block (a:=(Aq A.f.W 0)) hw7).trans y0;have zf:=(World.frozen?_of_block (a:=(Aq A.f.W 0)) hw7).trans yf;have zl:A.f.W<w7.heap.size:=World.block_lt_of_cell? _ _ z0;clear hown hgrow hat hlt7 hw7)));go_ret;exact ⟨rfl,HE.out⟩
def zpn(w0:World)(W:Nat)(s:Nat->Sc)(vp:Value)(nb np n:Nat)(N:Int)(w':World):Prop:=
 ∃f T ss vb nb',f.W=W/\nb'<=nb+1/\ss.length<=n+1/\IvS w0 f s vb vp nb' np T ss (N+1100000000000) w'
section
variable (w0:World) (f:Fix) (s:Nat->Sc) (vb vp:Value) (nb np:Nat) (T:Nat->Nat) (ss:List Sb) (N:Int) (w:World) (h:IvS w0 f s vb vp nb np T ss N w) (hms:ss.length<=9000000) (hN0:0<=N) (hN:N<=1900000000000000000) (hnb:nb<=9000000)
theorem IvS.stepped(h:IvS w0 f s vb vp nb np T ss N w){n:Nat}(hn:ss.length<=n+1):zpn w0 f.W s vp nb np n N w:=⟨f,T,ss,vb,nb,rfl,by omega,hn,h.1,h.2.mono zza⟩
end
section
variable (w0:World) (A:AV) (N:Int) (w:World)
theorem zo9(h:IvA w0 A N w)(hms:A.ms.length<=9000000)(hss:A.ss.length<=9000000)(hN0:0<=N)(k a b:Int)(hk:k=1\/k=7)(S:BA)(n q:Bool)(v:Value)(rom:Int)(cs:List Chn)(hc:CfAt w0.heap.size w v cs)(hl:cs.length<=2000000)(hbs:∀c∈cs,c.bs.length<=2000000)(htot:yq cs<=100000000):Cq 31 #[Pq A.f.W,.agg #[Iq k,Iq a,Iq b,Zq S,Tq n,Tq q,v,Iq rom]] w (Tq true) fun w'=>SteppedA w0 A N w':=by
 have MD:Hid (∀o,Cq 41 #[Pq A.f.W,.agg #[Iq k,Iq a,Iq b,Zq S,Tq n,Tq q,v,Iq rom]] (w.alloc o) (Tq true) fun w'=>SteppedA w0 A N w'):=fun o=>by
  have hb:Bq w (w.alloc o):=qBa;exact zpp w0 A N _ (h.below hb) hms hss hN0 k a b hk S n q v rom cs (hc.below hb) hl hbs htot
 obtain ⟨p,cap,rfl, -⟩:=hc;clear h hms hss hbs htot;rcases hk with rfl|rfl
 all_goals
  go_enter func31,ntmps31;go_wp2_with fail;refine (MD.out _).mono ?_;rintro e w' ⟨rfl,hI⟩;have H2:=hid hI;clear hI MD;go_wp2;go_ret;exact ⟨by simp,H2.out⟩
theorem zov(h:IvA w0 A N w)(k a b:Int)(S:BA)(n q:Bool)(ca:Option Addr)(cl cc:Nat)(rom:Int)(hk:((k=2\/k=3\/k=4)/\A.ms.length=0)\/((k=8\/k=9)/\A.ss.length=0)):Cq 31 #[Pq A.f.W,.agg #[Iq k,Iq a,Iq b,Zq S,Tq n,Tq q,.slice ca cl cc,Iq rom]] w (Tq true) fun w'=>SteppedA w0 A N w':=by
 have yl:=h.i.wlt;have HI:=hid (show ∀o,SteppedA w0 A N (w.alloc o) from fun o=>(h.below qBa).stepped);obtain ⟨p,c,hv⟩:=vD h.c.own;obtain ⟨p2,c2,hv2⟩:=vD h.s.own;have x0:w.cell? (Aq A.f.W 0)=some A.f.vm:=cell_of_row w A.f.W 0 _ _ (0,0) h.i.blk;have x1:w.cell? (Aq A.f.W 1)=some A.f.vs:=cell_of_row w A.f.W 1 _ _ (0,0) h.i.blk;rw [hv] at x0;rw [hv2] at x1;clear h hv hv2;rcases hk with ⟨hk,h0⟩|⟨hk,h0⟩
 ·rw [h0] at x0;clear x1 h0;rcases hk with rfl|rfl|rfl
  all_goals
   go_enter func31,ntmps31;go_wp2;go_ret;exact ⟨rfl,HI.out _⟩
 ·rw [h0] at x1;clear x0 h0;rcases hk with rfl|rfl
  all_goals
   go_enter func31,ntmps31;go_wp2;go_ret;exact ⟨rfl,HI.out _⟩
theorem zpa(h:IvA w0 A N w)(hms:A.ms.length<=9000000)(k a b:Int)(S:BA)(n q:Bool)(ca:Option Addr)(cl cc:Nat)(rom:Int)(ha1: -9223372036854775808<=a)(ha2:a<=9223372036854775807)(hb1: -9223372036854775808<=b)(hb2:b<=9223372036854775807)(hk:k=2\/k=3\/k=4)(hpos:0<A.ms.length):Cq 31 #[Pq A.f.W,.agg #[Iq k,Iq a,Iq b,Zq S,Tq n,Tq q,.slice ca cl cc,Iq rom]] w (Tq true) fun w'=>SteppedA w0 A N w':=by
 have PD:=fun w=>zmZ a A.ms.length w zza zza ha1 ha2
 obtain ⟨k0,hk0⟩:∃k0:Nat,pkL a A.ms.length=(k0:Int):=⟨(pkL a A.ms.length).toNat,by have:=zey a A.ms.length zza;omega⟩
 have hkl:k0<A.ms.length:=by have:=zey a A.ms.length zza;omega
 rw [hk0] at PD;clear hk0;obtain ⟨gM,cM,hvm⟩:∃gM cM,A.f.vm=(Sq gM A.ms.length cM):=by
  rcases h.c.own.2 with ⟨_,e2⟩|⟨g,cap,_,e,_⟩
  ·omega
  ·exact ⟨g,cap,e⟩
 have h1:IvA w0 A N (w.alloc (.cells #[Iq k,Iq a,Iq b,Zq S,Tq n,Tq q,.slice ca cl cc,Iq rom] 29)):=h.below qBa;have hO:Blk (w.alloc (.cells #[Iq k,Iq a,Iq b,Zq S,Tq n,Tq q,.slice ca cl cc,Iq rom] 29)) w.heap.size #[Iq k,Iq a,Iq b,Zq S,Tq n,Tq q,.slice ca cl cc,Iq rom] 29:=Blk.new _ _ _;have nO:A.T w.heap.size<=3:=by
  have z:A.T w.heap.size=0:=Decidable.byContradiction fun z=>Nat.lt_irrefl _ (h.s.tl _ z)
  omega
 have nW:A.T A.f.W<=3:=by
  have z:A.T A.f.W=0:=Decidable.byContradiction fun z=>(h.i.xm A.f.W z).1 (.inl rfl)
  omega
 have nM:A.T gM<=3:=by rw [h.c.tV gM (by rw [hvm];rfl)];decide
 go_enter func31,ntmps31;go_upto_region 1 with fail;generalize (w.alloc (.cells #[Iq k,Iq a,Iq b,Zq S,Tq n,Tq q,.slice ca cl cc,Iq rom] 29))=W1 at*;have c:=h1.c.st k0 hkl;have hrow:=h1.c.own;rw [hvm] at hrow;have m0:W1.cell? ⟨gM,k0*2,none⟩=some (.pointer (some ⟨A.ms[k0].B,0,none⟩)):=(hrow.cellAt (k0*2) zza).trans (zo6 A.ms k0 hkl).1;have m1:W1.cell? ⟨gM,k0*2+1,none⟩=some (.pointer (some ⟨A.ms[k0].R,0,none⟩)):=(hrow.cellAt (k0*2+1) zza).trans (zo6 A.ms k0 hkl).2;have y0:W1.cell? (Aq A.f.W 0)=some (Sq gM A.ms.length cM):=by rw [<-hvm];exact cell_of_row W1 A.f.W 0 _ _ (0,0) h1.i.blk
 have RU:=zpq W1.drew w0.heap.size A.ms[k0].B A.ms[k0].R A.ms[k0].M A.ms[k0].s A.ms[k0].t A.ms[k0].vh (c.p.kept (Below.refl _ _).drew) h1.i.bel.size k a b S n q ca cl cc rom hb1 hb2 hk;unfold opW at RU;have HR:=hid (show ∀w5,Ran W1.drew w0.heap.size A.ms[k0].B A.ms[k0].R A.ms[k0].M A.ms[k0].vh w5->SteppedA w0 A N w5/\∀g i,g<W1.heap.size->A.T g<=3->w5.cell? (Aq g i)=W1.cell? (Aq g i) from fun w5 z=>by
  obtain ⟨s',t',vh',p,f,o⟩:=z;exact ⟨h1.ran hkl p ⟨f.os,f.tape,f.output,f.size,f.block⟩ o,fun g i x y=>World.cell?_of_block (a:=(Aq g i)) (f.block g x (fun e=>by rw [e,c.tB] at y;omega) (fun e=>by rw [e,c.tR] at y;omega) (fun e=>by rw [e,c.tM] at y;omega) (fun e=>by rw [c.tH g e.symm] at y;omega))⟩)
 have Wl:=h1.i.wlt;have gl:=(hrow.lt gM rfl).2;have ol:=hO.lt;have hposI:(0:Int)<(A.ms.length:Int):=by omega
 have hkI:(k0:Int)<(A.ms.length:Int):=by omega
 have o0:=hO.cq 0;have o1:=hO.cq 1;have o2:=hO.cq 2;have o3:=hO.cq 3;have o4:=hO.cq 4;have o5:=hO.cq 5;have o6:=hO.cq 6;have o7:=hO.cq 7;have k1:¬k=1:=by omega
 have k7:¬k=7:=by omega
 clear h h1 hO c hrow hvm;go_upto_region 9 with fail
 all_goals
  go_region_held3 (fun w'=>w'.cell? (Aq w.heap.size 0)=some (Iq k)/\w'.cell? (Aq w.heap.size 1)=some (Iq a)/\w'.cell? (Aq w.heap.size 2)=some (Iq b)/\w'.cell? (Aq w.heap.size 3)=some (Zq S)/\w'.cell? (Aq w.heap.size 4)=some (Tq n)/\w'.cell? (Aq w.heap.size 5)=some (Tq q)/\w'.cell? (Aq w.heap.size 6)=some (.slice ca cl cc)/\w'.cell? (Aq w.heap.size 7)=some (Iq rom)/\w'.cell? (Aq A.f.W 0)=some (Sq gM A.ms.length cM)/\w'.cell? ⟨gM,k0*2,none⟩=some (.pointer (some ⟨A.ms[k0].B,0,none⟩))/\w'.cell? ⟨gM,k0*2+1,none⟩=some (.pointer (some ⟨A.ms[k0].R,0,none⟩))) (go_keep) (first|(go_at_call 43;refine (PD _).mono ?_;rintro e w5 ⟨rfl,hw⟩;subst hw)|(go_at_call 42;refine RU.mono ?_;rintro e w5 ⟨rfl,hr⟩;obtain ⟨st,cA⟩:=HR.out w5 hr;have j0:=(cA w.heap.size 0 ol nO).trans o0;have j1:=(cA w.heap.size 1 ol nO).trans o1;have j2:=(cA w.heap.size 2 ol nO).trans o2;have j3:=(cA w.heap.size 3 ol nO).trans o3;have j4:=(cA w.heap.size 4 ol nO).trans o4;have j5:=(cA w.heap.size 5 ol nO).trans o5;have j6:=(cA w.heap.size 6 ol nO).trans o6;have j7:=(cA w.heap.size 7 ol nO).trans o7;have jW:=(cA A.f.W 0 Wl nW).trans y0;have jm0:=(cA gM (k0*2) gl nM).trans m0;have jm1:=(cA gM (k0*2+1) gl nM).trans m1;have HE:=hid st;clear cA hr st))
  all_goals
   clear PD RU HR;go_wp2;go_ret;exact ⟨rfl,HE.out⟩
theorem zoU(h:IvA w0 A N w)(hss:A.ss.length<=9000000)(hN:N<=1900000000000000000)(hnb:A.nb<=9000000)(kd a b:Int)(S:BA)(n q:Bool)(ca:Option Addr)(cl cc:Nat)(rom:Int)(ha1: -9223372036854775808<=a)(ha2:a<=9223372036854775807)(hk:kd=8\/kd=9)(hS:S.size<=1100000)(hpos:0<A.ss.length):Cq 31 #[Pq A.f.W,.agg #[Iq kd,Iq a,Iq b,Zq S,Tq n,Tq q,.slice ca cl cc,Iq rom]] w (Tq true) fun w'=>SteppedA w0 A N w':=by
 have PD:=fun w=>zmZ a A.ss.length w zza zza ha1 ha2
 obtain ⟨k0,hk0⟩:∃k0:Nat,pkL a A.ss.length=(k0:Int):=⟨(pkL a A.ss.length).toNat,by have:=zey a A.ss.length zza;omega⟩
 have hkl:k0<A.ss.length:=by have:=zey a A.ss.length zza;omega
 rw [hk0] at PD;clear hk0;obtain ⟨gS,cS,hvs⟩:∃g c,A.f.vs=Sq g A.ss.length c:=by
  rcases h.s.own.2 with ⟨_,e2⟩|⟨g,cap,_,e,_⟩
  ·omega
  ·exact ⟨g,cap,e⟩
 obtain ⟨T1,hT1⟩:∃T1:Nat->Nat,T1=fun g=>if g=w.heap.size then 2 else A.T g:=⟨_,rfl⟩
 have t2:T1 w.heap.size=2:=by rw [hT1];exact if_pos rfl
 have tO:∀g,g<w.heap.size->T1 g=A.T g:=fun g z=>by rw [hT1];exact if_neg zza
 have hb1:Bq w (w.alloc (.cells #[Iq kd,Iq a,Iq b,Zq S,Tq n,Tq q,.slice ca cl cc,Iq rom] 29)):=qBa;have hS1:Sts w0 A.f.vs T1 A.ss N (w.alloc (.cells #[Iq kd,Iq a,Iq b,Zq S,Tq n,Tq q,.slice ca cl cc,Iq rom] 29)):=by rw [hT1];exact h.s.with_ _
 have hO:Blk (w.alloc (.cells #[Iq kd,Iq a,Iq b,Zq S,Tq n,Tq q,.slice ca cl cc,Iq rom] 29)) w.heap.size #[Iq kd,Iq a,Iq b,Zq S,Tq n,Tq q,.slice ca cl cc,Iq rom] 29:=Blk.new _ _ _;go_enter func31,ntmps31;go_upto_region 1 with fail;generalize (w.alloc (.cells #[Iq kd,Iq a,Iq b,Zq S,Tq n,Tq q,.slice ca cl cc,Iq rom] 29))=W1 at*;have hI1:Inv w0 A.f (fun g=>T1 g≠0) A.s A.s A.vb A.vp A.nb A.np W1:=h.i.kept hb1.os hb1.tape hb1.output hb1.size (fun g a _=>hb1.block g a) (fun g z=>by
  rcases Nat.lt_or_ge g w.heap.size with y|y
  ·exact .inl (by rw [<-tO g y];exact z)
  ·exact .inr y)
 have hC1:Cms w0 A.f.vm T1 A.ms W1:=h.c.kept (fun g z _ _=>⟨hb1.block g z,tO g z⟩);have hd:Bq W1 W1.drew:=(Below.refl _ _).drew;have FD:=zaP w0 A.f A.s A.vb A.vp A.nb A.np W1.drew T1 A.ss N (hI1.below hd) (hS1.kept hd.size (fun g z=>hd.block g (hS1.tl g z))) hN hnb kd a b S n q ca cl cc rom hk hS k0 hkl;have y0:W1.cell? (Aq A.f.W 1)=some (Sq gS A.ss.length cS):=by rw [<-hvs];exact cell_of_row W1 A.f.W 1 _ _ (0,0) hI1.blk
 have m0:W1.cell? (Aq gS k0)=some (.pointer (some ⟨A.ss[k0].P,0,none⟩)):=by
  have:=hS1.own;rw [hvs] at this;exact (this.cellAt k0 zza).trans (by simp [hkl,vy])
 have o0:=hO.cq 0;have o1:=hO.cq 1;have o2:=hO.cq 2;have o3:=hO.cq 3;have o4:=hO.cq 4;have o5:=hO.cq 5;have o6:=hO.cq 6;have o7:=hO.cq 7;have HW:=hid (show ∀w',zi1 w0 A.f A.s A.vp A.nb A.np T1 A.ss N W1.drew w'->SteppedA w0 A N w'/\w'.heap[w.heap.size]?=W1.heap[w.heap.size]?/\w'.cell? (Aq A.f.W 1)=some (Sq gS A.ss.length cS)/\w'.cell? (Aq gS k0)=some (.pointer (some ⟨A.ss[k0].P,0,none⟩)) from fun w' z=>by
  obtain ⟨T',ss',vb',e1,e2,z1,z2⟩:=z;have e:=congrArg List.length e1;simp only [List.length_map] at e;refine ⟨⟨⟨A.f,A.s,vb',A.vp,A.nb+1,A.np,T',A.ms,ss'⟩,rfl,Nat.le_add_right (A.nb+1) 1,Nat.le_add_right _ _,Nat.le_add_right _ _,by show ss'.length<=_;omega,z1,z2,hC1.kept (fun g _ x y=>e2 g zza y)⟩,(e2 _ (by rw [t2];decide) (by rw [t2];decide)).1,by rw [<-hvs];exact cell_of_row w' A.f.W 1 _ _ (0,0) z1.blk,?_⟩;have:=z2.own;rw [hvs,e1,e] at this;exact (this.cellAt k0 zza).trans (by simp [hkl,vy]))
 have hWl:=hI1.wlt;have ol:=hO.lt;have gl:=World.block_lt_of_cell? _ _ m0;have hposI:(0:Int)<(A.ss.length:Int):=by omega
 have hkI:(k0:Int)<(A.ss.length:Int):=by omega
 have k1:¬kd=1/\¬kd=7/\¬kd=2/\¬kd=3/\¬kd=4/\¬kd=5/\¬kd=6:=by omega
 obtain ⟨k1,k7,k2,k3,k4,k5,k6⟩:=k1;clear h hS1 hI1 hO hb1 hd hvs hT1 t2 ha1 ha2 hC1 tO;go_upto_region 17 with fail
 all_goals
  go_region_held3 (fun w'=>w'.cell? (Aq w.heap.size 0)=some (Iq kd)/\w'.cell? (Aq w.heap.size 1)=some (Iq a)/\w'.cell? (Aq w.heap.size 2)=some (Iq b)/\w'.cell? (Aq w.heap.size 3)=some (Zq S)/\w'.cell? (Aq w.heap.size 4)=some (Tq n)/\w'.cell? (Aq w.heap.size 5)=some (Tq q)/\w'.cell? (Aq w.heap.size 6)=some (.slice ca cl cc)/\w'.cell? (Aq w.heap.size 7)=some (Iq rom)/\w'.cell? (Aq A.f.W 1)=some (Sq gS A.ss.length cS)/\w'.cell? (Aq gS k0)=some (.pointer (some ⟨A.ss[k0].P,0,none⟩))) (go_keep) (first|(go_at_call 43;refine (PD _).mono ?_;rintro e w5 ⟨rfl,hw⟩;subst hw)|(go_at_call 46;refine FD.mono ?_;rintro e w5 ⟨rfl,hf⟩;obtain ⟨st,hop,jw,jm⟩:=HW.out w5 hf;have j0:=(World.cell?_of_block (a:=(Aq w.heap.size 0)) hop).trans o0;have j1:=(World.cell?_of_block (a:=(Aq w.heap.size 1)) hop).trans o1;have j2:=(World.cell?_of_block (a:=(Aq w.heap.size 2)) hop).trans o2;have j3:=(World.cell?_of_block (a:=(Aq w.heap.size 3)) hop).trans o3;have j4:=(World.cell?_of_block (a:=(Aq w.heap.size 4)) hop).trans o4;have j5:=(World.cell?_of_block (a:=(Aq w.heap.size 5)) hop).trans o5;have j6:=(World.cell?_of_block (a:=(Aq w.heap.size 6)) hop).trans o6;have j7:=(World.cell?_of_block (a:=(Aq w.heap.size 7)) hop).trans o7;have HE:=hid st;clear st hop hf))
  all_goals
   clear PD FD HW;go_wp2;go_ret;exact ⟨by simp,HE.out⟩
end
structure OpQ (N:Nat) (w:World) (k a b:Int) (S:BA) (v:Value):Prop where
 k:1<=k/\k<=9
 a1: -9223372036854775808<=a
 a2:a<=9223372036854775807
 b1: -9223372036854775808<=b
 b2:b<=9223372036854775807
 s:S.size<=1100000
 c:∃cs,CfAt N w v cs/\cs.length<=2000000/\(∀c∈cs,c.bs.length<=2000000)/\yq cs<=100000000
theorem zoA(w0:World)(A:AV)(N:Int)(w:World)(h:IvA w0 A N w)(hms:A.ms.length<=9000000)(hss:A.ss.length<=9000000)(hnb:A.nb<=9000000)(hnp:A.np<=9000000)(hN0:0<=N)(hN:N<=1900000000000000000)(k a b:Int)(S:BA)(n q:Bool)(v:Value)(rom:Int)(o:OpQ w0.heap.size w k a b S v):Cq 31 #[Pq A.f.W,.agg #[Iq k,Iq a,Iq b,Zq S,Tq n,Tq q,v,Iq rom]] w (Tq true) fun w'=>SteppedA w0 A N w':=by
 obtain ⟨cs,hc,c1,c2,c3⟩:=o.c;have ok:=o.k;by_cases e1:k=1\/k=7
 ·exact zo9 w0 A N w h hms hss hN0 k a b e1 S n q v rom cs hc c1 c2 c3
 ·obtain ⟨p,cap,rfl, -⟩:=hc;by_cases e2:k=2\/k=3\/k=4
  ·by_cases h0:A.ms.length=0
   ·exact zov w0 A N w h k a b S n q p _ cap rom (.inl ⟨e2,h0⟩)
   ·exact zpa w0 A N w h hms k a b S n q p _ cap rom o.a1 o.a2 o.b1 o.b2 e2 zza
  ·by_cases e3:k=8\/k=9
   ·by_cases h0:A.ss.length=0
    ·exact zov w0 A N w h k a b S n q p _ cap rom (.inr ⟨e3,h0⟩)
    ·exact zoU w0 A N w h hss hN hnb k a b S n q p _ cap rom o.a1 o.a2 e3 o.s zza
   ·exact (zps w0 A.f (fun g=>A.T g≠0) A.s A.vb A.vp A.nb A.np w k a b S n q p _ cap rom h.i (fun g z=>h.s.tl g z) hnb hnp (by have:=o.s;omega) o.a1 o.a2 zza).mono fun _ _ z=>⟨z.1,h.book z.2⟩
def OpU(N:Nat)(w:World)(g o:Nat):Prop:= ∃(k a b:Int) (S:ByteArray) (n q:Bool) (v:Value) (rom:Int),
 (w.cell? ⟨g,o,none⟩=some (.int .i64 k)/\w.cell? ⟨g,o+1,none⟩=some (.int .i64 a)/\w.cell? ⟨g,o+2,none⟩=some (.int .i64 b)/\w.cell? ⟨g,o+3,none⟩=some (.string S)/\w.cell? ⟨g,o+4,none⟩=some (.bool n)/\w.cell? ⟨g,o+5,none⟩=some (.bool q)/\w.cell? ⟨g,o+6,none⟩=some v/\w.cell? ⟨g,o+7,none⟩=some (.int .i64 rom))/\
 ((1<=k/\k<=9)->OpQ N w k a b S v)/\∃p l c,v=.slice p l c
theorem OpQ.later{N:Nat}{w w':World}{k a b:Int}{S:ByteArray}{v:Value}(h:OpQ N w k a b S v)(hb:Below w.heap.size w w'):OpQ N w' k a b S v:=by
 obtain ⟨cs,c1,c2⟩:=h.c;exact ⟨h.k,h.a1,h.a2,h.b1,h.b2,h.s,cs,c1.below hb,c2⟩
theorem OpU.later{N:Nat}{w w':World}{g o:Nat}(h:OpU N w g o)(hb:Below w.heap.size w w'):OpU N w' g o:=by
 obtain ⟨k,a,b,S,n,q,v,rom,⟨h0,h1,h2,h3,h4,h5,h6,h7⟩,r,sl⟩:=h;exact ⟨k,a,b,S,n,q,v,rom,⟨cell_later hb h0,cell_later hb h1,cell_later hb h2,cell_later hb h3,cell_later hb h4,cell_later hb h5,cell_later hb h6,cell_later hb h7⟩,fun z=>(r z).later hb,sl⟩
def zoi(w:World)(m:Nat)(wr:World):Prop:= ∃A:AV,A.f.W=w.heap.size/\A.nb<=2*m/\A.np<=m/\A.ms.length<=m/\A.ss.length<=m/\IvA w A (1100000000000*(m:Int)) wr
theorem Boot.playedA{w:World}{tag:Nat->Nat}{B R:Nat->Nat}{vs vr:Value}{wr:World}(h:Boot w w.heap.size tag B R 2 2 vs vr wr):zoi w 0 wr:=by
 obtain ⟨F,⟨e1,e2,e3⟩,hI⟩:=h.inv2;exact ⟨⟨F,_,_,_,0,0,fun _=>0,[],[]⟩,e1,Nat.le_refl _,Nat.le_refl _,Nat.le_refl _,Nat.le_refl _,hI.lessX (fun g z=>absurd rfl z),⟨fun g z=>absurd rfl z,by rw [e3];exact World.ownsRow_nil _ _ _ _,fun g e=>(by rw [e3] at e;cases e),fun i q=>absurd q zzc⟩,⟨by rw [e2];exact World.ownsRow_nil _ _ _ _,fun g e=>(by rw [e2] at e;cases e),fun i q=>absurd q zzc⟩⟩
theorem SteppedA.played{w w':World}{A:AV}{m:Nat}(h:SteppedA w A (1100000000000*(m:Int)) w')(hA:A.f.W=w.heap.size/\A.nb<=2*m/\A.np<=m/\A.ms.length<=m/\A.ss.length<=m):zoi w (m+1) w':=by
 obtain ⟨A',e1,e2,e3,e4,e5,q⟩:=h;exact ⟨A',e1.trans hA.1,by omega,by omega,by omega,by omega,q.i,q.s.mono zza,q.c⟩
def zos(k:Int)(m:Nat):Bool:=decide (1<=k/\k<1+(m:Int))
theorem zpj(k:Int):zos k 0=false:=by simp [zos]
theorem zpk{k:Int}{m:Nat}(h:zos k m=true):zos k (m+1)=true:=by simp [zos] at*;omega
theorem zpl{k:Int}{m:Nat}(h:zos k m=false):zos k (m+1)=(k==1+(m:Int)):=by
 simp only [zos,decide_eq_false_iff_not] at h;by_cases e:k=1+(m:Int)
 ·simp [zos,e];omega
 ·have h1:(k==1+(m:Int))=false:=by simpa using e
  rw [h1];simp [zos];omega
theorem zqj(w:World)(ga gk:Nat)(sa:Option Addr)(sb so len cap:Nat)(hA:∀i,i<2->OpU w.heap.size w ga (i*8)/\∀k,w.cell? ⟨ga,i*8,none⟩=some (.int .i64 k)->1<=k/\k<=9)(hK:∀i:Nat,i<9->w.cell? ⟨gk,i,none⟩=some (.int .i64 (1+(i:Int))))
  (hS:len=0\/(sa=some ⟨sb,so,none⟩/\∀i,i<len->OpU w.heap.size w sb (so+i*8))) (hlen:len<=1048576):
  Calls prog 14 #[.slice (some ⟨ga,0,none⟩) 2 2,.slice sa len cap,.slice (some ⟨gk,0,none⟩) 9 9] w fun e w'=>e=.returned (.bool true)/\Below w.heap.size w w':=by
 have HG:=qH3 hA hK hS;clear hA hK hS;go_enter func14,ntmps14;go_wp2;go_loopw [8] (fun i wr=> ∃(k:Nat) (tag B R:Nat->Nat) (vs vr:Value),k<=2/\i=.int .i64 k/\Boot w w.heap.size tag B R k k vs vr wr) (fun i _=>2-(intOf i).toNat);case atStart=>exact ⟨0,_,_,_,_,_,by omega,rfl,zdG w⟩
 case round=>
  obtain ⟨k,tag,B,R,vs,vr,hk,rfl,hB⟩:=hrel;obtain ⟨aS,cs,ar,cr,rfl,rfl⟩:=hB.shape;by_cases hlt:k<2
  ·have HB:=qH1 hB;clear hB;obtain ⟨iS,hiS,hzS0,hzS1,hzS2⟩:=info_parts zkw;obtain ⟨iR,hiR,hzR0,hzR1,hzR2⟩:=info_parts zkx;go_wp2_with fail;refine (Kk _).mono ?_;rintro e w1 ⟨rfl,hsc,hg1,hsz1⟩;have hb1:Below wr.heap.size wr w1:=⟨hg1.os,hg1.tape,hg1.output,hg1.size,fun j hj=>hg1.block j hj zzc⟩;have HB1:Hid (Boot w w.heap.size (fun g=>if g=wr.heap.size then 3+2*k else tag g) B R k k (.slice aS k cs) (.slice ar k cr) w1/\ScAt w1 wr.heap.size Jb/\w.heap.size<=wr.heap.size/\wr.heap.size<w1.heap.size):=
    ⟨(HB.out.tagged (fun g hl=>if_neg zza)).below hb1,hsc,HB.out.bel.size,by omega⟩
   clear hb1 hsc hg1 hsz1 HB;have c2:=HB1.out.1.cell.1;have f2:=HB1.out.1.cell.2.2 2;have hWl:=HB1.out.1.wlt;go_wp2_with (first
    |(at_builtin;(refine wpList_append_lies _ rfl (.tmp 29) (.tmp 31) 75 rfl w.heap.size 83 iS _ 1 8 zky hiS hzS0 hzS1 hzS2 rfl zzb (.slice aS k cs) k (XL B k) rfl ?_ ⟨w1.heap.size,0,none⟩ 1 1 [ptr wr.heap.size] rfl rfl (ye _ _ _) (za5 _) zzb ?_ ?_ ?_ _ rfl ?_;exact (HB1.out.1.below ((Below.refl _ _).alloc (Nat.le_refl _) _)).oS;(unfold maxLen;omega);omega;(have:=HB1.out.2.2;simp;omega);intro g' cap' w3 hown' hgrow hat hlt';have hBA:=HB1.out.1.below ((Below.refl w1.heap.size w1).alloc (Nat.le_refl _) (.cells #[ptr wr.heap.size] 83));obtain ⟨j2,jf,j3,jl⟩:=hBA.keptS hgrow;have HB2:Hid (∃tag B,Boot w w.heap.size tag B R (k+1) k (.slice (some ⟨g',0,none⟩) (k+1) cap') (.slice ar k cr) (w3.setCell ⟨w.heap.size,2,none⟩ (.slice (some ⟨g',0,none⟩) (k+1) cap'))):=⟨_,_,hBA.pushS (HB1.out.2.1.sameBlock (Below.heap_alloc _ _ _ HB1.out.2.2.2)) HB1.out.2.2.1 (if_pos rfl) hown' hgrow hat⟩;clear hBA hown' hgrow hat hlt' HB1 c2 f2 hWl))
    |(at_builtin;go_must (refine wpList_append_lies _ rfl (.tmp 39) (.tmp 42) 76 rfl w.heap.size 85 iR _ 1 8 zkz hiR hzR0 hzR1 hzR2 rfl zzb (.slice ar k cr) k (XL R k) rfl ?_ ⟨w3.heap.size+1,0,none⟩ 1 1 [ptr w3.heap.size] rfl rfl (zdI _ _ _ _ _ zzc) (za5 _) zzb ?_ ?_ ?_ _ rfl ?_;(obtain ⟨tag2,B2,h2⟩:=HB2.out;exact (h2.below (xI _ _ _)).oR);(unfold maxLen;omega);omega;(obtain ⟨tag2,B2,h2⟩:=HB2.out;have:=h2.bel.size;simp at this;simp;omega);intro g2 cap2 w5 hown' hgrow hat hlt';obtain ⟨tag2,B2,h2⟩:=HB2.out;obtain ⟨j5,j5f⟩:=(h2.below (xI _ _ _)).keptR hgrow;have HB3:Hid (∃tag R,Boot w w.heap.size tag B2 R (k+1) (k+1) (.slice (some ⟨g',0,none⟩) (k+1) cap') (.slice (some ⟨g2,0,none⟩) (k+1) cap2) (w5.setCell ⟨w.heap.size,3,none⟩ (.slice (some ⟨g2,0,none⟩) (k+1) cap2))):=h2.endR _ _ _ zzc hown' hgrow hat;clear h2 hown' hgrow hat hlt' HB2 j2 jf j3 jl)))
   go_roundw;case rel=>
    obtain ⟨tag3,R3,h3⟩:=HB3.out;exact ⟨k+1,tag3,B2,R3,_,_,by omega,by go_num,h3⟩
   case measure=>simp [intOf];omega
  ·have HP:Hid (zoi w 0 wr):=by
    obtain rfl:k=2:=by omega
    exact hB.playedA
   clear hB;go_wp2_with fail;go_loopw [10,11] (fun i _ wq=> ∃k:Nat,k<=2/\i=.int .i64 k/\zoi w k wq) (fun i _ _=>2-(intOf i).toNat);case atStart=>exact ⟨0,by omega,rfl,HP.out⟩
   case round=>
    clear HP hk hlt;obtain ⟨k1,hk1,rfl,A,hF,hb1,hb2,hb3,hb4,hI⟩:=hrel;by_cases hlt1:k1<2
    ·obtain ⟨kk,a,b,S,n,q,v,rom,hcell,hop,p,l,c,rfl⟩:=(HG.out.1 k1 hlt1).1.later hI.i.bel;have hkk:1<=kk/\kk<=9:=by
      obtain ⟨kk',_,_,_,_,_,_,_,hc',_⟩:=(HG.out.1 k1 hlt1).1;have z:=cell_later hI.i.bel hc'.1;rw [hcell.1] at z;injection z with z;injection z with _ z;rw [z];exact (HG.out.1 k1 hlt1).2 kk' hc'.1
     have HQ:=zoA w A (1100000000000*(k1:Int)) wr hI zza zza zza zza zza zza kk a b S n q (.slice p l c) rom (hop hkk);rw [hF] at HQ;obtain ⟨c0,c1,c2,c3,c4,c5,c6,c7⟩:=hcell;clear hI hop hkk;go_wp2_with fail;refine HQ.mono ?_;rintro e w2 ⟨rfl,hst⟩;have HI2:Hid (zoi w (k1+1) w2):=hst.played ⟨hF,hb1,hb2,hb3,hb4⟩;clear hst HQ c0 c1 c2 c3 c4 c5 c6 c7 hb1 hb2 hb3 hb4;go_wp2_with fail;go_roundw;case rel=>exact ⟨k1+1,by omega,by go_num,HI2.out⟩
     case measure=>simp [intOf];omega
    ·have HP:Hid (zoi w 2 wr):=by
      obtain rfl:k1=2:=by omega
      exact ⟨A,hF,hb1,hb2,hb3,hb4,hI⟩
     clear hI hb1 hb2 hb3 hb4;go_wp2_with fail;go_loopw [12,13,14,15] (fun i _ _ _ wq=> ∃k:Nat,k<=len/\i=.int .i64 k/\zoi w (2+k) wq) (fun i _ _ _ _=>len-(intOf i).toNat);case atStart=>exact ⟨0,by omega,rfl,HP.out⟩
     case round=>
      clear HP hk1 hlt1;obtain ⟨k1,hk1,rfl,A,hF,hb1,hb2,hb3,hb4,hI⟩:=hrel;by_cases hlt1:k1<len
      ·obtain ⟨rfl,hops⟩:sa=some ⟨sb,so,none⟩/\∀i,i<len->OpU w.heap.size w sb (so+i*8):=by
        rcases HG.out.2.2 with h|h
        ·omega
        ·exact h
       obtain ⟨kk,a,b,S,n,q,v,rom,hcell,hop,p,l,c,rfl⟩:=hops k1 hlt1;have HD:=qH2 hcell hop;have HI:=qH1 hI;clear hI hcell hop hops;go_wp2_with fail;go_loopw [13,14] (fun b j wq=> ∃m:Nat,m<=9/\j=.int .i64 m/\b=.bool (zos kk m)/\IvA w A (1100000000000*((2+k1:Nat):Int)) wq) (fun _ j _=>9-(intOf j).toNat);case atStart=>exact ⟨0,by omega,rfl,by rw [zpj],HI.out⟩
       case round=>
        clear HI;obtain ⟨m,hm9,rfl,rfl,hI⟩:=hrel;have HI:=qH1 hI;by_cases hlt2:m<9
        ·have d0:=cell_later hI.i.bel HD.out.1.1;have e0:=cell_later hI.i.bel (HG.out.2.1 m hlt2);clear hI;obtain ⟨bb,hbb⟩:∃bb,zos kk m=bb:=⟨_,rfl⟩
         rw [hbb];cases bb
         ·go_wp2_with fail;go_quiet (fail);have HI2:Hid (IvA w A (1100000000000*((2+k1:Nat):Int)) (wr.drewN nq)):=HI.out.below (below_drewN (Below.refl _ _) nq);clear HI d0 e0;go_wp2_with fail;go_roundw;case rel=>exact ⟨m+1,by omega,by go_num,by rw [zpl hbb],HI2.out⟩
          case measure=>simp [intOf];omega
         ·go_wp2_with fail;go_quiet (fail);have HI2:Hid (IvA w A (1100000000000*((2+k1:Nat):Int)) (wr.drewN nq)):=HI.out.below (below_drewN (Below.refl _ _) nq);clear HI d0 e0;go_wp2_with fail;go_roundw;case rel=>exact ⟨m+1,by omega,by go_num,by rw [zpk hbb],HI2.out⟩
          case measure=>simp [intOf];omega
        ·obtain rfl:m=9:=by omega
         clear hI;obtain ⟨bb,hbb⟩:∃bb,zos kk 9=bb:=⟨_,rfl⟩
         rw [hbb];cases bb
         ·go_wp2_with fail;go_roundw;case rel=>exact ⟨k1+1,by omega,by go_num,A,hF,by omega,by omega,by omega,by omega,HI.out.i,HI.out.s.mono zza,HI.out.c⟩
          case measure=>simp [intOf];omega
         ·have hkk:1<=kk/\kk<=9:=by simp [zos] at hbb;omega
          have HQ:=zoA w A (1100000000000*((2+k1:Nat):Int)) wr HI.out zza zza zza zza zza zza kk a b S n q (.slice p l c) rom ((HD.out.2 hkk).later HI.out.i.bel);rw [hF] at HQ;have v0:=cell_later HI.out.i.bel HD.out.1.1;have v1:=cell_later HI.out.i.bel HD.out.1.2.1;have v2:=cell_later HI.out.i.bel HD.out.1.2.2.1;have v3:=cell_later HI.out.i.bel HD.out.1.2.2.2.1;have v4:=cell_later HI.out.i.bel HD.out.1.2.2.2.2.1;have v5:=cell_later HI.out.i.bel HD.out.1.2.2.2.2.2.1;have v6:=cell_later HI.out.i.bel HD.out.1.2.2.2.2.2.2.1;have v7:=cell_later HI.out.i.bel HD.out.1.2.2.2.2.2.2.2;clear hkk hbb HI;go_wp2_with fail;refine HQ.mono ?_;rintro e w2 ⟨rfl,hst⟩;obtain ⟨A2,hF2,d1,d2,d3,d4,hI2⟩:=hst.played ⟨hF,hb1,hb2,hb3,hb4⟩;have HL:=zcs w A2.f (fun g=>A2.T g≠0) A2.s A2.s A2.vb A2.vp A2.nb A2.np w2 hI2.i zza zza;rw [hF2] at HL;have HI2:Hid (∀w3,Below w2.heap.size w2 w3->zoi w (2+(k1+1)) w3):=fun w3 hb=>⟨A2,hF2,by omega,by omega,by omega,by omega,hI2.below hb⟩
          clear hI2 HQ v0 v1 v2 v3 v4 v5 v6 v7 hst d1 d2 d3 d4;go_wp2_with fail;refine HL.mono ?_;rintro e w3 ⟨rfl,hw3⟩;have HI3:Hid (zoi w (2+(k1+1)) w3):=HI2.out w3 hw3;clear HL hw3;go_wp2_with fail;go_roundw;case rel=>exact ⟨k1+1,by omega,by go_num,HI3.out⟩
          case measure=>simp [intOf];omega
      ·have HI:=qH1 hI.i.bel;clear hI;go_wp2;go_ret;exact ⟨rfl,HI.out⟩
theorem ChV.more{N M:Nat}{w:World}{v:Value}{bs:List UInt8}(h:ChV N w v bs)(hm:N<=M):ChV M w v bs:=by
 obtain ⟨p,cap,e,h⟩:=h;refine ⟨p,cap,e,fun hn=>?_⟩;obtain ⟨b,off,e2,hb,hB⟩:=h hn;exact ⟨b,off,e2,by omega,hB⟩
theorem CfAt.more{N M:Nat}{w:World}{v:Value}{cs:List Chn}(h:CfAt N w v cs)(hm:N<=M):CfAt M w v cs:=by
 obtain ⟨p,cap,e,h⟩:=h;refine ⟨p,cap,e,fun hn=>?_⟩;obtain ⟨b,off,e2,hb,hB⟩:=h hn;exact ⟨b,off,e2,by omega,fun i hi=>⟨(hB i hi).1,(hB i hi).2.1,(hB i hi).2.2.more hm⟩⟩
def CfG(N:Nat)(w:World)(v:Value):Prop:= ∃cs,CfAt N w v cs/\cs.length<=2000000/\(∀c∈cs,c.bs.length<=2000000)/\yq cs<=100000000
theorem CfG.later{N M:Nat}{w w':World}{v:Value}(h:CfG N w v)(hb:Bq w w')(hm:N<=M):CfG M w' v:=by
 obtain ⟨cs,c1,c2⟩:=h;exact ⟨cs,(c1.below hb).more hm,c2⟩
theorem Gt(N:Nat)(w:World):CfG N w (Nq):=⟨[],⟨none,0,rfl,fun h=>absurd rfl h⟩,by simp,by simp,by simp [yq]⟩
theorem OpL.more{N M:Nat}{w w':World}{g o:Nat}(h:OpL N w g o)(hb:Bq w w')(hm:N<=M):OpL M w' g o:=by
 obtain ⟨k,a,b,S,n,q,v,rom,hc,r,sl⟩:=h.later hb;refine ⟨k,a,b,S,n,q,v,rom,hc,fun z=>?_,sl⟩;obtain ⟨k1,a1,a2,b1,b2,cs,c1,c2⟩:=r z;exact ⟨k1,a1,a2,b1,b2,cs,c1.more hm,c2⟩
theorem yO(w:World)(o:Obj){b i:Nat}{v:Value}(h:w.cell? (Aq b i)=some v):(w.alloc o).cell? (Aq b i)=some v:=cell_later qBa h
theorem znw(w:World)(o:Obj)(T U:TypeId)(W:World) (hW:W=(((w.alloc o).alloc (.cells #[Uq 169,Uq 5,Uq 105,Uq 254,Uq 141,Uq 0,Uq 3,Uq 2] T)).alloc (.cells #[Uq 0,Uq 2] T)).alloc
   (.cells #[Iq 512,.slice (some ⟨w.heap.size+1,0,none⟩) 8 8,Iq 65532,.slice (some ⟨w.heap.size+1+1,0,none⟩) 2 2] U)):
  CfG W.heap.size W (.slice (some ⟨w.heap.size+1+1+1,0,none⟩) 2 2):=by
 subst hW;refine ⟨[⟨512,.slice (some ⟨w.heap.size+1,0,none⟩) 8 8,[169,5,105,254,141,0,3,2]⟩,⟨65532,.slice (some ⟨w.heap.size+1+1,0,none⟩) 2 2,[0,2]⟩],⟨_,_,rfl,fun _=>⟨w.heap.size+1+1+1,0,rfl,by simp,fun i hi=>?_⟩⟩,by simp,?_,by simp [yq]⟩
 ·match i,hi with
  |0,_=>
   refine ⟨World.cell?_alloc_at _ _ _ _ zzc,World.cell?_alloc_at _ _ _ _ zzc,_,_,rfl,fun _=>⟨w.heap.size+1,0,rfl,by simp,fun i hi=>yO _ _ (yO _ _ ?_)⟩⟩;rw [World.cell?_alloc_at _ _ _ _ zzc];match i,hi with
   |0,_|1,_|2,_|3,_|4,_|5,_|6,_|7,_=>rfl
   |i+8,hi=>exact absurd hi zzc
  |1,_=>
   refine ⟨World.cell?_alloc_at _ _ _ _ zzc,World.cell?_alloc_at _ _ _ _ zzc,_,_,rfl,fun _=>⟨w.heap.size+1+1,0,rfl,by simp,fun i hi=>yO _ _ ?_⟩⟩;rw [World.cell?_alloc_at _ _ _ _ zzc];match i,hi with
   |0,_|1,_=>rfl
   |i+2,hi=>exact absurd hi zzc
  |i+2,hi=>exact absurd hi zzc
 ·intro c hc;simp only [List.mem_cons,List.not_mem_nil,or_false] at hc;rcases hc with rfl|rfl<;>simp
theorem zlu(w:World)(o p q r:Obj):Bq w ((((w.alloc o).alloc p).alloc q).alloc r):=(xI w o p).trans ((xI _ q r).mono zzd)
theorem Gu(w:World):Calls prog 15 #[] w fun e w'=> ∃p l c,e=.returned (.agg #[.slice p l c,Iq 256])/\Bq w w'/\CfG w'.heap.size w' (.slice p l c):=by
 go_enter func15,ntmps15;go_wp2;go_returns;exact ⟨_,_,_,rfl,zlu _ _ _ _ _,znw _ _ _ _ _ rfl⟩
theorem OpU.more{N M:Nat}{w w':World}{g o:Nat}(h:OpU N w g o)(hb:Bq w w')(hm:N<=M):OpU M w' g o:=by
 obtain ⟨k,a,b,S,n,q,v,rom,hc,r,sl⟩:=h.later hb;refine ⟨k,a,b,S,n,q,v,rom,hc,fun z=>?_,sl⟩;obtain ⟨k1,a1,a2,b1,b2,s1,cs,c1,c2⟩:=r z;exact ⟨k1,a1,a2,b1,b2,s1,cs,c1.more hm,c2⟩
theorem zpE(w:World)(o:Obj)(T:TypeId)(p p2:Option Addr)(l c l2 c2:Nat)(h:CfG w.heap.size w (.slice p l c))(h2:CfG w.heap.size w (.slice p2 l2 c2))(W:World)
  (hW:W=(w.alloc (.cells #[Iq 1,Iq 0,Iq 0,Zq ⟨#[]⟩,Tq false,Tq false,.slice p l c,Iq 256,Iq 7,Iq 0,Iq 0,Zq ⟨#[]⟩,Tq false,Tq false,.slice p2 l2 c2,Iq 256] T)).alloc o):
  ∀i,i<2->OpU W.heap.size W w.heap.size (i*8)/\∀k,W.cell? ⟨w.heap.size,i*8,none⟩=some (Iq k)->1<=k/\k<=9:=by
 subst hW;intro i hi;have hk:∀ (w':World) (j:Nat) (k k':Int),w'.cell? (Aq w.heap.size j)=some (Iq k')->1<=k'/\k'<=9->w'.cell? (Aq w.heap.size j)=some (Iq k)->1<=k/\k<=9:=by
  intro w' j k k' a z b;rw [a] at b;injection b with b;injection b with _ b;rw [<-b];exact z
 have C:∀j x,(#[Iq 1,Iq 0,Iq 0,Zq ⟨#[]⟩,Tq false,Tq false,.slice p l c,Iq 256,Iq 7,Iq 0,Iq 0,Zq ⟨#[]⟩,Tq false,Tq false,.slice p2 l2 c2,Iq 256]:Array Value)[j]?=some x->((w.alloc (.cells #[Iq 1,Iq 0,Iq 0,Zq ⟨#[]⟩,Tq false,Tq false,.slice p l c,Iq 256,Iq 7,Iq 0,Iq 0,Zq ⟨#[]⟩,Tq false,Tq false,.slice p2 l2 c2,Iq 256] T)).alloc o).cell? (Aq w.heap.size j)=some x:=fun j x e=>yO _ _ ((World.cell?_alloc_at _ _ _ _ rfl).trans e)
 match i,hi with
 |0,_=>exact ⟨⟨1,0,0,⟨#[]⟩,false,false,.slice p l c,256,⟨C _ _ rfl,C _ _ rfl,C _ _ rfl,C _ _ rfl,C _ _ rfl,C _ _ rfl,C _ _ rfl,C _ _ rfl⟩,fun z=>⟨z,by decide,by decide,by decide,by decide,by decide,h.later (xI _ _ _) zzd⟩,_,_,_,rfl⟩,fun k=>hk _ _ _ 1 (C _ _ rfl) zzb⟩
 |1,_=>exact ⟨⟨7,0,0,⟨#[]⟩,false,false,.slice p2 l2 c2,256,⟨C _ _ rfl,C _ _ rfl,C _ _ rfl,C _ _ rfl,C _ _ rfl,C _ _ rfl,C _ _ rfl,C _ _ rfl⟩,fun z=>⟨z,by decide,by decide,by decide,by decide,by decide,h2.later (xI _ _ _) zzd⟩,_,_,_,rfl⟩,fun k=>hk _ _ _ 7 (C _ _ rfl) zzb⟩
 |i+2,hi=>exact absurd hi zza
theorem zpF(w:World)(o:Obj)(T:TypeId):∀i:Nat,i<9->((w.alloc o).alloc (.cells #[Iq 1,Iq 2,Iq 3,Iq 4,Iq 5,Iq 6,Iq 7,Iq 8,Iq 9] T)).cell? ⟨w.heap.size+1,i,none⟩=some (Iq (1+(i:Int))):=by
 intro i hi;rw [World.cell?_alloc_at _ _ _ _ zzc];match i,hi with
 |0,_|1,_|2,_|3,_|4,_|5,_|6,_|7,_|8,_=>rfl
 |i+9,hi=>exact absurd hi zza
theorem zpG(w:World)(sa:Option Addr)(sb so len cap:Nat)
  (hS:len=0\/(sa=some (Aq sb so)/\∀i,i<len->OpU w.heap.size w sb (so+i*8))) (hlen:len<=1048576):
  Cq 6 #[.slice sa len cap] w (Tq true) fun w'=>Bq w w':=by
 have HS:=hid hS;clear hS;go_enter func6,ntmps6;go_wp2_with fail;refine (Gu _).mono ?_;rintro e w1 ⟨p,l,c,rfl,hb,hC⟩;have HB1:=qH2 hb hC;clear hb hC;go_wp2_with fail;refine (Gu _).mono ?_;rintro e w2 ⟨p2,l2,c2,rfl,hb,hC⟩;have HB:=hid (show Bq w w2/\CfG w2.heap.size w2 (.slice p l c)/\CfG w2.heap.size w2 (.slice p2 l2 c2) from ⟨HB1.out.1.trans (hb.mono HB1.out.1.size),HB1.out.2.later hb hb.size,hC⟩);clear hb hC HB1;go_wp2_with fail;refine (zqj _ w2.heap.size (w2.heap.size+1) sa sb so len cap ?_ ?_ ?_ hlen).mono ?_
 ·exact zpE w2 _ _ p p2 l c l2 c2 HB.out.2.1 HB.out.2.2 _ rfl
 ·exact zpF w2 _ _
 ·rcases HS.out with h|⟨h,h2⟩
  ·exact .inl h
  ·exact .inr ⟨h,fun i hi=>(h2 i hi).more (HB.out.1.trans ((xI _ _ _).mono HB.out.1.size)) (by have:=HB.out.1.size;simp;omega)⟩
 ·rintro e w3 ⟨rfl,hb⟩;have HB2:Hid (Bq w w3):=HB.out.1.trans (((xI _ _ _).mono HB.out.1.size).trans (hb.mono (by have:=HB.out.1.size;simp;omega)));clear hb;go_wp2;go_ret;exact ⟨rfl,HB2.out⟩
