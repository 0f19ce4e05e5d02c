import Derived.Deep.DeepCutAuto
import Derived.Deep.QuietTactic
import Derived.BigQuiet
import Derived.Test.YtcgjliflnnklnaaGreatCM1z
import Derived.Test.YtcgjliflnnklnaaGreatJ12
import Derived.Test.YtcgjliflnnklnaaGreatCM3z
import Derived.Test.YtcgjliflnnklnaaGreatCM4z
import Derived.Test.YtcgjliflnnklnaaGreatJ16
namespace Go.Proofs.YtcgjliflnnklnaaGreat
open Go.RowKit Tryz
set_option maxRecDepth 100000
set_option maxHeartbeats 8000000
theorem zlJ(p d:Int)(h0:0<=d)(h1:d<256):IntKind.u16.wrap (p+IntKind.u16.wrap (IntKind.i8.wrap d))=(p+sgn d)%65536:=by
 have e8:IntKind.i8.wrap d=(d+128)%256-128:=by simp only [IntKind.wrap,IntKind.bits,IntKind.signed];simp;omega
 rw [IntKind.wrap_u16,IntKind.wrap_u16,e8];unfold sgn;split<;>omega
theorem znP{w1 w2:World}{B o:Nat}{v:Value}{cs:Array Value}{t:TypeId}(W:World)(hW:W=((w1.setCell (Aq B o) v).alloc (.cells cs t)).drew)(hB:B<w1.heap.size)(q:∀b o,b≠B->b<W.heap.size->w2.cell? (Aq b o)=W.cell? (Aq b o))(f:∀b o,b≠B->b<W.heap.size->w2.frozen? (Aq b o)=W.frozen? (Aq b o)):(∀i,w2.cell? (Aq w1.heap.size i)=cs[i]?)/\(∀i,w2.frozen? (Aq w1.heap.size i)=false):=by
 subst hW;have hs:(w1.setCell (Aq B o) v).heap.size=w1.heap.size:=by simp
 have lt:w1.heap.size<(((w1.setCell (Aq B o) v).alloc (.cells cs t)).drew).heap.size:=by simp
 refine ⟨fun i=>?_,fun i=>?_⟩
 ·rw [q _ _ zza lt];show ((w1.setCell (Aq B o) v).alloc (.cells cs t)).cell? _=_;rw [<-hs];exact World.cell?_alloc_at _ _ _ _ rfl
 ·rw [f _ _ zza lt];show ((w1.setCell (Aq B o) v).alloc (.cells cs t)).frozen? _=_;rw [<-hs];exact World.frozen?_alloc_at _ _ _ _ rfl
theorem zaO{B:Nat}{s:PC}{w0 w:World}(h:Tn B s w0 w)(hk:s.step=1):Calls prog 122 #[Pq B] w fun e w'=>e=.returned (s.relative).2.val/\Tn B (s.relative).1 w0 w':=by
 have c_step:=h.c.cstep;rw [hk] at c_step;have hlt:=h.c.lt;have hsz:=h.g.size;have n0:w.heap.size≠B:=by omega
 have m0:B≠w.heap.size:=by omega
 have fz0:=h.c.free;have hd:=Y2 h.c s.pc h.c.rpc.2;have k0:=Ck.mk' h (R:=w.heap.size) rfl;have hrel:Hid (s.relative=((if (({s.readNext.1 with ad:=(s.readNext.1.pc+sgn s.readNext.2.data)%65536}:PC).perform).taken=true then (({s.readNext.1 with ad:=(s.readNext.1.pc+sgn s.readNext.2.data)%65536}:PC).perform) else (({s.readNext.1 with ad:=(s.readNext.1.pc+sgn s.readNext.2.data)%65536}:PC).perform).finish),s.readNext.2)):=by
  show _=_;unfold PC.relative;rw [if_pos hk]
 rw [hrel.out];clear hrel;obtain ⟨F,hF⟩:∃F:PC,F=(if (({s.readNext.1 with ad:=(s.readNext.1.pc+sgn s.readNext.2.data)%65536}:PC).perform).taken=true then (({s.readNext.1 with ad:=(s.readNext.1.pc+sgn s.readNext.2.data)%65536}:PC).perform) else (({s.readNext.1 with ad:=(s.readNext.1.pc+sgn s.readNext.2.data)%65536}:PC).perform).finish):=⟨_,rfl⟩
 rw [<-hF];have HF:=qH1 hF;clear hF;go_enter func122,ntmps122;go_wp2_with fail;refine (Ck.call k0 (fun h=>qS h)).mono ?_;rintro e w1 ⟨rfl,k1,q1,q2,q3⟩;have hdd:s.readNext.2.data=s.look s.pc:=rfl;rw [<-hdd] at hd;obtain ⟨d0,d1⟩:=hd;have c1:=k1.c.cpc;have c1a:=k1.c.cad;obtain ⟨p0,p1⟩:=k1.c.rpc;obtain ⟨⟨r0,r1,r2,r3⟩,f1,f2,f3,f4,f5,f6,f7,f8,f9,f10⟩:=k1.facts;generalize hS:s.readNext.1=S at*;generalize hb:s.readNext.2=b at*;clear q1 q2 c_step hdd;simp only [BusI.val];go_wp2_with fail;go_region_with fail;all_goals (go_wp2_with fail)
 all_goals
  rw [zlJ S.pc b.data d0 d1];have k2:=((k1.upd fun h=>h.setAd ((S.pc+sgn b.data)%65536) zza).alloc (o:=.cells #[Iq b.addr,Iq b.data,Tq b.wr,Tq b.ft] 53)).drew;refine (Ck.call k2 (fun h=>jD h)).mono ?_;rintro e w2 ⟨rfl,k3,q1,q2,q4⟩;obtain ⟨l1,l2⟩:=znP _ rfl k1.c.lt q1 q2;have t0:=l1 0;have t1:=l1 1;have t2:=l1 2;have t3:=l1 3;simp only [List.getElem?_toArray,List.getElem?_cons_zero,List.getElem?_cons_succ] at t0 t1 t2 t3;generalize hT:({S with ad:=(S.pc+sgn b.data)%65536}:PC).perform=T at*;obtain ⟨⟨rr0,rr1,rr2,rr3⟩,g1,g2,g3,g4,g5,g6,g7,g8,g9,g10⟩:=k3.facts;have c3:=k3.c.ctaken;clear q1 q2 l1 k2 r0 r1 r2 r3 f1 c1 c1a;have hlw:w1.heap.size<w2.heap.size:=by simp at q4;omega
  have hne:w1.heap.size≠B:=f3;cases ht:T.taken
  ·rw [ht] at c3;have eF:F=T.finish:=by rw [HF.out,ht];rfl
   go_wp2_with fail;refine (Ck.call k3 (fun h=>jx h)).mono ?_;rintro e w3 ⟨rfl,k4,u1,u2,u3⟩;have t0:=(u1 _ 0 hne hlw).trans t0;have t1:=(u1 _ 1 hne hlw).trans t1;have t2:=(u1 _ 2 hne hlw).trans t2;have t3:=(u1 _ 3 hne hlw).trans t3;obtain ⟨⟨rr0,rr1,rr2,rr3⟩,g1,g2,g3,g4,g5,g6,g7,g8,g9,g10⟩:=k4.facts;clear u1 u2;go_wp2;refine bodyPost_ret (v:=BusI.val b) (by simp [results,results122,go_sem,BusI.val, *]) rfl (And.intro (by rw [hb]) ?_);rw [eF];apply Tn.eq;(case h=>repeat (first|with_reducible exact k4.t|with_reducible exact h|with_reducible apply Tn.drew|with_reducible apply Tn.alloc|((with_reducible apply Tn.other);(case hne=>omega);(case hb=>omega))));(case e=>rfl)
  ·rw [ht] at c3;have eF:F=T:=by rw [HF.out,ht];rfl
   go_wp2;refine bodyPost_ret (v:=BusI.val b) (by simp [results,results122,go_sem,BusI.val, *]) rfl (And.intro (by rw [hb]) ?_);rw [eF];apply Tn.eq;(case h=>repeat (first|with_reducible exact k3.t|with_reducible exact h|with_reducible apply Tn.drew|with_reducible apply Tn.alloc|((with_reducible apply Tn.other);(case hne=>omega);(case hb=>omega))));(case e=>rfl)
section
variable {B:Nat} {s:PC} {w0 w:World}
structure Bk (w0:World) (B R Q:Nat) (s:PC) (b:BusI) (W:World):Prop where
 k:Ck w0 B R s W
 c0:W.cell? (Aq Q 0)=some (Iq b.addr)
 c1:W.cell? (Aq Q 1)=some (Iq b.data)
 c2:W.cell? (Aq Q 2)=some (Tq b.wr)
 c3:W.cell? (Aq Q 3)=some (Tq b.ft)
 f:∀o,W.frozen? (Aq Q o)=false
 nb:Q≠B
 nr:Q≠R
 le:w0.heap.size<=Q
 lt:Q<W.heap.size
theorem Bk.call{P:Program}{f:FuncId}{args:Array Value}{w0 W:World}{B R Q:Nat}{s s':PC}{b:BusI}{V:Value}(k:Bk w0 B R Q s b W)
  (hc:∀ {a b:World},Tn B s a b->Calls P f args b (fun e w'=>e=.returned V/\Tn B s' a w')):
  Calls P f args W (fun e w'=>e=.returned V/\Bk w0 B R Q s' b w'):=
 (Ck.call k.k hc).mono fun _ _ h=>⟨h.1,⟨h.2.1,(h.2.2.1 _ _ k.nb k.lt).trans k.c0,(h.2.2.1 _ _ k.nb k.lt).trans k.c1,(h.2.2.1 _ _ k.nb k.lt).trans k.c2,(h.2.2.1 _ _ k.nb k.lt).trans k.c3,fun o=>(h.2.2.2.1 _ _ k.nb k.lt).trans (k.f o),k.nb,k.nr,k.le,Nat.lt_of_lt_of_le k.lt h.2.2.2.2⟩⟩
theorem Bk.drew{w0 W:World}{B R Q:Nat}{s:PC}{b:BusI}(k:Bk w0 B R Q s b W):Bk w0 B R Q s b W.drew:=⟨k.k.drew,k.c0,k.c1,k.c2,k.c3,k.f,k.nb,k.nr,k.le,k.lt⟩
theorem Tn.drewN{w0 W:World}{B:Nat}{s:PC}(k:Tn B s w0 W)(n:Nat):Tn B s w0 (W.drewN n):=by
 induction n with
 |zero=>exact k
 |succ n ih=>exact ih.drew
theorem Bk.drewN{w0 W:World}{B R Q:Nat}{s:PC}{b:BusI}(k:Bk w0 B R Q s b W)(n:Nat):Bk w0 B R Q s b (W.drewN n):=by
 induction n with
 |zero=>exact k
 |succ n ih=>exact ih.drew
theorem Bk.late{w0 W:World}{B R:Nat}{s:PC}(k:Ck w0 B R s W)(b:BusI):Bk w0 B R W.heap.size s b (W.alloc (.cells #[Iq b.addr,Iq b.data,Tq b.wr,Tq b.ft] 53)):=by
 have hc:∀i,(W.alloc (.cells #[Iq b.addr,Iq b.data,Tq b.wr,Tq b.ft] 53)).cell? (Aq W.heap.size i)=(#[Iq b.addr,Iq b.data,Tq b.wr,Tq b.ft]:Array Value)[i]?:=fun i=>World.cell?_alloc_at _ _ _ _ rfl
 have h1:=k.c.lt;have h2:=k.lt;have h3:=k.g.size;exact ⟨k.alloc,hc 0,hc 1,hc 2,hc 3,fun o=>World.frozen?_alloc_at _ _ _ _ rfl,by omega,by omega,h3,by simp⟩
theorem Bk.early{w0 W w1:World}{B R Q:Nat}{s:PC}(k:Ck w0 B R s w1)(b:BusI)(hQ:Q<w1.heap.size)(nb:Q≠B)(nr:Q≠R)(le:w0.heap.size<=Q)(c0:∃v,w1.cell? (Aq Q 0)=some v)(c1:∃v,w1.cell? (Aq Q 1)=some v)(c2:∃v,w1.cell? (Aq Q 2)=some v)(c3:∃v,w1.cell? (Aq Q 3)=some v)(f:∀o,w1.frozen? (Aq Q o)=false)
  (hW:W=(((w1.setCell (Aq Q 0) (Iq b.addr)).setCell (Aq Q 1) (Iq b.data)).setCell (Aq Q 2) (Tq b.wr)).setCell (Aq Q 3) (Tq b.ft)):Bk w0 B R Q s b W:=by
 subst hW;obtain ⟨v0,c0⟩:=c0;obtain ⟨v1,c1⟩:=c1;obtain ⟨v2,c2⟩:=c2;obtain ⟨v3,c3⟩:=c3;have kk:=(((k.other (v:=Iq b.addr) (o:=0) nb nr le).other (v:=Iq b.data) (o:=1) nb nr le).other (v:=Tq b.wr) (o:=2) nb nr le).other (v:=Tq b.ft) (o:=3) nb nr le;have ne:∀ (i j:Nat),i≠j->((Aq Q i):Addr)≠ (Aq Q j):=fun i j h e=>h (by injection e)
 refine ⟨kk,?_,?_,?_,?_,?_,nb,nr,le,by simpa using hQ⟩
 ·rw [World.cell?_setCell_other _ _ _ _ (ne 3 0 zzb),World.cell?_setCell_other _ _ _ _ (ne 2 0 zzb),World.cell?_setCell_other _ _ _ _ (ne 1 0 zzb)];exact World.cell?_setCell_same _ _ _ c0
 ·rw [World.cell?_setCell_other _ _ _ _ (ne 3 1 zzb),World.cell?_setCell_other _ _ _ _ (ne 2 1 zzb)];exact World.cell?_setCell_same _ _ _ ((World.cell?_setCell_other _ _ _ _ (ne 0 1 zzb)).trans c1)
 ·rw [World.cell?_setCell_other _ _ _ _ (ne 3 2 zzb)];exact World.cell?_setCell_same _ _ _ ((World.cell?_setCell_other _ _ _ _ (ne 1 2 zzb)).trans ((World.cell?_setCell_other _ _ _ _ (ne 0 2 zzb)).trans c2))
 ·exact World.cell?_setCell_same _ _ _ ((World.cell?_setCell_other _ _ _ _ (ne 2 3 zzb)).trans ((World.cell?_setCell_other _ _ _ _ (ne 1 3 zzb)).trans ((World.cell?_setCell_other _ _ _ _ (ne 0 3 zzb)).trans c3)))
 ·intro o;simpa using f o
theorem xU(w:World)(o1:Obj)(cs:Array Value)(t:TypeId)(i:Nat):((w.alloc o1).alloc (.cells cs t)).cell? ⟨w.heap.size+1,i,none⟩=cs[i]?:=by
 have hs:(w.alloc o1).heap.size=w.heap.size+1:=by simp
 rw [<-hs];exact World.cell?_alloc_at _ _ _ _ rfl
theorem VD(w:World)(o1:Obj)(cs:Array Value)(t:TypeId)(i:Nat):((w.alloc o1).alloc (.cells cs t)).frozen? ⟨w.heap.size+1,i,none⟩=false:=by
 have hs:(w.alloc o1).heap.size=w.heap.size+1:=by simp
 rw [<-hs];exact World.frozen?_alloc_at _ _ _ _ rfl
theorem zny{p:Prop} (q:p:=by
 go_region_with (first|(go_at_call 103;refine Ck.gq w0 w.heap.size zk (fun h=>YC h _ nq5 nq5) ?_;intro w1 k q1 q2 zz;intros;(try simp at zz);(try replace zz:=Nat.lt_of_succ_le zz);(try have zl:w.heap.size+1<w1.heap.size:=zza);(try have zm:w.heap.size<w1.heap.size:=zza);(try simp only [BusI.val])));all_goals (go_wp2_with fail;go_meet)
 all_goals first
  |exact ⟨_,rfl,Bk.late k _⟩
  |exact ⟨_,rfl,Bk.early k _ zl n01 zza zza ⟨_,(q1 _ 0 n01 zzc).trans (xU _ _ _ _ 0)⟩ ⟨_,(q1 _ 1 n01 zzc).trans (xU _ _ _ _ 1)⟩ ⟨_,(q1 _ 2 n01 zzc).trans (xU _ _ _ _ 2)⟩ ⟨_,(q1 _ 3 n01 zzc).trans (xU _ _ _ _ 3)⟩ (fun o=>(q2 _ o n01 zzc).trans (VD _ _ _ _ o)) rfl⟩):p:=q
theorem Hv(h:Tn B s w0 w)(hk:s.step=2):Calls prog 122 #[Pq B] w fun e w'=>e=.returned (s.relative).2.val/\Tn B (s.relative).1 w0 w':=by
 have c_step:=h.c.cstep;obtain ⟨hlt,hsz,n0,m0,fz0,n01,m01⟩:=h.pre;have c_pc:=h.c.cpc;obtain ⟨p0,p1⟩:=h.c.rpc;have k0:=Ck.mk' h (R:=w.heap.size) rfl;rw [hk] at c_step;obtain ⟨F,HF⟩:∃F:PC,Hid (F=if hiI (s.read s.pc).1.ad=hiI (s.read s.pc).1.pc then (s.read s.pc).1.branch else (s.read s.pc).1):=⟨_,rfl⟩
 have hrel:Hid (s.relative=(F,(s.read s.pc).2)):=by
  show _=_;rw [HF.out];unfold PC.relative;rw [if_neg (by rw [hk];decide),if_pos hk]
 rw [hrel.out];clear hrel;go_enter func122,ntmps122;go_upto_region 10 with fail;go_cut [4] from 39 to 47 (fun q wc=> ∃Q,q=Pq Q/\Bk w0 B w.heap.size Q (s.read s.pc).1 (s.read s.pc).2 wc)
 case first=>
  exact zny
 case rest=>
 obtain ⟨Q,rfl,K⟩:=hcut;clear k0 c_step c_pc fz0;generalize hS:(s.read s.pc).1=S at*;generalize hb:(s.read s.pc).2=b at*;have c_pc:=K.k.c.cpc;obtain ⟨l_pc,u_pc⟩:=K.k.c.rpc;have c_ad:=K.k.c.cad;obtain ⟨l_ad,u_ad⟩:=K.k.c.rad;by_cases hj:hiI S.ad=hiI S.pc
 ·have eF:F=S.branch:=by rw [HF.out,if_pos hj]
  go_wp2_with fail;go_quiet (first|(go_at_call 177;exact Calls.quiet_of_same (vF _ _ zzh zzh)));go_wp2_with fail;refine (Bk.call (K.drewN _) (fun h=>VM h)).mono ?_;rintro e w2 ⟨rfl,K2⟩;obtain ⟨⟨rr0,rr1,rr2,rr3⟩,g1,g2,g3,g4,g5,g6,g7,g8,g9,g10⟩:=K2.k.facts;have t0:=K2.c0;have t1:=K2.c1;have t2:=K2.c2;have t3:=K2.c3;have tf:=K2.f;have tr:=K2.nr;have tl:=K2.lt;go_wp2;refine bodyPost_ret (v:=BusI.val b) (by simp [results,results122,go_sem,BusI.val, *]) rfl (And.intro (by rw [hb]) ?_);rw [eF];apply Tn.eq;(case h=>repeat (first|with_reducible exact K2.k.t|with_reducible apply Tn.drew|with_reducible apply Tn.drewN|with_reducible apply Tn.alloc|((with_reducible apply Tn.other);(case hne=>omega);(case hb=>omega))));(case e=>rfl)
 ·have eF:F=S:=by rw [HF.out,if_neg hj]
  obtain ⟨⟨rr0,rr1,rr2,rr3⟩,g1,g2,g3,g4,g5,g6,g7,g8,g9,g10⟩:=K.k.facts;have t0:=K.c0;have t1:=K.c1;have t2:=K.c2;have t3:=K.c3;have tf:=K.f;have tr:=K.nr;have tl:=K.lt;go_wp2_with fail;go_quiet (first|(go_at_call 177;exact Calls.quiet_of_same (vF _ _ zzh zzh)));go_wp2;refine bodyPost_ret (v:=BusI.val b) (by simp [results,results122,go_sem,BusI.val, *]) rfl (And.intro (by rw [hb]) ?_);rw [eF];apply Tn.eq;(case h=>repeat (first|with_reducible exact K.k.t|with_reducible apply Tn.drew|with_reducible apply Tn.drewN|with_reducible apply Tn.alloc|((with_reducible apply Tn.other);(case hne=>omega);(case hb=>omega))));(case e=>rfl)
end
section
variable {B:Nat} {s:PC} {w0 w:World}
theorem Ck.below{w0 W w1:World}{B R:Nat}{s:PC}(k:Ck w0 B R s W)(hb:Bq W w1):Ck w0 B R s w1:=
 ⟨(ym k.t hb).c,(ym k.t hb).g,by rw [hb.block _ k.lt];exact k.r,k.ne,k.le⟩
theorem Q1(x:Int): -9223372036854775808<=wrap64 x/\wrap64 x<9223372036854775808:=by
 simp only [wrap64];omega
theorem YK(x:Int):IntKind.wrap .i64 x=wrap64 x:=by simp only [wrap64,IntKind.wrap_i64]
theorem zga(h:Tn B s w0 w)(irq:Bool)(hs:s.st=2):Calls prog 54 #[Pq B,Tq irq] w fun e w'=>e=.returned (s.turn irq).2.val/\Tn B (s.turn irq).1 w0 w':=by
 have c_st:=h.c.cst;obtain ⟨l_st,u_st⟩:=h.c.rst;have hu:Hid (s.turn irq=s.access):=by show _=_;unfold PC.turn;rw [if_neg (by rw [hs];decide),if_pos hs]
 rw [hu.out];rw [hs] at c_st;obtain ⟨hlt,hsz,n0,m0,fz0, -⟩:=h.pre;go_enter func54,ntmps54;go_wp2_with (first|(go_at_call 80;refine Ck.go w0 w.heap.size zk (fun h=>js h) ?_;intro w1 k;intros;(try simp only [BusI.val])));all_goals (try go_region_with (first|(go_at_call 80;refine Ck.go w0 w.heap.size zk (fun h=>js h) ?_;intro w1 k;intros;(try simp only [BusI.val]))))
 all_goals (try go_wp2_with (first|(go_at_call 80;refine Ck.go w0 w.heap.size zk (fun h=>js h) ?_;intro w1 k;intros;(try simp only [BusI.val]))))
 all_goals (have hr:=results54;exact bodyPost_ret brq rfl ⟨rfl,ze⟩)
theorem zgb(h:Tn B s w0 w)(irq:Bool)(hs:s.st=3):Calls prog 54 #[Pq B,Tq irq] w fun e w'=>e=.returned (s.turn irq).2.val/\Tn B (s.turn irq).1 w0 w':=by
 have c_st:=h.c.cst;obtain ⟨l_st,u_st⟩:=h.c.rst;have hu:Hid (s.turn irq=s.restore):=by show _=_;unfold PC.turn;rw [if_neg (by rw [hs];decide),if_neg (by rw [hs];decide),if_pos hs]
 rw [hu.out];rw [hs] at c_st;obtain ⟨hlt,hsz,n0,m0,fz0, -⟩:=h.pre;go_enter func54,ntmps54;go_wp2_with (first|(go_at_call 81;refine Ck.go w0 w.heap.size zk (fun h=>vS h) ?_;intro w1 k;intros;(try simp only [BusI.val])));all_goals (try go_region_with (first|(go_at_call 81;refine Ck.go w0 w.heap.size zk (fun h=>vS h) ?_;intro w1 k;intros;(try simp only [BusI.val]))))
 all_goals (try go_wp2_with (first|(go_at_call 81;refine Ck.go w0 w.heap.size zk (fun h=>vS h) ?_;intro w1 k;intros;(try simp only [BusI.val]))))
 all_goals (have hr:=results54;exact bodyPost_ret brq rfl ⟨rfl,ze⟩)
theorem zgc(h:Tn B s w0 w)(irq:Bool)(hs:s.st=4):Calls prog 54 #[Pq B,Tq irq] w fun e w'=>e=.returned (s.turn irq).2.val/\Tn B (s.turn irq).1 w0 w':=by
 have c_st:=h.c.cst;obtain ⟨l_st,u_st⟩:=h.c.rst;have hu:Hid (s.turn irq=s.change):=by show _=_;unfold PC.turn;rw [if_neg (by rw [hs];decide),if_neg (by rw [hs];decide),if_neg (by rw [hs];decide),if_pos hs]
 rw [hu.out];rw [hs] at c_st;obtain ⟨hlt,hsz,n0,m0,fz0, -⟩:=h.pre;go_enter func54,ntmps54;go_wp2_with (first|(go_at_call 82;refine Ck.go w0 w.heap.size zk (fun h=>jr h) ?_;intro w1 k;intros;(try simp only [BusI.val])));all_goals (try go_region_with (first|(go_at_call 82;refine Ck.go w0 w.heap.size zk (fun h=>jr h) ?_;intro w1 k;intros;(try simp only [BusI.val]))))
 all_goals (try go_wp2_with (first|(go_at_call 82;refine Ck.go w0 w.heap.size zk (fun h=>jr h) ?_;intro w1 k;intros;(try simp only [BusI.val]))))
 all_goals (have hr:=results54;exact bodyPost_ret brq rfl ⟨rfl,ze⟩)
end
section
variable {B:Nat} {s:PC} {w0 w:World}
theorem kq8{p:Prop}(q:p:=by repeat (first|with_reducible exact k|with_reducible apply Ck.drew|((with_reducible apply Ck.mk');(case hR=>(simp;done));(case h=>(repeat (first|with_reducible exact h|with_reducible apply Tn.drew|with_reducible apply Tn.alloc|((with_reducible apply Tn.other);(case hne=>omega);(case hb=>omega))))))|with_reducible apply Ck.alloc|((with_reducible apply Ck.other);(case hne=>omega);(case hnr=>omega);(case hb=>omega)))):p:=q
theorem zaU(h:Tn B s w0 w)(hk1:s.step≠1)(hk2:s.step≠2):Calls prog 122 #[Pq B] w fun e w'=>e=.returned (s.relative).2.val/\Tn B (s.relative).1 w0 w':=by
 have c_step:=h.c.cstep;obtain ⟨hlt,hsz,n0,m0,fz0,n01,m01⟩:=h.pre;have c_pc:=h.c.cpc;obtain ⟨p0,p1⟩:=h.c.rpc;have k0:=Ck.mk' h (R:=w.heap.size) rfl;have e1:(s.step==1)=false:=by simpa using hk1
 have e2:(s.step==2)=false:=by simpa using hk2
 have c_ad:=h.c.cad;obtain ⟨a0,a1⟩:=h.c.rad;obtain ⟨j1,j2⟩:=Gf s.ad;obtain ⟨j3,j4⟩:=znh s.pc p0 p1;obtain ⟨j5,j6⟩:=zeZ _ _ j1 j2 j3 j4;have hrel:Hid (s.relative=((s.read (zn (loI s.ad) (hiI s.pc))).1.branch,(s.read (zn (loI s.ad) (hiI s.pc))).2)):=by
  show _=_;unfold PC.relative;rw [if_neg hk1,if_neg hk2]
 rw [hrel.out];clear hrel;generalize hA:(zn (loI s.ad) (hiI s.pc))=A at*;go_enter func122,ntmps122;go_upto_region 14 with fail;go_cut [5] from 63 to 78 (fun q wc=> ∃Q,q=Pq Q/\Bk w0 B w.heap.size Q (s.read A).1 (s.read A).2 wc)
 case first=>
  go_region_with (first|(go_at_call 179;refine (vE _ _).mono ?_;rintro e w' ⟨rfl,rfl⟩)|(go_at_call 177;refine (vF _ _ zzh zzh).mono ?_;rintro e w' ⟨rfl,rfl⟩)|(go_at_call 52;refine (xr _ _ _ zzh zzh zzh zzh).mono ?_;rintro e w' ⟨rfl,rfl⟩;rw [hA])|(go_at_call 103;refine Ck.gq w0 w.heap.size kq8 (fun h=>YC h _ nq5 nq5) ?_;intro w1 k q1 q2 zz;intros;(try simp at zz);(try replace zz:=Nat.lt_of_succ_le zz);(try have zl:w.heap.size+1<w1.heap.size:=zza);(try have zm:w.heap.size<w1.heap.size:=zza);(try simp only [BusI.val])));all_goals (go_wp2_with fail;go_meet)
  all_goals first
   |exact ⟨_,rfl,Bk.late k _⟩
   |exact ⟨_,rfl,Bk.early k _ zl n01 zza zza ⟨_,(q1 _ 0 n01 zzc).trans (xU _ _ _ _ 0)⟩ ⟨_,(q1 _ 1 n01 zzc).trans (xU _ _ _ _ 1)⟩ ⟨_,(q1 _ 2 n01 zzc).trans (xU _ _ _ _ 2)⟩ ⟨_,(q1 _ 3 n01 zzc).trans (xU _ _ _ _ 3)⟩ (fun o=>(q2 _ o n01 zzc).trans (VD _ _ _ _ o)) rfl⟩
 case rest=>
 obtain ⟨Q,rfl,K⟩:=hcut;clear k0 c_step c_pc fz0;generalize hS:(s.read A).1=S at*;generalize hb:(s.read A).2=b at*;go_wp2_with fail;refine (Bk.call K (fun h=>VM h)).mono ?_;rintro e w2 ⟨rfl,K2⟩;obtain ⟨⟨rr0,rr1,rr2,rr3⟩,g1,g2,g3,g4,g5,g6,g7,g8,g9,g10⟩:=K2.k.facts;have t0:=K2.c0;have t1:=K2.c1;have t2:=K2.c2;have t3:=K2.c3;have tf:=K2.f;have tr:=K2.nr;have tl:=K2.lt;go_wp2;refine bodyPost_ret (v:=BusI.val b) (by simp [results,results122,go_sem,BusI.val, *]) rfl (And.intro (by rw [hb]) ?_);apply Tn.eq;(case h=>repeat (first|with_reducible exact K2.k.t|with_reducible apply Tn.drew|with_reducible apply Tn.drewN|with_reducible apply Tn.alloc|((with_reducible apply Tn.other);(case hne=>omega);(case hb=>omega))));(case e=>rw [hS])
end
section
variable {B:Nat} {s:PC} {w0 w:World}
set_option maxRecDepth 100000 in
set_option maxHeartbeats 1000000 in
theorem xk(h:Tn B s w0 w)(irq:Bool)(hs:s.st=1)(n:Nat)(hn:n<23)(hm:s.md=n)(F:Nat)(hv:GN.getD n .nilFunc=.func (.func F) #[] #[])(he:∀a w,Sem.run prog (callFunc F a) w=.ok (.enter F a) w)
  (hc:∀ {s:PC} {w0 w:World},Tn B s w0 w->Calls prog F #[Pq B] w fun e w'=>e=.returned (s.doMode n).2.val/\Tn B (s.doMode n).1 w0 w'):
  Calls prog 54 #[Pq B,Tq irq] w fun e w'=>e=.returned (s.turn irq).2.val/\Tn B (s.turn irq).1 w0 w':=by
 have hu:Hid (s.turn irq=({s with step:=wrap64 (s.step+1)}:PC).doMode n):=by show _=_;unfold PC.turn;rw [if_neg (by rw [hs];decide),if_neg (by rw [hs];decide),if_neg (by rw [hs];decide),if_neg (by rw [hs];decide),YK];simp only [hm];rfl
 rw [hu.out];have c_st:=h.c.cst;obtain ⟨l_st,u_st⟩:=h.c.rst;have c_md:=h.c.cmd;have c_step:=h.c.cstep;obtain ⟨l_step,u_step⟩:=h.c.rstep;rw [hs] at c_st;rw [hm] at c_md;clear hs hm;obtain ⟨hlt,hsz,n0,m0,fz0, -⟩:=h.pre;go_enter func54,ntmps54;go_wp2_with (go_at_call 83;refine (KG n hn _ hv _).mono ?_;rintro e w1 ⟨rfl,hb⟩;have k:=Ck.below (w0:=w0) (B:=B) (R:=w.heap.size) zk hb;obtain ⟨⟨r0,r1,r2,r3⟩,r4,z0,n1,n2,m1,m2,fz,b1,nr,mr⟩:=k.facts);refine Ck.go w0 w.heap.size zk (fun h=>hc h) ?_;intro w1 k;intros;simp only [BusI.val];go_wp2;all_goals (have hr:=results54;exact bodyPost_ret brq rfl ⟨rfl,ze⟩)
end
