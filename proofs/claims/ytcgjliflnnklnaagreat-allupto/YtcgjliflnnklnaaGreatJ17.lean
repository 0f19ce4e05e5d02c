import Derived.Test.YtcgjliflnnklnaaGreatJ12
import Derived.Test.YtcgjliflnnklnaaGreatJ14
import Derived.Test.YtcgjliflnnklnaaGreatJ13
import Derived.Test.YtcgjliflnnklnaaGreatJ02
namespace Go.Proofs.YtcgjliflnnklnaaGreat
open Go.RowKit Tryz
set_option maxRecDepth 100000
set_option maxHeartbeats 4000000
section
variable {B:Nat} {s:PC} {w0 w:World}
theorem V9(v:Int)(h0:0<=v)(h1:v<256)(w:World):Cq 106 #[Uq v] w (.agg #[Uq (zw v.toNat).1,Uq (zw v.toNat).2]) fun w'=>Bq w w':=by
 obtain ⟨n,rfl⟩:=Int.eq_ofNat_of_zero_le h0;exact zaq n zza w
theorem zfs(n:Nat):(zw n).1<56/\(zw n).2<23:=by
 by_cases h:n<256
 ·exact QY n h
 ·have e:zw n=(0,0):=by
   have q:jG.find? (fun e=>e.1==n)=none:=by
    rw [List.find?_eq_none];intro e he;have:e.1<256:=by
     have all:∀e∈jG,e.1<256:=by decide+kernel
     exact all e he
    simp;omega
   unfold zw;rw [q]
  rw [e];decide
theorem zka(n:Nat):(0:Int)<=((zw n).1:Int)/\((zw n).1:Int)<56:=by have:=(zfs n).1;omega
theorem zkb(n:Nat):(0:Int)<=((zw n).2:Int)/\((zw n).2:Int)<23:=by have:=(zfs n).2;omega
theorem Bk.thru{w0 W w1:World}{B R Q:Nat}{s s':PC}{b:BusI}(k:Bk w0 B R Q s b W)(h:Tn B s' W w1):Bk w0 B R Q s' b w1:=
 ⟨k.k.thru h,((kept h).1 _ _ k.nb k.lt).trans k.c0,((kept h).1 _ _ k.nb k.lt).trans k.c1,((kept h).1 _ _ k.nb k.lt).trans k.c2,((kept h).1 _ _ k.nb k.lt).trans k.c3,fun o=>((kept h).2 _ _ k.nb k.lt).trans (k.f o),k.nb,k.nr,k.le,Nat.lt_of_lt_of_le k.lt h.g.size⟩
theorem Bk.below{w0 W w1:World}{B R Q:Nat}{s:PC}{b:BusI}(k:Bk w0 B R Q s b W)(hb:Bq W w1):Bk w0 B R Q s b w1:=k.thru (ym (Tn.refl k.k.c) hb)
theorem Bk.fetched{w0 W:World}{B R Q:Nat}{s:PC}{b:BusI}(k:Bk w0 B R Q s b W):Bk w0 B R Q s {b with ft:=true} (W.setCell (Aq Q 3) (Tq true)):=
 ⟨k.k.other k.nb k.nr k.le,by rw [World.cell?_setCell_other _ _ _ _ (qI _ _ _ zzb)];exact k.c0,by rw [World.cell?_setCell_other _ _ _ _ (qI _ _ _ zzb)];exact k.c1,by rw [World.cell?_setCell_other _ _ _ _ (qI _ _ _ zzb)];exact k.c2,World.cell?_setCell_same _ _ _ k.c3,fun o=>by rw [World.frozen?_setCell];exact k.f o,k.nb,k.nr,k.le,by simpa using k.lt⟩
theorem zb1{p:Prop} (q:p:=by
 rw [Int.emod_eq_of_lt d0 d1] at eF';have KA:=K1.thru ((Tn.refl K1.k.c).setPc ((S.pc+1)%65536) zza);clear hdue eF;go_wp2_with (first|(go_at_call 105;refine hh.mono ?_;rintro e w' ⟨rfl,rfl⟩));refine (V9 _ zza zza _).mono ?_;rintro e w8 ⟨rfl,hbl⟩;have K2:=KA.below hbl;go_wp2_with fail;refine (Bk.call K2 (fun h=>qU h _ _ (zka _) (zkb _))).mono ?_;rintro e w9 ⟨rfl,K9⟩;clear rr0 rr1 rr2 rr3 g1 g2 g3 g4 g5 g6 g7 g8 g9 g10 t0 t1 t2 t3 tf tl;obtain ⟨⟨rr0,rr1,rr2,rr3⟩,g1,g2,g3,g4,g5,g6,g7,g8,g9,g10⟩:=K9.k.facts;have t0:=K9.c0;have t1:=K9.c1;have t2:=K9.c2;have t3:=K9.c3;have tf:=K9.f;have tl:=K9.lt;go_wp2;refine bodyPost_ret (v:=BusI.val ⟨b.addr,b.data,b.wr,true⟩) (by simp [results,results79,go_sem,BusI.val, *]) rfl (And.intro (by rw [hb]) ?_);rw [eF'];exact tq3):p:=q
theorem zmK{p:Prop} (q:p:=by
 clear hdue eF;go_wp2_with (first|(go_at_call 105;refine hh.mono ?_;rintro e w' ⟨rfl,rfl⟩));refine (Bk.call K1 (fun h=>qU h 12 21 zzb zzb)).mono ?_;rintro e w9 ⟨rfl,K9⟩;clear rr0 rr1 rr2 rr3 g1 g2 g3 g4 g5 g6 g7 g8 g9 g10 t0 t1 t2 t3 tf tl;obtain ⟨⟨rr0,rr1,rr2,rr3⟩,g1,g2,g3,g4,g5,g6,g7,g8,g9,g10⟩:=K9.k.facts;have t0:=K9.c0;have t1:=K9.c1;have t2:=K9.c2;have t3:=K9.c3;have tf:=K9.f;have tl:=K9.lt;go_wp2;refine bodyPost_ret (v:=BusI.val ⟨b.addr,b.data,b.wr,true⟩) (by simp [results,results79,go_sem,BusI.val, *]) rfl (And.intro (by rw [hb]) ?_);rw [eF'];exact tq3):p:=q
theorem Y0(h:Tn B s w0 w)(irq:Bool):Calls prog 79 #[Pq B,Tq irq] w fun e w'=>e=.returned (s.fetch irq).2.val/\Tn B (s.fetch irq).1 w0 w':=by
 obtain ⟨hlt,hsz,n0,m0,fz0,n01,m01⟩:=h.pre;have c_pc:=h.c.cpc;obtain ⟨p0,p1⟩:=h.c.rpc;have hd:=Y2 h.c s.pc p1;have k0:=Ck.mk' h (R:=w.heap.size) rfl;obtain ⟨F,HF⟩:∃F:PC,Hid (F=(s.fetch irq).1):=⟨_,rfl⟩
 have hrel:Hid ((s.fetch irq).2={(s.read s.pc).2 with ft:=true}):=by
  show _=_;unfold PC.fetch;simp only [];split
  ·rfl
  ·split<;>rfl
 rw [hrel.out, <-HF.out];clear hrel;go_enter func79,ntmps79;go_upto_region 1 with fail;go_cut [5] from 6 to 14 (fun q wc=> ∃Q,q=Pq Q/\Bk w0 B w.heap.size Q (s.read s.pc).1 (s.read s.pc).2 wc)
 case first=>
  exact zny
 case rest=>
 obtain ⟨Q,rfl,K⟩:=hcut
 have eF:Hid (F=if (s.read s.pc).1.nmiDue=true then (({(s.read s.pc).1 with nmiDue:=false}:PC).begin_ 12 20)
   else if (irq||(s.read s.pc).1.calls)=true/\vI (s.read s.pc).1.p 4=false then ((s.read s.pc).1.begin_ 12 21)
   else (({(s.read s.pc).1 with pc:=((s.read s.pc).1.pc+1)%65536}:PC).begin_ (zw ((s.read s.pc).2.data%256).toNat).1 (zw ((s.read s.pc).2.data%256).toNat).2)):=by
  show _=_;rw [HF.out];unfold PC.fetch;simp only [];split
  ·rfl
  ·split<;>rfl
 have hd':0<=(s.read s.pc).2.data/\(s.read s.pc).2.data<256:=hd;clear k0 c_pc fz0 HF hd;generalize hS:(s.read s.pc).1=S at*;generalize hb:(s.read s.pc).2=b at*;obtain ⟨d0,d1⟩:=hd';have c_pc:=K.k.c.cpc;obtain ⟨l_pc,u_pc⟩:=K.k.c.rpc;have c_due:=K.k.c.cnmiDue;have c_calls:=K.k.c.ccalls;obtain ⟨⟨rr0,rr1,rr2,rr3⟩,g1,g2,g3,g4,g5,g6,g7,g8,g9,g10⟩:=K.k.facts;have t0:=K.c0;have t1:=K.c1;have t2:=K.c2;have t3:=K.c3;have tf:=K.f;have tr:=K.nr;have tl:=K.lt;have tb:=K.nb;have tb':B≠Q:=fun e=>tb e.symm
 have K1:=K.fetched;cases hdue:S.nmiDue
 ·rw [hdue] at c_due;cases irq
  ·cases hcl:S.calls
   ·rw [hcl] at c_calls;have hca:S.calls=false:=hcl;have eF':F=(({S with pc:=(S.pc+1)%65536}:PC).begin_ (zw (b.data%256).toNat).1 (zw (b.data%256).toNat).2):=by rw [eF.out,if_neg (by rw [hdue];decide),if_neg (by simp [hca])]
    rw [Int.emod_eq_of_lt d0 d1] at eF';have KA:=K1.thru ((Tn.refl K1.k.c).setPc ((S.pc+1)%65536) zza);clear hdue eF;go_wp2_with (first|(go_at_call 105;refine (qH K1.k.t 4).mono ?_;rintro e w' ⟨rfl,rfl⟩));refine (V9 _ zza zza _).mono ?_;rintro e w8 ⟨rfl,hbl⟩;have K2:=KA.below hbl;go_wp2_with fail;refine (Bk.call K2 (fun h=>qU h _ _ (zka _) (zkb _))).mono ?_;rintro e w9 ⟨rfl,K9⟩;clear rr0 rr1 rr2 rr3 g1 g2 g3 g4 g5 g6 g7 g8 g9 g10 t0 t1 t2 t3 tf tl;obtain ⟨⟨rr0,rr1,rr2,rr3⟩,g1,g2,g3,g4,g5,g6,g7,g8,g9,g10⟩:=K9.k.facts;have t0:=K9.c0;have t1:=K9.c1;have t2:=K9.c2;have t3:=K9.c3;have tf:=K9.f;have tl:=K9.lt;go_wp2;refine bodyPost_ret (v:=BusI.val ⟨b.addr,b.data,b.wr,true⟩) (by simp [results,results79,go_sem,BusI.val, *]) rfl (And.intro (by rw [hb]) ?_);rw [eF'];exact tq3
   ·rw [hcl] at c_calls;have hca:S.calls=true:=hcl;cases hha:vI S.p 4
    ·have hh:=qH K1.k.t 4;rw [hha] at hh;clear hcl;have eF':F=(S.begin_ 12 21):=by rw [eF.out,if_neg (by rw [hdue];decide),if_pos (by simp [hca,hha])]
     exact zmK
    ·have hh:=qH K1.k.t 4;rw [hha] at hh;clear hcl;have eF':F=(({S with pc:=(S.pc+1)%65536}:PC).begin_ (zw (b.data%256).toNat).1 (zw (b.data%256).toNat).2):=by rw [eF.out,if_neg (by rw [hdue];decide),if_neg (by simp [hca,hha])]
     exact zb1
  ·cases hha:vI S.p 4
   ·have hh:=qH K1.k.t 4;rw [hha] at hh;have eF':F=(S.begin_ 12 21):=by rw [eF.out,if_neg (by rw [hdue];decide),if_pos (by simp [hha])]
    exact zmK
   ·have hh:=qH K1.k.t 4;rw [hha] at hh;have eF':F=(({S with pc:=(S.pc+1)%65536}:PC).begin_ (zw (b.data%256).toNat).1 (zw (b.data%256).toNat).2):=by rw [eF.out,if_neg (by rw [hdue];decide),if_neg (by simp [hha])]
    exact zb1
 ·rw [hdue] at c_due;have eF':F=(({S with nmiDue:=false}:PC).begin_ 12 20):=by rw [eF.out,if_pos hdue]
  have KA:=K1.thru ((Tn.refl K1.k.c).setNmiDue false);clear hdue eF;go_wp2_with fail;refine (Bk.call KA (fun h=>qU h 12 20 zzb zzb)).mono ?_;rintro e w9 ⟨rfl,K9⟩;clear rr0 rr1 rr2 rr3 g1 g2 g3 g4 g5 g6 g7 g8 g9 g10 t0 t1 t2 t3 tf tl;obtain ⟨⟨rr0,rr1,rr2,rr3⟩,g1,g2,g3,g4,g5,g6,g7,g8,g9,g10⟩:=K9.k.facts;have t0:=K9.c0;have t1:=K9.c1;have t2:=K9.c2;have t3:=K9.c3;have tf:=K9.f;have tl:=K9.lt;go_wp2;refine bodyPost_ret (v:=BusI.val ⟨b.addr,b.data,b.wr,true⟩) (by simp [results,results79,go_sem,BusI.val, *]) rfl (And.intro (by rw [hb]) ?_);rw [eF'];exact tq3
end
section
variable {B:Nat} {s:PC} {w0 w:World}
theorem Q2(h:Tn B s w0 w):Calls prog 122 #[Pq B] w fun e w'=>e=.returned (s.relative).2.val/\Tn B (s.relative).1 w0 w':=by
 by_cases h1:s.step=1
 ·exact zaO h h1
 ·by_cases h2:s.step=2
  ·exact Hv h h2
  ·exact zaU h h1 h2
set_option maxRecDepth 100000 in
set_option maxHeartbeats 1000000 in
theorem zds(h:Tn B s w0 w)(irq:Bool)(hs:s.st=1)(hm:s.md=12):Calls prog 54 #[Pq B,Tq irq] w fun e w'=>e=.returned (s.turn irq).2.val/\Tn B (s.turn irq).1 w0 w':=by
 have hu:Hid (s.turn irq=({s with step:=wrap64 (s.step+1)}:PC).doMode 12):=by show _=_;unfold PC.turn;rw [if_neg (by rw [hs];decide),if_neg (by rw [hs];decide),if_neg (by rw [hs];decide),if_neg (by rw [hs];decide),YK];simp only [hm];rfl
 rw [hu.out];have c_st:=h.c.cst;obtain ⟨l_st,u_st⟩:=h.c.rst;have c_md:=h.c.cmd;obtain ⟨l_md,u_md⟩:=h.c.rmd;have c_step:=h.c.cstep;obtain ⟨l_step,u_step⟩:=h.c.rstep;rw [hs] at c_st;rw [hm] at c_md;clear hs hm;obtain ⟨hlt,hsz,n0,m0,fz0, -⟩:=h.pre;go_enter func54,ntmps54;go_wp2_with (first|(go_at_call 83;refine (KG 12 zzb (.func (.func 122) #[] #[]) rfl _).mono ?_;rintro e w1 ⟨rfl,hb⟩;have k:=Ck.below (w0:=w0) (B:=B) (R:=w.heap.size) zk hb;obtain ⟨⟨r0,r1,r2,r3⟩,r4,z0,n1,n2,m1,m2,fz,b1,nr,mr⟩:=k.facts)|(go_at_call 122;refine Ck.go w0 w.heap.size zk (fun h=>Q2 h) ?_;intro w1 k;intros;(try simp only [BusI.val])));all_goals (have hr:=results54;exact bodyPost_ret brq rfl ⟨rfl,ze⟩)
set_option maxRecDepth 100000 in
set_option maxHeartbeats 1000000 in
theorem zgh(h:Tn B s w0 w)(irq:Bool)(hs:s.st=0):Calls prog 54 #[Pq B,Tq irq] w fun e w'=>e=.returned (s.turn irq).2.val/\Tn B (s.turn irq).1 w0 w':=by
 have c_st:=h.c.cst;obtain ⟨l_st,u_st⟩:=h.c.rst;have hu:Hid (s.turn irq=s.fetch irq):=by show _=_;unfold PC.turn;rw [if_pos hs]
 rw [hu.out];rw [hs] at c_st;obtain ⟨hlt,hsz,n0,m0,fz0, -⟩:=h.pre;go_enter func54,ntmps54;go_wp2_with (first|(go_at_call 79;refine Ck.go w0 w.heap.size zk (fun h=>Y0 h irq) ?_;intro w1 k;intros;(try simp only [BusI.val])));all_goals (try go_region_with (first|(go_at_call 79;refine Ck.go w0 w.heap.size zk (fun h=>Y0 h irq) ?_;intro w1 k;intros;(try simp only [BusI.val]))))
 all_goals (try go_wp2_with (first|(go_at_call 79;refine Ck.go w0 w.heap.size zk (fun h=>Y0 h irq) ?_;intro w1 k;intros;(try simp only [BusI.val]))))
 all_goals (have hr:=results54;exact bodyPost_ret brq rfl ⟨rfl,ze⟩)
theorem X5(h:Tn B s w0 w)(irq:Bool)(h5:s.st≠5)(hm:s.st=1->s.md≠0):Calls prog 54 #[Pq B,Tq irq] w fun e w'=>e=.returned (s.turn irq).2.val/\Tn B (s.turn irq).1 w0 w':=by
 have r1:=h.c.rst;have r2:=h.c.rmd;rcases (show s.st=0\/s.st=1\/s.st=2\/s.st=3\/s.st=4 from by omega) with e|e|e|e|e
 ·exact zgh h irq e
 ·have hm':=hm e;rcases (show s.md=1\/s.md=2\/s.md=3\/s.md=4\/s.md=5\/s.md=6\/s.md=7\/s.md=8\/s.md=9\/s.md=10\/s.md=11\/s.md=12\/s.md=13\/s.md=14\/s.md=15\/s.md=16\/s.md=17\/s.md=18\/s.md=19\/s.md=20\/s.md=21\/s.md=22 from by omega) with q|q|q|q|q|q|q|q|q|q|q|q|q|q|q|q|q|q|q|q|q|q
  ·exact xk h irq e 1 zzb q _ rfl (fun _ _=>by kernel_rfl) KQ
  ·exact xk h irq e 2 zzb q _ rfl (fun _ _=>by kernel_rfl) XI
  ·exact xk h irq e 3 zzb q _ rfl (fun _ _=>by kernel_rfl) JC
  ·exact xk h irq e 4 zzb q _ rfl (fun _ _=>by kernel_rfl) Uu
  ·exact xk h irq e 5 zzb q _ rfl (fun _ _=>by kernel_rfl) Jw
  ·exact xk h irq e 6 zzb q _ rfl (fun _ _=>by kernel_rfl) Jx
  ·exact xk h irq e 7 zzb q _ rfl (fun _ _=>by kernel_rfl) Uo
  ·exact xk h irq e 8 zzb q _ rfl (fun _ _=>by kernel_rfl) Jy
  ·exact xk h irq e 9 zzb q _ rfl (fun _ _=>by kernel_rfl) Jz
  ·exact xk h irq e 10 zzb q _ rfl (fun _ _=>by kernel_rfl) JG
  ·exact xk h irq e 11 zzb q _ rfl (fun _ _=>by kernel_rfl) JH
  ·exact zds h irq e q
  ·exact xk h irq e 13 zzb q _ rfl (fun _ _=>by kernel_rfl) Y5
  ·exact xk h irq e 14 zzb q _ rfl (fun _ _=>by kernel_rfl) Y6
  ·exact xk h irq e 15 zzb q _ rfl (fun _ _=>by kernel_rfl) Z7
  ·exact xk h irq e 16 zzb q _ rfl (fun _ _=>by kernel_rfl) ZL
  ·exact xk h irq e 17 zzb q _ rfl (fun _ _=>by kernel_rfl) UY
  ·exact xk h irq e 18 zzb q _ rfl (fun _ _=>by kernel_rfl) UZ
  ·exact xk h irq e 19 zzb q _ rfl (fun _ _=>by kernel_rfl) Y4
  ·exact xk h irq e 20 zzb q _ rfl (fun _ _=>by kernel_rfl) Ji
  ·exact xk h irq e 21 zzb q _ rfl (fun _ _=>by kernel_rfl) Jh
  ·exact xk h irq e 22 zzb q _ rfl (fun _ _=>by kernel_rfl) Z8
 ·exact zga h irq e
 ·exact zgb h irq e
 ·exact zgc h irq e
end
theorem Z6{B:Nat}{s:PC}{w0 w:World}(h:Tn B s w0 w):Cq 53 #[Pq B] w (Tq (s.st==5)) fun w'=>w'=w:=by
 have c_st:=h.c.cst;go_enter func53,ntmps53;go_wp2;go_ret;exact ⟨rfl,rfl⟩
theorem zda{B:Nat}{s:PC}{w0 w:World}(h:Tn B s w0 w)(nmi irq:Bool)(h5:s.st=5):Cq 35 #[Pq B,Tq nmi,Tq irq] w (.tuple #[BusI.val ⟨0,0,false,false⟩,Tq false]) fun w'=>Tn B s w0 w':=by
 have hlt:=h.c.lt;have hsz:=h.g.size;have k0:=Ck.mk' h (R:=w.heap.size) rfl;obtain ⟨⟨rr0,rr1,rr2,rr3⟩,g1,g2,g3,g4,g5,g6,g7,g8,g9,g10⟩:=k0.facts;have j:=Z6 k0.t;rw [h5] at j;go_enter func35,ntmps35;go_wp2_with (first|(go_at_call 53;refine j.mono ?_;rintro e w' ⟨rfl,rfl⟩));refine bodyPost_ret (v:=.tuple #[BusI.val ⟨0,0,false,false⟩,Tq false]) (by simp [results,results35,go_sem,BusI.val, *]) rfl (And.intro rfl ?_);apply Tn.eq;(case h=>repeat (first|with_reducible exact h|with_reducible apply Tn.drew|with_reducible apply Tn.drewN|with_reducible apply Tn.alloc|((with_reducible apply Tn.other);(case hne=>omega);(case hb=>omega))));(case e=>rfl)
theorem zlR(s:PC)(v:Int):({s with cyc:=IntKind.wrap .i64 v}:PC)={s with cyc:=wrap64 v}:=by rw [YK]
theorem zx3{p:Prop} (q:p:=by
 by_cases ha:ba=53248
 ·subst ha;have e9:Hid (T9=S):=by show _=_;rw [hT.out];unfold PC.ends;rw [if_neg zzc]
  obtain rfl:=e9.out;obtain ⟨⟨rr0,rr1,rr2,rr3⟩,g1,g2,g3,g4,g5,g6,g7,g8,g9,g10⟩:=k2.facts;have ccyc:=k2.c.ccyc;have KC:=k2.t.setCyc (wrap64 (T9.cyc+1)) (Q1 _);clear e9 hT KL;go_wp2;refine bodyPost_ret (v:=.tuple #[BusI.val ⟨53248,bd,true,bf⟩,Tq true]) (by simp [results,results35,go_sem,BusI.val, *]) rfl (And.intro (by rw [hR.out.1]) ?_);rw [hR.out.1];apply Tn.eq;(case h=>repeat (first|with_reducible exact KC|with_reducible apply Tn.drew|with_reducible apply Tn.drewN|with_reducible apply Tn.alloc|((with_reducible apply Tn.other);(case hne=>omega);(case hb=>omega))));(case e=>rfl)
 ·have e9:Hid (T9=S.tick):=by show _=_;rw [hT.out];unfold PC.ends;rw [if_pos (Or.inr ha)]
  have ha':(ba==53248)=false:=by simpa using ha
  clear ha;go_wp2_with fail;refine (Bk.call KL (fun h=>GD h)).mono ?_;rintro e wx ⟨rfl,K9⟩;rw [<-e9.out] at K9;obtain ⟨⟨rr0,rr1,rr2,rr3⟩,g1,g2,g3,g4,g5,g6,g7,g8,g9,g10⟩:=K9.k.facts;have t0:=K9.c0;have t1:=K9.c1;have t2:=K9.c2;have t3:=K9.c3;have tf:=K9.f;have tr:=K9.nr;have tb:=K9.nb;have tl:=K9.lt;have ccyc:=K9.k.c.ccyc;have KC:=K9.thru ((Tn.refl K9.k.c).setCyc (wrap64 (T9.cyc+1)) (Q1 _));go_wp2;refine bodyPost_ret (v:=.tuple #[BusI.val ⟨ba,bd,true,bf⟩,Tq true]) (by simp [results,results35,go_sem,BusI.val, *]) rfl (And.intro (by rw [hR.out.1]) ?_);rw [hR.out.1];apply Tn.eq;(case h=>repeat (first|with_reducible exact KC.k.t|with_reducible apply Tn.drew|with_reducible apply Tn.drewN|with_reducible apply Tn.alloc|((with_reducible apply Tn.other);(case hne=>omega);(case hb=>omega))));(case e=>rfl)):p:=q
theorem zx7{p:Prop} (q:p:=by
 have e9:Hid (T9=S.tick):=by show _=_;rw [hT.out];unfold PC.ends;rw [if_pos (Or.inl rfl)]
 go_wp2_with fail;refine (Bk.call KL (fun h=>GD h)).mono ?_;rintro e wx ⟨rfl,K9⟩;rw [<-e9.out] at K9;obtain ⟨⟨rr0,rr1,rr2,rr3⟩,g1,g2,g3,g4,g5,g6,g7,g8,g9,g10⟩:=K9.k.facts;have t0:=K9.c0;have t1:=K9.c1;have t2:=K9.c2;have t3:=K9.c3;have tf:=K9.f;have tr:=K9.nr;have tb:=K9.nb;have tl:=K9.lt;have ccyc:=K9.k.c.ccyc;have KC:=K9.thru ((Tn.refl K9.k.c).setCyc (wrap64 (T9.cyc+1)) (Q1 _));go_wp2;refine bodyPost_ret (v:=.tuple #[BusI.val ⟨ba,bd,false,bf⟩,Tq true]) (by simp [results,results35,go_sem,BusI.val, *]) rfl (And.intro (by rw [hR.out.1]) ?_);rw [hR.out.1];apply Tn.eq;(case h=>repeat (first|with_reducible exact KC.k.t|with_reducible apply Tn.drew|with_reducible apply Tn.drewN|with_reducible apply Tn.alloc|((with_reducible apply Tn.other);(case hne=>omega);(case hb=>omega))));(case e=>rfl)):p:=q
theorem zfX{B:Nat}{s:PC}{w0 w:World}(h:Tn B s w0 w)(nmi irq:Bool)(h5:s.st≠5)(hm:s.st=1->s.md≠0):Cq 35 #[Pq B,Tq nmi,Tq irq] w (.tuple #[(s.cycle nmi irq).2.val,Tq true]) fun w'=>Tn B (s.cycle nmi irq).1 w0 w':=by
 have hlt:=h.c.lt;have hsz:=h.g.size;have n0:w.heap.size≠B:=by omega
 have m0:B≠w.heap.size:=by omega
 have k0:=Ck.mk' h (R:=w.heap.size) rfl;obtain ⟨⟨rr0,rr1,rr2,rr3⟩,g1,g2,g3,g4,g5,g6,g7,g8,g9,g10⟩:=k0.facts;have j:=Z6 k0.t;rw [show (s.st==5)=false from by simpa using h5] at j;have con:=h.c.cnmiOn;have cdue:=h.c.cnmiDue;have fz0:=h.c.free;obtain ⟨b,T9,hR⟩:∃b T9,Hid (s.cycle nmi irq=({(T9:PC) with cyc:=wrap64 (T9.cyc+1)},b)/\b=((s.pins nmi).turn irq).2/\T9=((s.pins nmi).turn irq).1.ends b):=⟨_,_,by rw [vX,zlR],rfl,rfl⟩
 obtain ⟨ba,bd,bw,bf⟩:=b;have hP:Hid ((s.pins nmi).st=s.st/\(s.pins nmi).md=s.md):=⟨rfl,rfl⟩;cases nmi
 ·have k1:=Ck.mk' (Tn.eq (h.setNmiOn false) (show ({s with nmiOn:=false}:PC)=s.pins false from by unfold PC.pins;simp)) (R:=w.heap.size) zzc;go_enter func35,ntmps35;go_wp2_with (first|(go_at_call 53;refine j.mono ?_;rintro e w' ⟨rfl,rfl⟩));refine (Ck.call k1 (fun h=>X5 h irq (by rw [hP.out.1];exact h5) (by rw [hP.out.1,hP.out.2];exact hm))).mono ?_;rintro e w1 ⟨rfl,k2,q1,q2,zz⟩;rw [<-hR.out.2.1];have hT:=qH1 hR.out.2.2;generalize hS:((s.pins false).turn irq).1=S at*;clear q1 q2 zz k1 j rr0 rr1 rr2 rr3 g1 g2 g3 g4 g5 g6 g7 g8 g9 g10 con cdue fz0;have KL:=Bk.late k2 ⟨ba,bd,bw,bf⟩;have z1:=k2.facts;obtain ⟨-, -,z0,z1,z2,z3,z4,z5,z6,z7,z8⟩:=z1;simp only [BusI.val];cases bw
  ·exact zx7
  ·exact zx3
 ·cases hon:s.nmiOn
  ·rw [hon] at con;have k1:=Ck.mk' (Tn.eq ((h.setNmiDue true).setNmiOn true) (show ({s with nmiDue:=true,nmiOn:=true}:PC)=s.pins true from by unfold PC.pins;simp [hon])) (R:=w.heap.size) zzc;clear hon;go_enter func35,ntmps35;go_wp2_with (first|(go_at_call 53;refine j.mono ?_;rintro e w' ⟨rfl,rfl⟩));refine (Ck.call k1 (fun h=>X5 h irq (by rw [hP.out.1];exact h5) (by rw [hP.out.1,hP.out.2];exact hm))).mono ?_;rintro e w1 ⟨rfl,k2,q1,q2,zz⟩;rw [<-hR.out.2.1];have hT:=qH1 hR.out.2.2;generalize hS:((s.pins true).turn irq).1=S at*;clear q1 q2 zz k1 j rr0 rr1 rr2 rr3 g1 g2 g3 g4 g5 g6 g7 g8 g9 g10 con cdue fz0;have KL:=Bk.late k2 ⟨ba,bd,bw,bf⟩;have z1:=k2.facts;obtain ⟨-, -,z0,z1,z2,z3,z4,z5,z6,z7,z8⟩:=z1;simp only [BusI.val];cases bw
   ·exact zx7
   ·exact zx3
  ·rw [hon] at con;have k1:=Ck.mk' (Tn.eq (h.setNmiOn true) (show ({s with nmiOn:=true}:PC)=s.pins true from by unfold PC.pins;simp [hon])) (R:=w.heap.size) zzc;clear hon;go_enter func35,ntmps35;go_wp2_with (first|(go_at_call 53;refine j.mono ?_;rintro e w' ⟨rfl,rfl⟩));refine (Ck.call k1 (fun h=>X5 h irq (by rw [hP.out.1];exact h5) (by rw [hP.out.1,hP.out.2];exact hm))).mono ?_;rintro e w1 ⟨rfl,k2,q1,q2,zz⟩;rw [<-hR.out.2.1];have hT:=qH1 hR.out.2.2;generalize hS:((s.pins true).turn irq).1=S at*;clear q1 q2 zz k1 j rr0 rr1 rr2 rr3 g1 g2 g3 g4 g5 g6 g7 g8 g9 g10 con cdue fz0;have KL:=Bk.late k2 ⟨ba,bd,bw,bf⟩;have z1:=k2.facts;obtain ⟨-, -,z0,z1,z2,z3,z4,z5,z6,z7,z8⟩:=z1;simp only [BusI.val];cases bw
   ·exact zx7
   ·exact zx3
