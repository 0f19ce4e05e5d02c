import Derived.Handy
import Derived.Test.YtcgjliflnnklnaaGreatJ04
import Derived.Test.YtcgjliflnnklnaaGreatRwIz
namespace Go.Proofs.YtcgjliflnnklnaaGreat
open Go.RowKit Tryz
set_option maxRecDepth 100000
set_option maxHeartbeats 2000000
theorem zlH{p:Int}{b v:Bool}(m:Int)(t:Bool)(h:b=((bits .and .i64 p m !=0)==t))(e:v=b):Ending.returned (Tq v)=.returned (Tq ((bits .and .i64 p m !=0)==t)):=by rw [e,h]
theorem ziX{j K:Int}(h:j<=K)(n:j≠K):j<K:=by omega
def tB:List (BA × Int × Bool × Int):=[(b3 66 67 67,1,false,0),(b3 66 67 83,1,true,1),(b3 66 78 69,2,false,2),(b3 66 69 81,2,true,3),(b3 66 80 76,128,false,4),(b3 66 77 73,128,true,5),(b3 66 86 67,64,false,6),(b3 66 86 83,64,true,7)]
theorem zlI(op md:BA)(M K:Int)(t:Bool)(hx:(op,M,t,K)∈tB)(p:Int)(w:World):Cq 153 #[cdV op md,Iq p] w (Tq ((bits .and .i64 p M !=0)==t)) fun w'=>∃o1 o2 o3 m,w'=(((w.alloc o1).alloc o2).alloc o3).drewN m:=by
 unfold tB at hx;simp only [List.mem_cons,List.not_mem_nil,or_false,Prod.mk.injEq] at hx;unfold cdV;go_enter func153,ntmps153;go_wp2_with fail;go_loopw [7] (fun i wr=> ∃(j:Int) (m:Nat),0<=j/\j<=K/\i=Iq j/\wr=(((w.alloc (.cells #[Zq op,Zq md] 192)).alloc (.cells #[Iq 1,Iq 1,Iq 2,Iq 2,Iq 128,Iq 128,Iq 64,Iq 64] 3)).alloc (.cells #[Zq ⟨#[66,67,67]⟩,Zq ⟨#[66,67,83]⟩,Zq ⟨#[66,78,69]⟩,Zq ⟨#[66,69,81]⟩,Zq ⟨#[66,80,76]⟩,Zq ⟨#[66,77,73]⟩,Zq ⟨#[66,86,67]⟩,Zq ⟨#[66,86,83]⟩] 9)).drewN m) (fun i _=>8-(intOf i).toNat);case atStart=>exact ⟨0,0,by omega,by omega,rfl,rfl⟩
 case round=>
  obtain ⟨j,m,h0,h1,rfl,rfl⟩:=hrel;unfold b3 at hx;rcases hx with ⟨rfl,hM,rfl,hK⟩|⟨rfl,hM,rfl,hK⟩|⟨rfl,hM,rfl,hK⟩|⟨rfl,hM,rfl,hK⟩|⟨rfl,hM,rfl,hK⟩|⟨rfl,hM,rfl,hK⟩|⟨rfl,hM,rfl,hK⟩|⟨rfl,hM,rfl,hK⟩;all_goals rcases (show j=0\/j=1\/j=2\/j=3\/j=4\/j=5\/j=6\/j=7 from by omega) with rfl|rfl|rfl|rfl|rfl|rfl|rfl|rfl
  all_goals first
   |(exfalso;omega)
   |(have:_<K:=ziX h1 (by rw [hK];decide);go_wp2_with fail;go_quiet (fail);go_wp2;go_roundw;(case rel=>exact ⟨_,_,by omega,by omega,rfl,by first|rfl|exact World.drewN_drewN _ _ _⟩);(case measure=>simp [intOf]))
   |(by_cases hq:bits .and .i64 p M=0<;>subst hM<;>(go_wp2_with fail;go_quiet (fail);go_wp2;go_ret;exact ⟨zlH _ _ (by first|(simp;done)|(simp [hq];done)) rfl,_,_,_,_,by first|rfl|exact World.drewN_drewN _ _ _⟩))
def lB:List BA:=[b3 66 67 67,b3 66 67 83,b3 66 78 69,b3 66 69 81,b3 66 80 76,b3 66 77 73,b3 66 86 67,b3 66 86 83]
theorem Jf(op md:BA)(hop:op∈lB)(p:Int)(w:World):Cq 153 #[cdV op md,Iq p] w (Tq (yS op p)) fun w'=>∃o1 o2 o3 m,w'=(((w.alloc o1).alloc o2).alloc o3).drewN m:=by
 unfold lB at hop;simp only [List.mem_cons,List.not_mem_nil,or_false] at hop;rcases hop with rfl|rfl|rfl|rfl|rfl|rfl|rfl|rfl;all_goals exact zlI _ _ _ _ _ (by unfold tB;repeat (first|exact List.Mem.head _|apply List.Mem.tail)) _ _
theorem Jg(w:World)(o1 o2 o3 o4 o5 o6:Obj)(b i:Nat)(h:b<w.heap.size):((((((w.alloc o1).alloc o2).alloc o3).alloc o4).alloc o5).alloc o6).cell? (Aq b i)=w.cell? (Aq b i):=
 (UT (yT (yT (yT (yT (yT (yT (Below.refl _ _) o1) o2) o3) o4) o5) o6)).1 b i h
theorem yB(w:World)(o:Obj)(m:Nat):(w.drewN m).alloc o=(w.alloc o).drewN m:=rfl
theorem yV(w:World)(a:Addr)(v:Value)(m:Nat):(w.drewN m).setCell a v=(w.setCell a v).drewN m:=by
 unfold World.setCell;rfl
theorem br_1(op md:BA)(hop:op∈lB)(A X Y S P PC cyc:Int)(jam:Bool)(c0:0<=PC/\PC<65536)(b cap:Nat)(h:List Int)(hn:h.length=1)(w:World):Cq 147 #[cdV op md,.agg #[Iq A,Iq X,Iq Y,Iq S,Iq P,Iq PC,Iq cyc,Tq jam],hdV b h cap] w (zi (rdR (PC+1))) fun w'=>Bq w w':=by
 have:=c0;have al:=yB;have sc:=yV;have TK:=fun w=>Jf op md hop P w
 generalize yS op P=t at*;unfold hdV cdV at*;rw [hn];go_enter func147,ntmps147;go_wp2_with (first|(go_at_call 153;refine (TK _).mono ?_;rintro e w1 ⟨rfl,o1,o2,o3,m1,rfl⟩)|(go_at_call 154;refine (GO _).mono ?_;rintro e w1 ⟨rfl,og,rfl⟩)|with_reducible refine c8 ?_|with_reducible refine c16 ?_|with_reducible refine cRd fun o=>?_|with_reducible refine cWr fun o=>?_|with_reducible refine cDn fun o=>?_);all_goals (have hr:=results147;exact bodyPost_ret zr rfl ⟨rfl,zg⟩)
theorem zmr{p:Prop} (q:p:=by
 have:=c0;have al:=yB;have sc:=yV;have TK:=fun w=>Jf op md hop P w
 rw [ht] at TK;unfold hdV cdV at*;rw [hn];go_enter func147,ntmps147;go_wp2_with (first|(go_at_call 153;refine (TK _).mono ?_;rintro e w1 ⟨rfl,o1,o2,o3,m1,rfl⟩)|(go_at_call 154;refine (GO _).mono ?_;rintro e w1 ⟨rfl,og,rfl⟩)|with_reducible refine c8 ?_|with_reducible refine c16 ?_|with_reducible refine cRd fun o=>?_|with_reducible refine cWr fun o=>?_|with_reducible refine cDn fun o=>?_);all_goals (have hr:=results147;exact bodyPost_ret zr rfl ⟨rfl,zg⟩)):p:=q
theorem znT(op md:BA)(hop:op∈lB)(A X Y S P PC cyc:Int)(jam:Bool)(c0:0<=PC/\PC<65536)(b cap:Nat)(h:List Int)(hn:h.length=2)(ht:yS op P=true)(w:World):Cq 147 #[cdV op md,.agg #[Iq A,Iq X,Iq Y,Iq S,Iq P,Iq PC,Iq cyc,Tq jam],hdV b h cap] w (zi (rdR ((PC+2)%65536))) fun w'=>Bq w w':=by
 exact zmr
theorem znU(op md:BA)(hop:op∈lB)(A X Y S P PC cyc:Int)(jam:Bool)(c0:0<=PC/\PC<65536)(b cap:Nat)(h:List Int)(hn:h.length=2)(ht:yS op P=false)(w:World):Cq 147 #[cdV op md,.agg #[Iq A,Iq X,Iq Y,Iq S,Iq P,Iq PC,Iq cyc,Tq jam],hdV b h cap] w (zi (dnR)) fun w'=>Bq w w':=by
 exact zmr
theorem br_x(op md:BA)(hop:op∈lB)(A X Y S P PC cyc:Int)(jam:Bool)(c0:0<=PC/\PC<65536)(b cap:Nat)(h:List Int)(hn:4<=h.length)(hl:h.length<=100)(w:World):Cq 147 #[cdV op md,.agg #[Iq A,Iq X,Iq Y,Iq S,Iq P,Iq PC,Iq cyc,Tq jam],hdV b h cap] w (zi (dnR)) fun w'=>Bq w w':=by
 have:=c0;have al:=yB;have sc:=yV;have TK:=fun w=>Jf op md hop P w
 generalize yS op P=t at*;unfold hdV cdV at*;generalize h.length=n at*;have n1:¬(n:Int)=1:=by omega
 have n2:¬(n:Int)=2:=by omega
 have n3:¬(n:Int)=3:=by omega
 go_enter func147,ntmps147;go_wp2_with (first|(go_at_call 153;refine (TK _).mono ?_;rintro e w1 ⟨rfl,o1,o2,o3,m1,rfl⟩)|(go_at_call 154;refine (GO _).mono ?_;rintro e w1 ⟨rfl,og,rfl⟩)|with_reducible refine c8 ?_|with_reducible refine c16 ?_|with_reducible refine cRd fun o=>?_|with_reducible refine cWr fun o=>?_|with_reducible refine cDn fun o=>?_);all_goals (have hr:=results147;exact bodyPost_ret zr rfl ⟨rfl,zg⟩)
theorem zx5{p:Prop} (q:p:=by
 have:=c0;have al:=yB;have sc:=yV;have TK:=fun w=>Jf op md hop P w
 generalize yS op P=t at*;unfold hdV cdV at*;have l1:=H.lt;have c1:=H.c 1 zza;obtain ⟨p1,q1⟩:=H.r 1 zza;have GO:=fun w=>zkd ⟨A,X,Y,S,P,PC,cyc,jam⟩ (hd h 1) w c0.1 c0.2 p1 q1
 rw [hn];have g0:=Int.emod_nonneg (PC+2+(if 127<hd h 1 then hd h 1-256 else hd h 1)) (show (65536:Int)≠0 by decide);have g1:=Int.emod_lt_of_pos (PC+2+(if 127<hd h 1 then hd h 1-256 else hd h 1)) (show (0:Int)<65536 by decide);change 0<=yv ⟨A,X,Y,S,P,PC,cyc,jam⟩ (hd h 1) at g0;change yv ⟨A,X,Y,S,P,PC,cyc,jam⟩ (hd h 1)<65536 at g1;unfold RG.val at GO;generalize yv ⟨A,X,Y,S,P,PC,cyc,jam⟩ (hd h 1)=g at*;generalize hd h 1=h1 at*;have d1:=fun o1 o2 o3=>(yy w o1 o2 o3 b 1 l1).trans c1
 have d2:=fun o1 o2 o3 o4 o5 o6=>(Jg w o1 o2 o3 o4 o5 o6 b 1 l1).trans c1
 have e1:g.tdiv 256=g/256:=Int.tdiv_eq_ediv_of_nonneg g0;have e2:g.tmod 256=g%256:=Int.tmod_eq_emod_of_nonneg g0;have e3:((PC+2)%65536).tdiv 256=(PC+2)%65536/256:=Int.tdiv_eq_ediv_of_nonneg zza;have r0:0<=(PC+2)%65536:=by omega
 have r1:(PC+2)%65536<65536:=by omega
 have r2:0<=(PC+2)%65536/256:=by omega
 have r3:(PC+2)%65536/256<256:=by omega
 clear H;go_enter func147,ntmps147;go_wp2_with (first|(go_at_call 153;refine (TK _).mono ?_;rintro e w1 ⟨rfl,o1,o2,o3,m1,rfl⟩)|(go_at_call 154;refine (GO _).mono ?_;rintro e w1 ⟨rfl,og,rfl⟩)|with_reducible refine c8 ?_|with_reducible refine c16 ?_|with_reducible refine cRd fun o=>?_|with_reducible refine cWr fun o=>?_|with_reducible refine cDn fun o=>?_);go_region_with (first|(go_at_call 153;refine (TK _).mono ?_;rintro e w1 ⟨rfl,o1,o2,o3,m1,rfl⟩)|(go_at_call 154;refine (GO _).mono ?_;rintro e w1 ⟨rfl,og,rfl⟩)|with_reducible refine c8 ?_|with_reducible refine c16 ?_|with_reducible refine cRd fun o=>?_|with_reducible refine cWr fun o=>?_|with_reducible refine cDn fun o=>?_);all_goals go_wp2_with (first|(go_at_call 153;refine (TK _).mono ?_;rintro e w1 ⟨rfl,o1,o2,o3,m1,rfl⟩)|(go_at_call 154;refine (GO _).mono ?_;rintro e w1 ⟨rfl,og,rfl⟩)|with_reducible refine c8 ?_|with_reducible refine c16 ?_|with_reducible refine cRd fun o=>?_|with_reducible refine cWr fun o=>?_|with_reducible refine cDn fun o=>?_)
 all_goals (have hr:=results147;exact bodyPost_ret zr rfl ⟨rfl,zg⟩)):p:=q
theorem znV(op md:BA)(hop:op∈lB)(A X Y S P PC cyc:Int)(jam:Bool)(c0:0<=PC/\PC<65536)(b cap:Nat)(h:List Int)(hn:h.length=3)(hg:¬yv ⟨A,X,Y,S,P,PC,cyc,jam⟩ (hd h 1)/256=(PC+2)%65536/256)(w:World)(H:HdAt w b h):Cq 147 #[cdV op md,.agg #[Iq A,Iq X,Iq Y,Iq S,Iq P,Iq PC,Iq cyc,Tq jam],hdV b h cap] w (zi (rdR ((PC+2)%65536/256*256+yv ⟨A,X,Y,S,P,PC,cyc,jam⟩ (hd h 1)%256))) fun w'=>Bq w w':=by
 exact zx5
theorem znW(op md:BA)(hop:op∈lB)(A X Y S P PC cyc:Int)(jam:Bool)(c0:0<=PC/\PC<65536)(b cap:Nat)(h:List Int)(hn:h.length=3)(hg:yv ⟨A,X,Y,S,P,PC,cyc,jam⟩ (hd h 1)/256=(PC+2)%65536/256)(w:World)(H:HdAt w b h):Cq 147 #[cdV op md,.agg #[Iq A,Iq X,Iq Y,Iq S,Iq P,Iq PC,Iq cyc,Tq jam],hdV b h cap] w (zi (dnR)) fun w'=>Bq w w':=by
 exact zx5
