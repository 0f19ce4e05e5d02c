import Derived.Handy
import Derived.Test.YtcgjliflnnklnaaGreatJ05
import Derived.Test.YtcgjliflnnklnaaGreatRwLz
namespace Go.Proofs.YtcgjliflnnklnaaGreat
open Go.RowKit Tryz
set_option maxRecDepth 100000
set_option maxHeartbeats 2000000
theorem ziD(op:BA)(A X Y S P PC cyc:Int)(jam:Bool)(x0:0<=X/\X<256)(y0:0<=Y/\Y<256)(c0:0<=PC/\PC<65536)(b cap:Nat)(h:List Int)(hn:5<=h.length)(hl:h.length<=100)(w:World)(H:HdAt w b h):Cq 148 #[cdV op (b3 105 122 120),.agg #[Iq A,Iq X,Iq Y,Iq S,Iq P,Iq PC,Iq cyc,Tq jam],hdV b h cap] w (plV (hd h 3+256*hd h 4,5,Act.nil,true)) fun w'=>Bq w w':=by
 have:=x0;have:=y0;have:=c0;have al:=yB;have sc:=yV;have l1:=H.lt;have c1:=H.c 1 zza;have p1:=H.r 1 zza;have c3:=H.c 3 zza;have p3:=H.r 3 zza;have c4:=H.c 4 zza;have p4:=H.r 4 zza;generalize hd h 1=h1 at*;have d1:=fun o1 o2 o3=>(yy w o1 o2 o3 b 1 l1).trans c1
 generalize hd h 3=h3 at*;have d3:=fun o1 o2 o3=>(yy w o1 o2 o3 b 3 l1).trans c3
 generalize hd h 4=h4 at*;have d4:=fun o1 o2 o3=>(yy w o1 o2 o3 b 4 l1).trans c4
 clear H;unfold cdV hdV b3 at*;generalize h.length=n at*;have m1:¬(n:Int)=1:=by omega
 have m2:(1:Int)<(n:Int):=by omega
 have m3:¬(n:Int)=2:=by omega
 have m4:(3:Int)<(n:Int):=by omega
 have m5:(4:Int)<(n:Int):=by omega
 have m6:¬(n:Int)<5:=by omega
 have w1:IntKind.i64.wrap (256*h4)=256*h4:=by rw [IntKind.wrap_i64];omega
 have w2:IntKind.i64.wrap (h3+256*h4)=h3+256*h4:=by rw [IntKind.wrap_i64];omega
 go_enter func148,ntmps148;go_wp2_with (first|(go_at_call 194;refine (IX _).mono ?_;rintro e w1 ⟨rfl,o1,o2,o3,o4,o5,rfl⟩;simp only [plV,Act.val])|with_reducible refine c8 ?_|with_reducible refine c16 ?_|with_reducible refine cRd fun o=>?_);go_region_held3 (fun w'=>w'.cell? (Aq b 1)=some (Iq h1)/\w'.cell? (Aq b 3)=some (Iq h3)/\w'.cell? (Aq b 4)=some (Iq h4)) (go_keep) (fail);all_goals go_wp2
 all_goals (have hr:=results148;exact bodyPost_ret zrp rfl ⟨rfl,zg⟩)
theorem ziE(op:BA)(A X Y S P PC cyc:Int)(jam:Bool)(x0:0<=X/\X<256)(y0:0<=Y/\Y<256)(c0:0<=PC/\PC<65536)(b cap:Nat)(h:List Int)(hn:3<=h.length)(hl:h.length<=100)(w:World)(H:HdAt w b h):Cq 148 #[cdV op (b3 97 98 120),.agg #[Iq A,Iq X,Iq Y,Iq S,Iq P,Iq PC,Iq cyc,Tq jam],hdV b h cap] w (plV (zZ op (hd h 1) (hd h 2) X (h.length:Int) 3)) fun w'=>Bq w w':=by
 have:=x0;have:=y0;have:=c0;have al:=yB;have sc:=yV;have l1:=H.lt;have c1:=H.c 1 zza;have p1:=H.r 1 zza;have c2:=H.c 2 zza;have p2:=H.r 2 zza;have IX:=fun w=>XZ op (b3 97 98 120) (hd h 1) (hd h 2) X (h.length:Int) 3 p1 p2 x0 zza w
 generalize zZ op (hd h 1) (hd h 2) X (h.length:Int) 3=q at*;obtain ⟨q1,q2,⟨q3,q4,q5,q6⟩,q7⟩:=q;unfold plV Act.val at IX;dsimp only at IX;generalize hd h 1=h1 at*;have d1:=fun o1 o2 o3=>(yy w o1 o2 o3 b 1 l1).trans c1
 generalize hd h 2=h2 at*;have d2:=fun o1 o2 o3=>(yy w o1 o2 o3 b 2 l1).trans c2
 clear H;unfold cdV hdV b3 at*;generalize h.length=n at*;have m1:¬(n:Int)=1:=by omega
 have m2:(1:Int)<(n:Int):=by omega
 have m3:¬(n:Int)=2:=by omega
 have m4:(2:Int)<(n:Int):=by omega
 go_enter func148,ntmps148;go_wp2_with (first|(go_at_call 194;refine (IX _).mono ?_;rintro e w1 ⟨rfl,o1,o2,o3,o4,o5,rfl⟩;skip)|with_reducible refine c8 ?_|with_reducible refine c16 ?_|with_reducible refine cRd fun o=>?_);go_region_with (first|(go_at_call 194;refine (IX _).mono ?_;rintro e w1 ⟨rfl,o1,o2,o3,o4,o5,rfl⟩;skip)|with_reducible refine c8 ?_|with_reducible refine c16 ?_|with_reducible refine cRd fun o=>?_);all_goals go_wp2_with (first|(go_at_call 194;refine (IX _).mono ?_;rintro e w1 ⟨rfl,o1,o2,o3,o4,o5,rfl⟩;skip)|with_reducible refine c8 ?_|with_reducible refine c16 ?_|with_reducible refine cRd fun o=>?_)
 all_goals (have hr:=results148;exact bodyPost_ret zrp rfl ⟨rfl,zg⟩)
theorem ziF(op:BA)(A X Y S P PC cyc:Int)(jam:Bool)(x0:0<=X/\X<256)(y0:0<=Y/\Y<256)(c0:0<=PC/\PC<65536)(b cap:Nat)(h:List Int)(hn:3<=h.length)(hl:h.length<=100)(w:World)(H:HdAt w b h):Cq 148 #[cdV op (b3 97 98 121),.agg #[Iq A,Iq X,Iq Y,Iq S,Iq P,Iq PC,Iq cyc,Tq jam],hdV b h cap] w (plV (zZ op (hd h 1) (hd h 2) Y (h.length:Int) 3)) fun w'=>Bq w w':=by
 have:=x0;have:=y0;have:=c0;have al:=yB;have sc:=yV;have l1:=H.lt;have c1:=H.c 1 zza;have p1:=H.r 1 zza;have c2:=H.c 2 zza;have p2:=H.r 2 zza;have IX:=fun w=>XZ op (b3 97 98 121) (hd h 1) (hd h 2) Y (h.length:Int) 3 p1 p2 y0 zza w
 generalize zZ op (hd h 1) (hd h 2) Y (h.length:Int) 3=q at*;obtain ⟨q1,q2,⟨q3,q4,q5,q6⟩,q7⟩:=q;unfold plV Act.val at IX;dsimp only at IX;generalize hd h 1=h1 at*;have d1:=fun o1 o2 o3=>(yy w o1 o2 o3 b 1 l1).trans c1
 generalize hd h 2=h2 at*;have d2:=fun o1 o2 o3=>(yy w o1 o2 o3 b 2 l1).trans c2
 clear H;unfold cdV hdV b3 at*;generalize h.length=n at*;have m1:¬(n:Int)=1:=by omega
 have m2:(1:Int)<(n:Int):=by omega
 have m3:¬(n:Int)=2:=by omega
 have m4:(2:Int)<(n:Int):=by omega
 go_enter func148,ntmps148;go_wp2_with (first|(go_at_call 194;refine (IX _).mono ?_;rintro e w1 ⟨rfl,o1,o2,o3,o4,o5,rfl⟩;skip)|with_reducible refine c8 ?_|with_reducible refine c16 ?_|with_reducible refine cRd fun o=>?_);go_region_with (first|(go_at_call 194;refine (IX _).mono ?_;rintro e w1 ⟨rfl,o1,o2,o3,o4,o5,rfl⟩;skip)|with_reducible refine c8 ?_|with_reducible refine c16 ?_|with_reducible refine cRd fun o=>?_);all_goals go_wp2_with (first|(go_at_call 194;refine (IX _).mono ?_;rintro e w1 ⟨rfl,o1,o2,o3,o4,o5,rfl⟩;skip)|with_reducible refine c8 ?_|with_reducible refine c16 ?_|with_reducible refine cRd fun o=>?_)
 all_goals (have hr:=results148;exact bodyPost_ret zrp rfl ⟨rfl,zg⟩)
theorem ziG(op:BA)(A X Y S P PC cyc:Int)(jam:Bool)(x0:0<=X/\X<256)(y0:0<=Y/\Y<256)(c0:0<=PC/\PC<65536)(b cap:Nat)(h:List Int)(hn:4<=h.length)(hl:h.length<=100)(w:World)(H:HdAt w b h):Cq 148 #[cdV op (b3 105 122 121),.agg #[Iq A,Iq X,Iq Y,Iq S,Iq P,Iq PC,Iq cyc,Tq jam],hdV b h cap] w (plV (zZ op (hd h 2) (hd h 3) Y (h.length:Int) 4)) fun w'=>Bq w w':=by
 have:=x0;have:=y0;have:=c0;have al:=yB;have sc:=yV;have l1:=H.lt;have c1:=H.c 1 zza;have p1:=H.r 1 zza;have c2:=H.c 2 zza;have p2:=H.r 2 zza;have c3:=H.c 3 zza;have p3:=H.r 3 zza;have IX:=fun w=>XZ op (b3 105 122 121) (hd h 2) (hd h 3) Y (h.length:Int) 4 p2 p3 y0 zza w
 generalize zZ op (hd h 2) (hd h 3) Y (h.length:Int) 4=q at*;obtain ⟨q1,q2,⟨q3,q4,q5,q6⟩,q7⟩:=q;unfold plV Act.val at IX;dsimp only at IX;generalize hd h 1=h1 at*;have d1:=fun o1 o2 o3=>(yy w o1 o2 o3 b 1 l1).trans c1
 generalize hd h 2=h2 at*;have d2:=fun o1 o2 o3=>(yy w o1 o2 o3 b 2 l1).trans c2
 generalize hd h 3=h3 at*;have d3:=fun o1 o2 o3=>(yy w o1 o2 o3 b 3 l1).trans c3
 clear H;unfold cdV hdV b3 at*;generalize h.length=n at*;have m1:¬(n:Int)=1:=by omega
 have m2:(1:Int)<(n:Int):=by omega
 have m3:¬(n:Int)=2:=by omega
 have m4:(2:Int)<(n:Int):=by omega
 have m5:(3:Int)<(n:Int):=by omega
 have m6:¬(n:Int)<4:=by omega
 go_enter func148,ntmps148;go_wp2_with (first|(go_at_call 194;refine (IX _).mono ?_;rintro e w1 ⟨rfl,o1,o2,o3,o4,o5,rfl⟩;skip)|with_reducible refine c8 ?_|with_reducible refine c16 ?_|with_reducible refine cRd fun o=>?_);go_region_with (first|(go_at_call 194;refine (IX _).mono ?_;rintro e w1 ⟨rfl,o1,o2,o3,o4,o5,rfl⟩;skip)|with_reducible refine c8 ?_|with_reducible refine c16 ?_|with_reducible refine cRd fun o=>?_);all_goals go_wp2_with (first|(go_at_call 194;refine (IX _).mono ?_;rintro e w1 ⟨rfl,o1,o2,o3,o4,o5,rfl⟩;skip)|with_reducible refine c8 ?_|with_reducible refine c16 ?_|with_reducible refine cRd fun o=>?_)
 all_goals (have hr:=results148;exact bodyPost_ret zrp rfl ⟨rfl,zg⟩)
