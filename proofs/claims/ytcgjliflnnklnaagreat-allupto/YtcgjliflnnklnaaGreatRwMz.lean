import Derived.Handy
import Derived.Test.YtcgjliflnnklnaaGreatJ05
import Derived.Test.YtcgjliflnnklnaaGreatRwLz
namespace Go.Proofs.YtcgjliflnnklnaaGreat
open Go.RowKit Tryz
set_option maxRecDepth 100000
set_option maxHeartbeats 2000000
theorem VS{p:Prop} (q:p:=by
 have:=x0;have:=y0;have:=c0;have al:=yB;have sc:=yV;unfold cdV hdV at*;(try unfold b2 at*)
 (try unfold b3 at*)
 rw [hn];go_enter func148,ntmps148;go_wp2_with (first|(go_at_call 194;refine (IX _).mono ?_;rintro e w1 ⟨rfl,o1,o2,o3,o4,o5,rfl⟩;simp only [plV,Act.val])|with_reducible refine c8 ?_|with_reducible refine c16 ?_|with_reducible refine cRd fun o=>?_);go_region_with (fail);all_goals go_wp2
 all_goals (have hr:=results148;exact bodyPost_ret zrp rfl ⟨rfl,zg⟩)):p:=q
theorem zae{p:Prop} (q:p:=by
 have:=x0;have:=y0;have:=c0;have al:=yB;have sc:=yV;have l1:=H.lt;have c1:=H.c 1 zza;have p1:=H.r 1 zza;generalize hd h 1=h1 at*;have d1:=fun o1 o2 o3=>(yy w o1 o2 o3 b 1 l1).trans c1
 clear H;unfold cdV hdV at*;(try unfold b2 at*)
 (try unfold b3 at*)
 rw [hn];go_enter func148,ntmps148;go_wp2_with (first|(go_at_call 194;refine (IX _).mono ?_;rintro e w1 ⟨rfl,o1,o2,o3,o4,o5,rfl⟩;simp only [plV,Act.val])|with_reducible refine c8 ?_|with_reducible refine c16 ?_|with_reducible refine cRd fun o=>?_);all_goals (have hr:=results148;exact bodyPost_ret zrp rfl ⟨rfl,zg⟩)):p:=q
theorem zm5{p:Prop} (q:p:=by
 have:=x0;have:=y0;have:=c0;have al:=yB;have sc:=yV;have l1:=H.lt;have c1:=H.c 1 zza;have p1:=H.r 1 zza;generalize hd h 1=h1 at*;have d1:=fun o1 o2 o3=>(yy w o1 o2 o3 b 1 l1).trans c1
 clear H;unfold cdV hdV at*;(try unfold b2 at*)
 (try unfold b3 at*)
 generalize h.length=n at*;have m1:¬(n:Int)=1:=by omega
 have m2:(1:Int)<(n:Int):=by omega
 have m3:¬(n:Int)=2:=by omega
 have m4:(2:Int)<(n:Int):=by omega
 go_enter func148,ntmps148;go_wp2_with (first|(go_at_call 194;refine (IX _).mono ?_;rintro e w1 ⟨rfl,o1,o2,o3,o4,o5,rfl⟩;simp only [plV,Act.val])|with_reducible refine c8 ?_|with_reducible refine c16 ?_|with_reducible refine cRd fun o=>?_);all_goals (have hr:=results148;exact bodyPost_ret zrp rfl ⟨rfl,zg⟩)):p:=q
theorem zk5(op:BA)(A X Y S P PC cyc:Int)(jam:Bool)(x0:0<=X/\X<256)(y0:0<=Y/\Y<256)(c0:0<=PC/\PC<65536)(b cap:Nat)(h:List Int)(hn:h.length=1)(w:World):Cq 148 #[cdV op (b2 122 112),.agg #[Iq A,Iq X,Iq Y,Iq S,Iq P,Iq PC,Iq cyc,Tq jam],hdV b h cap] w (plV (0,0,(rdR (PC+1+1-1)).1,false)) fun w'=>Bq w w':=VS
theorem zhI(op:BA)(A X Y S P PC cyc:Int)(jam:Bool)(x0:0<=X/\X<256)(y0:0<=Y/\Y<256)(c0:0<=PC/\PC<65536)(b cap:Nat)(h:List Int)(hn:h.length=1)(w:World):Cq 148 #[cdV op (b3 122 112 120),.agg #[Iq A,Iq X,Iq Y,Iq S,Iq P,Iq PC,Iq cyc,Tq jam],hdV b h cap] w (plV (0,0,(rdR (PC+1+1-1)).1,false)) fun w'=>Bq w w':=VS
theorem zhJ(op:BA)(A X Y S P PC cyc:Int)(jam:Bool)(x0:0<=X/\X<256)(y0:0<=Y/\Y<256)(c0:0<=PC/\PC<65536)(b cap:Nat)(h:List Int)(hn:h.length=1)(w:World):Cq 148 #[cdV op (b3 122 112 121),.agg #[Iq A,Iq X,Iq Y,Iq S,Iq P,Iq PC,Iq cyc,Tq jam],hdV b h cap] w (plV (0,0,(rdR (PC+1+1-1)).1,false)) fun w'=>Bq w w':=VS
theorem zhK(op:BA)(A X Y S P PC cyc:Int)(jam:Bool)(x0:0<=X/\X<256)(y0:0<=Y/\Y<256)(c0:0<=PC/\PC<65536)(b cap:Nat)(h:List Int)(hn:h.length=1)(w:World):Cq 148 #[cdV op (b3 97 98 115),.agg #[Iq A,Iq X,Iq Y,Iq S,Iq P,Iq PC,Iq cyc,Tq jam],hdV b h cap] w (plV (0,0,(rdR (PC+1+1-1)).1,false)) fun w'=>Bq w w':=VS
theorem zhL(op:BA)(A X Y S P PC cyc:Int)(jam:Bool)(x0:0<=X/\X<256)(y0:0<=Y/\Y<256)(c0:0<=PC/\PC<65536)(b cap:Nat)(h:List Int)(hn:h.length=2)(w:World):Cq 148 #[cdV op (b3 97 98 115),.agg #[Iq A,Iq X,Iq Y,Iq S,Iq P,Iq PC,Iq cyc,Tq jam],hdV b h cap] w (plV (0,0,(rdR (PC+1+2-1)).1,false)) fun w'=>Bq w w':=VS
theorem zhM(op:BA)(A X Y S P PC cyc:Int)(jam:Bool)(x0:0<=X/\X<256)(y0:0<=Y/\Y<256)(c0:0<=PC/\PC<65536)(b cap:Nat)(h:List Int)(hn:h.length=1)(w:World):Cq 148 #[cdV op (b3 97 98 120),.agg #[Iq A,Iq X,Iq Y,Iq S,Iq P,Iq PC,Iq cyc,Tq jam],hdV b h cap] w (plV (0,0,(rdR (PC+1+1-1)).1,false)) fun w'=>Bq w w':=VS
theorem zhN(op:BA)(A X Y S P PC cyc:Int)(jam:Bool)(x0:0<=X/\X<256)(y0:0<=Y/\Y<256)(c0:0<=PC/\PC<65536)(b cap:Nat)(h:List Int)(hn:h.length=2)(w:World):Cq 148 #[cdV op (b3 97 98 120),.agg #[Iq A,Iq X,Iq Y,Iq S,Iq P,Iq PC,Iq cyc,Tq jam],hdV b h cap] w (plV (0,0,(rdR (PC+1+2-1)).1,false)) fun w'=>Bq w w':=VS
theorem zhO(op:BA)(A X Y S P PC cyc:Int)(jam:Bool)(x0:0<=X/\X<256)(y0:0<=Y/\Y<256)(c0:0<=PC/\PC<65536)(b cap:Nat)(h:List Int)(hn:h.length=1)(w:World):Cq 148 #[cdV op (b3 97 98 121),.agg #[Iq A,Iq X,Iq Y,Iq S,Iq P,Iq PC,Iq cyc,Tq jam],hdV b h cap] w (plV (0,0,(rdR (PC+1+1-1)).1,false)) fun w'=>Bq w w':=VS
theorem zhP(op:BA)(A X Y S P PC cyc:Int)(jam:Bool)(x0:0<=X/\X<256)(y0:0<=Y/\Y<256)(c0:0<=PC/\PC<65536)(b cap:Nat)(h:List Int)(hn:h.length=2)(w:World):Cq 148 #[cdV op (b3 97 98 121),.agg #[Iq A,Iq X,Iq Y,Iq S,Iq P,Iq PC,Iq cyc,Tq jam],hdV b h cap] w (plV (0,0,(rdR (PC+1+2-1)).1,false)) fun w'=>Bq w w':=VS
theorem zhQ(op:BA)(A X Y S P PC cyc:Int)(jam:Bool)(x0:0<=X/\X<256)(y0:0<=Y/\Y<256)(c0:0<=PC/\PC<65536)(b cap:Nat)(h:List Int)(hn:h.length=1)(w:World):Cq 148 #[cdV op (b3 105 122 120),.agg #[Iq A,Iq X,Iq Y,Iq S,Iq P,Iq PC,Iq cyc,Tq jam],hdV b h cap] w (plV (0,0,(rdR (PC+1+1-1)).1,false)) fun w'=>Bq w w':=VS
theorem zhR(op:BA)(A X Y S P PC cyc:Int)(jam:Bool)(x0:0<=X/\X<256)(y0:0<=Y/\Y<256)(c0:0<=PC/\PC<65536)(b cap:Nat)(h:List Int)(hn:h.length=1)(w:World):Cq 148 #[cdV op (b3 105 122 121),.agg #[Iq A,Iq X,Iq Y,Iq S,Iq P,Iq PC,Iq cyc,Tq jam],hdV b h cap] w (plV (0,0,(rdR (PC+1+1-1)).1,false)) fun w'=>Bq w w':=VS
theorem zk6(op:BA)(A X Y S P PC cyc:Int)(jam:Bool)(x0:0<=X/\X<256)(y0:0<=Y/\Y<256)(c0:0<=PC/\PC<65536)(b cap:Nat)(h:List Int)(hn:2<=h.length)(hl:h.length<=100)(w:World)(H:HdAt w b h):Cq 148 #[cdV op (b2 122 112),.agg #[Iq A,Iq X,Iq Y,Iq S,Iq P,Iq PC,Iq cyc,Tq jam],hdV b h cap] w (plV (hd h 1,2,Act.nil,true)) fun w'=>Bq w w':=by
 have:=x0;have:=y0;have:=c0;have al:=yB;have sc:=yV;have l1:=H.lt;have c1:=H.c 1 zza;have p1:=H.r 1 zza;generalize hd h 1=h1 at*;have d1:=fun o1 o2 o3=>(yy w o1 o2 o3 b 1 l1).trans c1
 clear H;unfold cdV hdV b2 at*;generalize h.length=n at*;have m1:¬(n:Int)=1:=by omega
 have m2:(1:Int)<(n:Int):=by omega
 go_enter func148,ntmps148;go_wp2_with (first|(go_at_call 194;refine (IX _).mono ?_;rintro e w1 ⟨rfl,o1,o2,o3,o4,o5,rfl⟩;simp only [plV,Act.val])|with_reducible refine c8 ?_|with_reducible refine c16 ?_|with_reducible refine cRd fun o=>?_);all_goals (have hr:=results148;exact bodyPost_ret zrp rfl ⟨rfl,zg⟩)
theorem zhS(op:BA)(A X Y S P PC cyc:Int)(jam:Bool)(x0:0<=X/\X<256)(y0:0<=Y/\Y<256)(c0:0<=PC/\PC<65536)(b cap:Nat)(h:List Int)(hn:h.length=2)(w:World)(H:HdAt w b h):Cq 148 #[cdV op (b3 122 112 120),.agg #[Iq A,Iq X,Iq Y,Iq S,Iq P,Iq PC,Iq cyc,Tq jam],hdV b h cap] w (plV (0,0,⟨hd h 1,false,0,false⟩,false)) fun w'=>Bq w w':=zae
theorem zhT(op:BA)(A X Y S P PC cyc:Int)(jam:Bool)(x0:0<=X/\X<256)(y0:0<=Y/\Y<256)(c0:0<=PC/\PC<65536)(b cap:Nat)(h:List Int)(hn:3<=h.length)(hl:h.length<=100)(w:World)(H:HdAt w b h):Cq 148 #[cdV op (b3 122 112 120),.agg #[Iq A,Iq X,Iq Y,Iq S,Iq P,Iq PC,Iq cyc,Tq jam],hdV b h cap] w (plV ((hd h 1+X)%256,3,Act.nil,true)) fun w'=>Bq w w':=zm5
theorem zhU(op:BA)(A X Y S P PC cyc:Int)(jam:Bool)(x0:0<=X/\X<256)(y0:0<=Y/\Y<256)(c0:0<=PC/\PC<65536)(b cap:Nat)(h:List Int)(hn:h.length=2)(w:World)(H:HdAt w b h):Cq 148 #[cdV op (b3 122 112 121),.agg #[Iq A,Iq X,Iq Y,Iq S,Iq P,Iq PC,Iq cyc,Tq jam],hdV b h cap] w (plV (0,0,⟨hd h 1,false,0,false⟩,false)) fun w'=>Bq w w':=zae
theorem zhV(op:BA)(A X Y S P PC cyc:Int)(jam:Bool)(x0:0<=X/\X<256)(y0:0<=Y/\Y<256)(c0:0<=PC/\PC<65536)(b cap:Nat)(h:List Int)(hn:3<=h.length)(hl:h.length<=100)(w:World)(H:HdAt w b h):Cq 148 #[cdV op (b3 122 112 121),.agg #[Iq A,Iq X,Iq Y,Iq S,Iq P,Iq PC,Iq cyc,Tq jam],hdV b h cap] w (plV ((hd h 1+Y)%256,3,Act.nil,true)) fun w'=>Bq w w':=zm5
theorem zhW(op:BA)(A X Y S P PC cyc:Int)(jam:Bool)(x0:0<=X/\X<256)(y0:0<=Y/\Y<256)(c0:0<=PC/\PC<65536)(b cap:Nat)(h:List Int)(hn:3<=h.length)(hl:h.length<=100)(w:World)(H:HdAt w b h):Cq 148 #[cdV op (b3 97 98 115),.agg #[Iq A,Iq X,Iq Y,Iq S,Iq P,Iq PC,Iq cyc,Tq jam],hdV b h cap] w (plV (hd h 1+256*hd h 2,3,Act.nil,true)) fun w'=>Bq w w':=by
 have:=x0;have:=y0;have:=c0;have al:=yB;have sc:=yV;have l1:=H.lt;have c1:=H.c 1 zza;have p1:=H.r 1 zza;have c2:=H.c 2 zza;have p2:=H.r 2 zza;generalize hd h 1=h1 at*;have d1:=fun o1 o2 o3=>(yy w o1 o2 o3 b 1 l1).trans c1
 generalize hd h 2=h2 at*;have d2:=fun o1 o2 o3=>(yy w o1 o2 o3 b 2 l1).trans c2
 clear H;unfold cdV hdV b3 at*;generalize h.length=n at*;have m1:¬(n:Int)=1:=by omega
 have m2:(1:Int)<(n:Int):=by omega
 have m3:¬(n:Int)=2:=by omega
 have m4:(2:Int)<(n:Int):=by omega
 go_enter func148,ntmps148;go_wp2_with (first|(go_at_call 194;refine (IX _).mono ?_;rintro e w1 ⟨rfl,o1,o2,o3,o4,o5,rfl⟩;simp only [plV,Act.val])|with_reducible refine c8 ?_|with_reducible refine c16 ?_|with_reducible refine cRd fun o=>?_);all_goals (have hr:=results148;exact bodyPost_ret zrp rfl ⟨rfl,zg⟩)
theorem zhX(op:BA)(A X Y S P PC cyc:Int)(jam:Bool)(x0:0<=X/\X<256)(y0:0<=Y/\Y<256)(c0:0<=PC/\PC<65536)(b cap:Nat)(h:List Int)(hn:h.length=2)(w:World)(H:HdAt w b h):Cq 148 #[cdV op (b3 105 122 120),.agg #[Iq A,Iq X,Iq Y,Iq S,Iq P,Iq PC,Iq cyc,Tq jam],hdV b h cap] w (plV (0,0,⟨(hd h 1)%256,false,0,false⟩,false)) fun w'=>Bq w w':=zae
theorem zhY(op:BA)(A X Y S P PC cyc:Int)(jam:Bool)(x0:0<=X/\X<256)(y0:0<=Y/\Y<256)(c0:0<=PC/\PC<65536)(b cap:Nat)(h:List Int)(hn:h.length=3)(w:World)(H:HdAt w b h):Cq 148 #[cdV op (b3 105 122 120),.agg #[Iq A,Iq X,Iq Y,Iq S,Iq P,Iq PC,Iq cyc,Tq jam],hdV b h cap] w (plV (0,0,⟨(hd h 1+X)%256,false,0,false⟩,false)) fun w'=>Bq w w':=zae
theorem zhZ(op:BA)(A X Y S P PC cyc:Int)(jam:Bool)(x0:0<=X/\X<256)(y0:0<=Y/\Y<256)(c0:0<=PC/\PC<65536)(b cap:Nat)(h:List Int)(hn:h.length=4)(w:World)(H:HdAt w b h):Cq 148 #[cdV op (b3 105 122 120),.agg #[Iq A,Iq X,Iq Y,Iq S,Iq P,Iq PC,Iq cyc,Tq jam],hdV b h cap] w (plV (0,0,⟨(hd h 1+X+1)%256,false,0,false⟩,false)) fun w'=>Bq w w':=zae
theorem zh0(op:BA)(A X Y S P PC cyc:Int)(jam:Bool)(x0:0<=X/\X<256)(y0:0<=Y/\Y<256)(c0:0<=PC/\PC<65536)(b cap:Nat)(h:List Int)(hn:h.length=2)(w:World)(H:HdAt w b h):Cq 148 #[cdV op (b3 105 122 121),.agg #[Iq A,Iq X,Iq Y,Iq S,Iq P,Iq PC,Iq cyc,Tq jam],hdV b h cap] w (plV (0,0,⟨(hd h 1+2-2)%256,false,0,false⟩,false)) fun w'=>Bq w w':=zae
theorem zh1(op:BA)(A X Y S P PC cyc:Int)(jam:Bool)(x0:0<=X/\X<256)(y0:0<=Y/\Y<256)(c0:0<=PC/\PC<65536)(b cap:Nat)(h:List Int)(hn:h.length=3)(w:World)(H:HdAt w b h):Cq 148 #[cdV op (b3 105 122 121),.agg #[Iq A,Iq X,Iq Y,Iq S,Iq P,Iq PC,Iq cyc,Tq jam],hdV b h cap] w (plV (0,0,⟨(hd h 1+3-2)%256,false,0,false⟩,false)) fun w'=>Bq w w':=zae
