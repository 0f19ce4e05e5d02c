import Derived.Handy
import Derived.Test.YtcgjliflnnklnaaGreatJ05
namespace Go.Proofs.YtcgjliflnnklnaaGreat
open Go.RowKit Tryz
set_option maxRecDepth 100000
set_option maxHeartbeats 2000000
theorem zj2{p:Prop} (q:p:=by
 have:=a0;have KD:=fun w=>vV op md w
 rw [hk] at KD;have hz:IntKind.i64.wrap ((h.length:Int)-(fr:Int))=0:=by rw [IntKind.wrap_i64];omega
 unfold cdV hdV at*;generalize h.length=m at*;go_enter func149,ntmps149;go_wp2_with (first|(go_at_call 157;refine (KD _).mono ?_;rintro e w1 ⟨rfl,o1,o2,o3,rfl⟩)|(go_at_call 156;refine (CHG _).mono ?_;rintro e w1 ⟨rfl,hw⟩;subst hw)|with_reducible refine cRd fun o=>?_|with_reducible refine cWr fun o=>?_|with_reducible refine cDn fun o=>?_);all_goals (have hr:=results149;exact bodyPost_ret zr rfl ⟨rfl,zg⟩)):p:=q
theorem zmS(op:BA)(md:BA)(A X Y S P PC cyc:Int)(jam:Bool)(b cap:Nat)(h:List Int)(a:Int)(fr:Nat)(a0:h.length<=100/\fr<=100)(hk:zY op=114)(hn:h.length=fr)(w:World):Cq 149 #[cdV op md,.agg #[Iq A,Iq X,Iq Y,Iq S,Iq P,Iq PC,Iq cyc,Tq jam],hdV b h cap,Iq a,Iq (fr:Int)] w (zi (rdR a)) fun w'=>Bq w w':=zj2
theorem zj3{p:Prop} (q:p:=by
 have:=a0;have KD:=fun w=>vV op md w
 rw [hk] at KD;obtain ⟨n,hz⟩:∃n,IntKind.i64.wrap ((h.length:Int)-(fr:Int))=n:=⟨_,rfl⟩
 have hz2:n=(h.length:Int)-(fr:Int):=by rw [<-hz,IntKind.wrap_i64];omega
 have hz3:¬n=0:=by omega
 clear hz2;unfold cdV hdV at*;generalize h.length=m at*;go_enter func149,ntmps149;go_wp2_with (first|(go_at_call 157;refine (KD _).mono ?_;rintro e w1 ⟨rfl,o1,o2,o3,rfl⟩)|(go_at_call 156;refine (CHG _).mono ?_;rintro e w1 ⟨rfl,hw⟩;subst hw)|with_reducible refine cRd fun o=>?_|with_reducible refine cWr fun o=>?_|with_reducible refine cDn fun o=>?_);all_goals (have hr:=results149;exact bodyPost_ret zr rfl ⟨rfl,zg⟩)):p:=q
theorem zmT(op:BA)(md:BA)(A X Y S P PC cyc:Int)(jam:Bool)(b cap:Nat)(h:List Int)(a:Int)(fr:Nat)(a0:h.length<=100/\fr<=100)(hk:zY op=114)(hn:¬h.length=fr)(w:World):Cq 149 #[cdV op md,.agg #[Iq A,Iq X,Iq Y,Iq S,Iq P,Iq PC,Iq cyc,Tq jam],hdV b h cap,Iq a,Iq (fr:Int)] w (zi (dnR)) fun w'=>Bq w w':=zj3
theorem zmU(op:BA)(md:BA)(A X Y S P PC cyc:Int)(jam:Bool)(b cap:Nat)(h:List Int)(a:Int)(fr:Nat)(a0:h.length<=100/\fr<=100)(hk:zY op=119)(hn:¬h.length=fr)(w:World):Cq 149 #[cdV op md,.agg #[Iq A,Iq X,Iq Y,Iq S,Iq P,Iq PC,Iq cyc,Tq jam],hdV b h cap,Iq a,Iq (fr:Int)] w (zi (dnR)) fun w'=>Bq w w':=zj3
theorem zmV(op:BA)(md:BA)(A X Y S P PC cyc:Int)(jam:Bool)(b cap:Nat)(h:List Int)(a:Int)(fr:Nat)(a0:h.length<=100/\fr<=100)(hk:zY op=99)(hn:h.length=fr)(w:World):Cq 149 #[cdV op md,.agg #[Iq A,Iq X,Iq Y,Iq S,Iq P,Iq PC,Iq cyc,Tq jam],hdV b h cap,Iq a,Iq (fr:Int)] w (zi (rdR a)) fun w'=>Bq w w':=zj2
theorem zmW(op:BA)(md:BA)(A X Y S P PC cyc:Int)(jam:Bool)(b cap:Nat)(h:List Int)(a:Int)(fr:Nat)(a0:h.length<=100/\fr<=100)(hk:zY op=99)(hn:¬h.length=fr)(hn1:¬h.length=fr+1)(hn2:¬h.length=fr+2)(w:World):Cq 149 #[cdV op md,.agg #[Iq A,Iq X,Iq Y,Iq S,Iq P,Iq PC,Iq cyc,Tq jam],hdV b h cap,Iq a,Iq (fr:Int)] w (zi (dnR)) fun w'=>Bq w w':=by
 have:=a0;have KD:=fun w=>vV op md w
 rw [hk] at KD;obtain ⟨n,hz⟩:∃n,IntKind.i64.wrap ((h.length:Int)-(fr:Int))=n:=⟨_,rfl⟩
 have hz2:n=(h.length:Int)-(fr:Int):=by rw [<-hz,IntKind.wrap_i64];omega
 have hz3:¬n=0:=by omega
 have hz4:¬n=1:=by omega
 have hz5:¬n=2:=by omega
 clear hz2;unfold cdV hdV at*;generalize h.length=m at*;go_enter func149,ntmps149;go_wp2_with (first|(go_at_call 157;refine (KD _).mono ?_;rintro e w1 ⟨rfl,o1,o2,o3,rfl⟩)|(go_at_call 156;refine (CHG _).mono ?_;rintro e w1 ⟨rfl,hw⟩;subst hw)|with_reducible refine cRd fun o=>?_|with_reducible refine cWr fun o=>?_|with_reducible refine cDn fun o=>?_);all_goals (have hr:=results149;exact bodyPost_ret zr rfl ⟨rfl,zg⟩)
theorem zmX(op:BA)(md:BA)(A X Y S P PC cyc:Int)(jam:Bool)(b cap:Nat)(h:List Int)(a:Int)(fr:Nat)(a0:h.length<=100/\fr<=100)(hk:zY op=99)(hn:h.length=fr+1)(w:World)(H:HdAt w b h):Cq 149 #[cdV op md,.agg #[Iq A,Iq X,Iq Y,Iq S,Iq P,Iq PC,Iq cyc,Tq jam],hdV b h cap,Iq a,Iq (fr:Int)] w (zi (wrR a (hd h fr))) fun w'=>Bq w w':=by
 have:=a0;have KD:=fun w=>vV op md w
 rw [hk] at KD;have hz:IntKind.i64.wrap ((h.length:Int)-(fr:Int))=1:=by rw [IntKind.wrap_i64];omega
 have l1:=H.lt;have cv:=H.c fr zza;have pv:=H.r fr zza;have i1:(fr:Int)<(h.length:Int):=by omega
 have i2:fr<h.length:=by omega
 unfold cdV hdV at*;generalize hd h fr=hv at*;have d3:=fun o1 o2 o3=>(yy w o1 o2 o3 b fr l1).trans cv
 have d6:=fun o1 o2 o3 o4 o5 o6=>(Jg w o1 o2 o3 o4 o5 o6 b fr l1).trans cv
 clear H;generalize h.length=m at*;go_enter func149,ntmps149;go_wp2_with (first|(go_at_call 157;refine (KD _).mono ?_;rintro e w1 ⟨rfl,o1,o2,o3,rfl⟩)|(go_at_call 156;refine (CHG _).mono ?_;rintro e w1 ⟨rfl,hw⟩;subst hw)|with_reducible refine cRd fun o=>?_|with_reducible refine cWr fun o=>?_|with_reducible refine cDn fun o=>?_);all_goals (have hr:=results149;exact bodyPost_ret zr rfl ⟨rfl,zg⟩)
theorem zmY(op:BA)(md:BA)(A X Y S P PC cyc:Int)(jam:Bool)(b cap:Nat)(h:List Int)(a:Int)(fr:Nat)(a0:h.length<=100/\fr<=100)(hk:zY op=99)(hop:op∈lC)(p0:0<=P/\P<256)(hn:h.length=fr+2)(w:World)(H:HdAt w b h):Cq 149 #[cdV op md,.agg #[Iq A,Iq X,Iq Y,Iq S,Iq P,Iq PC,Iq cyc,Tq jam],hdV b h cap,Iq a,Iq (fr:Int)] w (zi (wrR a (zF op (hd h fr) P).1)) fun w'=>Bq w w':=by
 have:=a0;have KD:=fun w=>vV op md w
 rw [hk] at KD;have hz:IntKind.i64.wrap ((h.length:Int)-(fr:Int))=2:=by rw [IntKind.wrap_i64];omega
 have l1:=H.lt;have cv:=H.c fr zza;have pv:=H.r fr zza;have i1:(fr:Int)<(h.length:Int):=by omega
 have i2:fr<h.length:=by omega
 have CHG:=fun w=>V8 op hop (hd h fr) P pv.1 pv.2 p0.1 p0.2 w
 generalize zF op (hd h fr) P=cq at*;obtain ⟨cq1,cq2⟩:=cq;unfold chV at CHG;dsimp only at CHG⊢;unfold cdV hdV at*;generalize hd h fr=hv at*;have d3:=fun o1 o2 o3=>(yy w o1 o2 o3 b fr l1).trans cv
 have d6:=fun o1 o2 o3 o4 o5 o6=>(Jg w o1 o2 o3 o4 o5 o6 b fr l1).trans cv
 clear H;generalize h.length=m at*;go_enter func149,ntmps149;go_wp2_with (first|(go_at_call 157;refine (KD _).mono ?_;rintro e w1 ⟨rfl,o1,o2,o3,rfl⟩)|(go_at_call 156;refine (CHG _).mono ?_;rintro e w1 ⟨rfl,hw⟩;subst hw)|with_reducible refine cRd fun o=>?_|with_reducible refine cWr fun o=>?_|with_reducible refine cDn fun o=>?_);go_region_with (first|(go_at_call 157;refine (KD _).mono ?_;rintro e w1 ⟨rfl,o1,o2,o3,rfl⟩)|(go_at_call 156;refine (CHG _).mono ?_;rintro e w1 ⟨rfl,hw⟩;subst hw)|with_reducible refine cRd fun o=>?_|with_reducible refine cWr fun o=>?_|with_reducible refine cDn fun o=>?_);all_goals go_wp2_with (first|(go_at_call 157;refine (KD _).mono ?_;rintro e w1 ⟨rfl,o1,o2,o3,rfl⟩)|(go_at_call 156;refine (CHG _).mono ?_;rintro e w1 ⟨rfl,hw⟩;subst hw)|with_reducible refine cRd fun o=>?_|with_reducible refine cWr fun o=>?_|with_reducible refine cDn fun o=>?_)
 all_goals (have hr:=results149;exact bodyPost_ret zr rfl ⟨rfl,zg⟩)
