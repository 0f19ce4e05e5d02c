import Derived.Handy
import Derived.Test.YtcgjliflnnklnaaGreatRwGz
namespace Go.Proofs.YtcgjliflnnklnaaGreat
open Go.RowKit Tryz
set_option maxRecDepth 100000
set_option maxHeartbeats 2000000
theorem zjk(md:BA)(A X Y S P PC cyc:Int)(jam:Bool)(b cap:Nat)(h:List Int)(a:Int)(fr:Nat)(a0:h.length<=100/\fr<=100)(hn:h.length=fr)(w:World):Cq 149 #[cdV (b3 83 84 65) md,.agg #[Iq A,Iq X,Iq Y,Iq S,Iq P,Iq PC,Iq cyc,Tq jam],hdV b h cap,Iq a,Iq (fr:Int)] w (zi (wrR a A)) fun w'=>Bq w w':=by
 have:=a0;have KD:=fun w=>vV (b3 83 84 65) md w
 rw [show zY (b3 83 84 65)=119 from rfl] at KD;have hz:IntKind.i64.wrap ((h.length:Int)-(fr:Int))=0:=by rw [IntKind.wrap_i64];omega
 unfold b3 at*;have s2:∀q,(⟨#[83,84,65]⟩:ByteArray)[2]'q=65:=fun _=>rfl
 unfold cdV hdV at*;generalize h.length=m at*;go_enter func149,ntmps149;go_wp2_with (first|(go_at_call 157;refine (KD _).mono ?_;rintro e w1 ⟨rfl,o1,o2,o3,rfl⟩)|(go_at_call 156;refine (CHG _).mono ?_;rintro e w1 ⟨rfl,hw⟩;subst hw)|with_reducible refine cRd fun o=>?_|with_reducible refine cWr fun o=>?_|with_reducible refine cDn fun o=>?_);go_region_with (first|(go_at_call 157;refine (KD _).mono ?_;rintro e w1 ⟨rfl,o1,o2,o3,rfl⟩)|(go_at_call 156;refine (CHG _).mono ?_;rintro e w1 ⟨rfl,hw⟩;subst hw)|with_reducible refine cRd fun o=>?_|with_reducible refine cWr fun o=>?_|with_reducible refine cDn fun o=>?_);all_goals go_wp2_with (first|(go_at_call 157;refine (KD _).mono ?_;rintro e w1 ⟨rfl,o1,o2,o3,rfl⟩)|(go_at_call 156;refine (CHG _).mono ?_;rintro e w1 ⟨rfl,hw⟩;subst hw)|with_reducible refine cRd fun o=>?_|with_reducible refine cWr fun o=>?_|with_reducible refine cDn fun o=>?_)
 all_goals (have hr:=results149;exact bodyPost_ret zr rfl ⟨rfl,zg⟩)
theorem zjl(md:BA)(A X Y S P PC cyc:Int)(jam:Bool)(b cap:Nat)(h:List Int)(a:Int)(fr:Nat)(a0:h.length<=100/\fr<=100)(hn:h.length=fr)(w:World):Cq 149 #[cdV (b3 83 84 88) md,.agg #[Iq A,Iq X,Iq Y,Iq S,Iq P,Iq PC,Iq cyc,Tq jam],hdV b h cap,Iq a,Iq (fr:Int)] w (zi (wrR a X)) fun w'=>Bq w w':=by
 have:=a0;have KD:=fun w=>vV (b3 83 84 88) md w
 rw [show zY (b3 83 84 88)=119 from rfl] at KD;have hz:IntKind.i64.wrap ((h.length:Int)-(fr:Int))=0:=by rw [IntKind.wrap_i64];omega
 unfold b3 at*;have s2:∀q,(⟨#[83,84,88]⟩:ByteArray)[2]'q=88:=fun _=>rfl
 unfold cdV hdV at*;generalize h.length=m at*;go_enter func149,ntmps149;go_wp2_with (first|(go_at_call 157;refine (KD _).mono ?_;rintro e w1 ⟨rfl,o1,o2,o3,rfl⟩)|(go_at_call 156;refine (CHG _).mono ?_;rintro e w1 ⟨rfl,hw⟩;subst hw)|with_reducible refine cRd fun o=>?_|with_reducible refine cWr fun o=>?_|with_reducible refine cDn fun o=>?_);go_region_with (first|(go_at_call 157;refine (KD _).mono ?_;rintro e w1 ⟨rfl,o1,o2,o3,rfl⟩)|(go_at_call 156;refine (CHG _).mono ?_;rintro e w1 ⟨rfl,hw⟩;subst hw)|with_reducible refine cRd fun o=>?_|with_reducible refine cWr fun o=>?_|with_reducible refine cDn fun o=>?_);all_goals go_wp2_with (first|(go_at_call 157;refine (KD _).mono ?_;rintro e w1 ⟨rfl,o1,o2,o3,rfl⟩)|(go_at_call 156;refine (CHG _).mono ?_;rintro e w1 ⟨rfl,hw⟩;subst hw)|with_reducible refine cRd fun o=>?_|with_reducible refine cWr fun o=>?_|with_reducible refine cDn fun o=>?_)
 all_goals (have hr:=results149;exact bodyPost_ret zr rfl ⟨rfl,zg⟩)
theorem zjm(md:BA)(A X Y S P PC cyc:Int)(jam:Bool)(b cap:Nat)(h:List Int)(a:Int)(fr:Nat)(a0:h.length<=100/\fr<=100)(hn:h.length=fr)(w:World):Cq 149 #[cdV (b3 83 84 89) md,.agg #[Iq A,Iq X,Iq Y,Iq S,Iq P,Iq PC,Iq cyc,Tq jam],hdV b h cap,Iq a,Iq (fr:Int)] w (zi (wrR a Y)) fun w'=>Bq w w':=by
 have:=a0;have KD:=fun w=>vV (b3 83 84 89) md w
 rw [show zY (b3 83 84 89)=119 from rfl] at KD;have hz:IntKind.i64.wrap ((h.length:Int)-(fr:Int))=0:=by rw [IntKind.wrap_i64];omega
 unfold b3 at*;have s2:∀q,(⟨#[83,84,89]⟩:ByteArray)[2]'q=89:=fun _=>rfl
 unfold cdV hdV at*;generalize h.length=m at*;go_enter func149,ntmps149;go_wp2_with (first|(go_at_call 157;refine (KD _).mono ?_;rintro e w1 ⟨rfl,o1,o2,o3,rfl⟩)|(go_at_call 156;refine (CHG _).mono ?_;rintro e w1 ⟨rfl,hw⟩;subst hw)|with_reducible refine cRd fun o=>?_|with_reducible refine cWr fun o=>?_|with_reducible refine cDn fun o=>?_);go_region_with (first|(go_at_call 157;refine (KD _).mono ?_;rintro e w1 ⟨rfl,o1,o2,o3,rfl⟩)|(go_at_call 156;refine (CHG _).mono ?_;rintro e w1 ⟨rfl,hw⟩;subst hw)|with_reducible refine cRd fun o=>?_|with_reducible refine cWr fun o=>?_|with_reducible refine cDn fun o=>?_);all_goals go_wp2_with (first|(go_at_call 157;refine (KD _).mono ?_;rintro e w1 ⟨rfl,o1,o2,o3,rfl⟩)|(go_at_call 156;refine (CHG _).mono ?_;rintro e w1 ⟨rfl,hw⟩;subst hw)|with_reducible refine cRd fun o=>?_|with_reducible refine cWr fun o=>?_|with_reducible refine cDn fun o=>?_)
 all_goals (have hr:=results149;exact bodyPost_ret zr rfl ⟨rfl,zg⟩)
