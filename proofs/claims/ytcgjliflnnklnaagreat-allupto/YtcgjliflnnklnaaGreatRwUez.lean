import Derived.Handy
import Derived.Test.YtcgjliflnnklnaaGreatJ20
namespace Go.Proofs.YtcgjliflnnklnaaGreat
open Go.RowKit Tryz
set_option maxRecDepth 100000
set_option maxHeartbeats 20000000
def mB:List BA:=[b2 122 112,b3 122 112 120,b3 122 112 121,b3 97 98 115,b3 97 98 120,b3 97 98 121,b3 105 122 120,b3 105 122 121,b3 105 109 109]
theorem vt(op md:BA)(r:RG)(h:List Int)(hf:qz op=false)(m1:md≠(b3 105 109 112))(m2:md≠(b3 97 99 99))(m4:md≠(b3 114 101 108)):zV op md r h=(if zY op=119 then {r with PC:=(r.PC+vg md)%65536} else if zY op=99 then {r with PC:=(r.PC+vg md)%65536,P:=(zF op (hd h (h.length-3)) r.P).2} else xA op {r with PC:=(r.PC+vg md)%65536} (hd h (h.length-1))):=by
 unfold zV;rw [if_neg (by rw [hf];decide)];have e0:(if md=(b3 114 101 108)/\yS op r.P=true then yv r (hd h 1) else (r.PC+vg md)%65536)=(r.PC+vg md)%65536:=if_neg (fun q=>m4 q.1);simp only [e0];rw [if_neg m1,if_neg m2];by_cases e:zY op=119
 ·rw [if_pos (.inr e),if_pos e]
 ·rw [if_neg (by intro q;rcases q with q|q;exact m4 q;exact e q),if_neg e]
theorem znQ{md:BA}(h:md∈mB):md≠(b3 105 109 112)/\md≠(b3 97 99 99)/\md≠(b3 114 101 108):=by
 unfold mB at h;simp only [List.mem_cons,List.not_mem_nil,or_false] at h;rcases h with rfl|rfl|rfl|rfl|rfl|rfl|rfl|rfl|rfl;all_goals decide
theorem zlO(op md:BA)(hop:op∈lW)(hmd:md∈mB)(r:RG)(hr:RgR r)(b cap:Nat)(h:List Int)(hl:h.length<=100)(w:World)(H:HdAt w b h):Calls prog 96 #[cdV op md,r.val,hdV b h cap] w fun e w'=>e=.returned (zV op md r h).val/\Bq w w':=by
 have _v:=H;have _u:=hl;clear _u _v;have no:=zlZ hop;have KD:=fun w=>vV op md w
 have hk:zY op=119:=by unfold lW at hop;simp only [List.mem_cons,List.not_mem_nil,or_false] at hop;rcases hop with rfl|rfl|rfl<;>rfl
 rw [hk] at KD;have nb:=znQ hmd;unfold mB at hmd;simp only [List.mem_cons,List.not_mem_nil,or_false] at hmd;have e:zV op md r h={r with PC:=(r.PC+vg md)%65536}:=by rw [vt op md r h (jy no) nb.1 nb.2.1 nb.2.2,if_pos hk]
 clear nb;rw [e];clear e hk;obtain ⟨A,X,Y,S,P,PC,cyc,jam⟩:=r;have c0:0<=PC/\PC<65536:=hr.pc;have z0:=zK no.1;have z1:=zK no.2.1;have z2:=zK no.2.2.1;have AM:=vN op false (jA no);clear no hop H hr;unfold cdV hdV RG.val at*;generalize h.length=n at*;rcases hmd with rfl|rfl|rfl|rfl|rfl|rfl|rfl|rfl|rfl
 all_goals
  try unfold b3 at*
  try unfold b2 at*
  go_enter func96,ntmps96;go_wp2_with (first|(go_at_call 151;refine (AM _ _ _ zzc).mono ?_;rintro e w1 ⟨rfl,rfl⟩)|with_reducible refine c16 ?_|(go_at_call 157;refine (KD _).mono ?_;rintro e w1 ⟨rfl,o1,o2,o3,rfl⟩));all_goals (try (go_quiet (fail)))
  all_goals (try (go_wp2_with (first|(go_at_call 151;refine (AM _ _ _ zzc).mono ?_;rintro e w1 ⟨rfl,rfl⟩)|with_reducible refine c16 ?_|(go_at_call 157;refine (KD _).mono ?_;rintro e w1 ⟨rfl,o1,o2,o3,rfl⟩))))
  all_goals (try (go_region_with (first|(go_at_call 151;refine (AM _ _ _ zzc).mono ?_;rintro e w1 ⟨rfl,rfl⟩)|with_reducible refine c16 ?_|(go_at_call 157;refine (KD _).mono ?_;rintro e w1 ⟨rfl,o1,o2,o3,rfl⟩))))
  all_goals (try (go_wp2_with (first|(go_at_call 151;refine (AM _ _ _ zzc).mono ?_;rintro e w1 ⟨rfl,rfl⟩)|with_reducible refine c16 ?_|(go_at_call 157;refine (KD _).mono ?_;rintro e w1 ⟨rfl,o1,o2,o3,rfl⟩))))
  all_goals go_returns
  all_goals exact ⟨rfl,by go_grown⟩
