import Derived.Handy
import Derived.Test.YtcgjliflnnklnaaGreatJ04
namespace Go.Proofs.YtcgjliflnnklnaaGreat
open Go.RowKit Tryz
set_option maxRecDepth 100000
set_option maxHeartbeats 20000000
def lI:List BA:=[b3 84 65 88,b3 84 65 89,b3 84 88 65,b3 84 89 65,b3 84 83 88,b3 84 88 83,b3 73 78 88,b3 73 78 89,b3 68 69 88,b3 68 69 89,b3 67 76 67,b3 83 69 67,b3 67 76 73,b3 83 69 73,b3 67 76 86,b3 67 76 68,b3 83 69 68,b3 80 72 65,b3 80 72 80,b3 78 79 80,b3 80 76 65,b3 80 76 80]
theorem zlK(op:BA)(hop:op∈lI)(r:RG)(hr:RgR r)(w:World):Calls prog 155 #[Zq op,r.val] w fun e w'=>e=.returned (xZ op r).val/\Bq w w':=by
 obtain ⟨A,X,Y,S,P,PC,cyc,jam⟩:=r;have x0:0<=X/\X<256:=hr.x;have y0:0<=Y/\Y<256:=hr.y;have s0:0<=S/\S<256:=hr.s;clear hr;unfold lI at hop;simp only [List.mem_cons,List.not_mem_nil,or_false] at hop;rcases hop with rfl|rfl|rfl|rfl|rfl|rfl|rfl|rfl|rfl|rfl|rfl|rfl|rfl|rfl|rfl|rfl|rfl|rfl|rfl|rfl|rfl|rfl
 all_goals
  go_enter func155,ntmps155;unfold b3 RG.val;go_wp2_with (first|with_reducible refine cNz ?_|with_reducible refine c8 ?_);all_goals (try (go_region_with (first|with_reducible refine cNz ?_|with_reducible refine c8 ?_)))
  all_goals (try go_wp2)
  all_goals go_returns
  all_goals exact ⟨rfl,by go_grown⟩
