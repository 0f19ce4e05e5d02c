import Derived.Test.YtcgjliflnnklnaaGreatJ15
namespace Go.Proofs.YtcgjliflnnklnaaGreat
open Go.RowKit Tryz
set_option maxRecDepth 100000
set_option maxHeartbeats 8000000
variable {B:Nat} {s:PC} {w0 w:World}
theorem JG(h:Tn B s w0 w):RM 120 [] B w0 w (s.indirectX):=by
 have hf:=func120;have hn:=ntmps120;have hr:=results120;obtain ⟨c_pc,l_pc,u_pc⟩:=ja h.c;obtain ⟨c_hop,l_hop,u_hop⟩:=Qg h.c;obtain ⟨c_x,l_x,u_x⟩:=Kfx h.c;obtain ⟨c_st,l_st,u_st⟩:=JB h.c;have hK:=jJ (fun w B s=>@Qg w B s);have hL:=jJ (fun w B s=>@Kfx w B s);unfold PC.indirectX;exact zN
theorem JH(h:Tn B s w0 w):RM 121 [] B w0 w (s.indirectY):=by
 have hf:=func121;have hn:=ntmps121;have hr:=results121;obtain ⟨c_pc,l_pc,u_pc⟩:=ja h.c;obtain ⟨c_hop,l_hop,u_hop⟩:=Qg h.c;obtain ⟨c_y,l_y,u_y⟩:=Kfy h.c;have hK:=jJ (fun w B s=>@Qg w B s);unfold PC.indirectY;exact zN
