import Derived.Test.YtcgjliflnnklnaaGreatCM1z
namespace Go.Proofs.YtcgjliflnnklnaaGreat
open Go.RowKit Tryz
set_option maxRecDepth 100000
set_option maxHeartbeats 8000000
variable {B:Nat} {s:PC} {w0 w:World}
theorem Y5(h:Tn B s w0 w):RM 123 [] B w0 w (s.jumpAbsolute):=by
 have hf:=func123;have hn:=ntmps123;have hr:=results123;obtain ⟨c_pc,l_pc,u_pc⟩:=ja h.c;unfold PC.jumpAbsolute;exact zN
theorem Y6(h:Tn B s w0 w):RM 124 [] B w0 w (s.jumpIndirect):=by
 have hf:=func124;have hn:=ntmps124;have hr:=results124;obtain ⟨c_pc,l_pc,u_pc⟩:=ja h.c;obtain ⟨c_hop,l_hop,u_hop⟩:=Qg h.c;obtain ⟨c_ad,l_ad,u_ad⟩:=XH h.c;have hK:=jJ (fun w B s=>@XH w B s);have hL:=jJ (fun w B s=>@Qg w B s);unfold PC.jumpIndirect;exact zN
theorem Z7(h:Tn B s w0 w):RM 125 [] B w0 w (s.callSubroutine):=by
 have hf:=func125;have hn:=ntmps125;have hr:=results125;obtain ⟨c_pc,l_pc,u_pc⟩:=ja h.c;obtain ⟨c_s,l_s,u_s⟩:=Kfs h.c;unfold PC.callSubroutine;exact zN
theorem ZL(h:Tn B s w0 w):RM 126 [] B w0 w (s.leaveSubroutine):=by
 have hf:=func126;have hn:=ntmps126;have hr:=results126;obtain ⟨c_pc,l_pc,u_pc⟩:=ja h.c;obtain ⟨c_s,l_s,u_s⟩:=Kfs h.c;obtain ⟨c_ad,l_ad,u_ad⟩:=XH h.c;unfold PC.leaveSubroutine;exact zN
theorem Z8(h:Tn B s w0 w):RM 132 [] B w0 w (s.leaveInterrupt):=by
 have hf:=func132;have hn:=ntmps132;have hr:=results132;obtain ⟨c_pc,l_pc,u_pc⟩:=ja h.c;obtain ⟨c_s,l_s,u_s⟩:=Kfs h.c;unfold PC.leaveInterrupt;exact zN
theorem UY(h:Tn B s w0 w):RM 127 [] B w0 w (s.pushByte):=by
 have hf:=func127;have hn:=ntmps127;have hr:=results127;obtain ⟨c_pc,l_pc,u_pc⟩:=ja h.c;have hK:=jJ (fun w B s=>@yY w B s);unfold PC.pushByte;exact zN
theorem UZ(h:Tn B s w0 w):RM 128 [] B w0 w (s.pullByte):=by
 have hf:=func128;have hn:=ntmps128;have hr:=results128;obtain ⟨c_pc,l_pc,u_pc⟩:=ja h.c;obtain ⟨c_s,l_s,u_s⟩:=Kfs h.c;unfold PC.pullByte;exact zN
