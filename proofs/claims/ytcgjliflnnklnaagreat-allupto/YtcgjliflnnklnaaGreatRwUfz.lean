import Derived.Test.YtcgjliflnnklnaaGreatRwUez
namespace Go.Proofs.YtcgjliflnnklnaaGreat
open Go.RowKit Tryz
set_option maxRecDepth 100000
set_option maxHeartbeats 20000000
theorem zkn(op md:BA)(hop:op∈lC)(hmd:md∈mB)(r:RG)(hr:RgR r)(b cap:Nat)(h:List Int)(hl:h.length<=100)(h3:3<=h.length)(w:World)(H:HdAt w b h):Calls prog 96 #[cdV op md,r.val,hdV b h cap] w fun e w'=>e=.returned (zV op md r h).val/\Bq w w':=by
 have no:=zjR hop;have KD:=fun w=>vV op md w
 have hk:zY op=99:=by unfold lC at hop;simp only [List.mem_cons,List.not_mem_nil,or_false] at hop;rcases hop with rfl|rfl|rfl|rfl|rfl|rfl<;>rfl
 rw [hk] at KD;obtain ⟨m,hm⟩:∃m,h.length=m+3:=⟨h.length-3,by omega⟩
 have nb:=znQ hmd;unfold mB at hmd;simp only [List.mem_cons,List.not_mem_nil,or_false] at hmd;have e:zV op md r h={r with PC:=(r.PC+vg md)%65536,P:=(zF op (hd h m) r.P).2}:=by rw [vt op md r h (jy no) nb.1 nb.2.1 nb.2.2,if_neg (by rw [hk];decide),if_pos hk,show h.length-3=m from by omega]
 clear nb;rw [e];clear e hk;obtain ⟨A,X,Y,S,P,PC,cyc,jam⟩:=r;have c0:0<=PC/\PC<65536:=hr.pc;have p0:0<=P/\P<256:=hr.p;have l1:=H.lt;have cv:=H.c m zza;obtain ⟨b0,b1⟩:=H.r m zza;have CHG:=fun w=>V8 op hop (hd h m) P b0 b1 p0.1 p0.2 w
 generalize hd h m=hv at*;dsimp only;generalize zF op hv P=cq at*;obtain ⟨c1,c2⟩:=cq;unfold chV at CHG;dsimp only at CHG⊢;have z0:=zK no.1;have z1:=zK no.2.1;have z2:=zK no.2.2.1;have AM:=vN op false (jA no);clear no hop H hr;unfold cdV hdV RG.val at*;generalize h.length=n at*;have hz:IntKind.i64.wrap ((n:Int)-3)=(m:Int):=by rw [IntKind.wrap_i64];omega
 have hz2:wrap64 ((n:Int)-3)=(m:Int):=by simp only [wrap64];omega
 have hz4:(m:Int)<(n:Int):=by omega
 have hz5:m<n:=by omega
 clear hm;rcases hmd with rfl|rfl|rfl|rfl|rfl|rfl|rfl|rfl|rfl
 all_goals
  try unfold b3 at*
  try unfold b2 at*
  go_enter func96,ntmps96;go_wp2_with (first|(go_at_call 151;refine (AM _ _ _ zzc).mono ?_;rintro e w1 ⟨rfl,rfl⟩)|with_reducible refine c16 ?_|(go_at_call 157;refine (KD _).mono ?_;rintro e w1 ⟨rfl,o1,o2,o3,rfl⟩));generalize hW:World.alloc _ _=W;have lt9:w.heap.size+1+1<W.heap.size:=by rw [<-hW];simp only [World.size_alloc];omega
  have lt8:w.heap.size+1<W.heap.size:=by omega
  have lt7:w.heap.size<W.heap.size:=by omega
  have hB:Bq w W:=by rw [<-hW];go_grown
  have i0:W.cell? (Aq w.heap.size 0)=some (Zq op):=by rw [<-hW];clear hW;go_cell
  have j0:W.cell? ⟨w.heap.size+1,0,none⟩=some (Iq A):=by rw [<-hW];clear hW;go_cell
  have j1:W.cell? ⟨w.heap.size+1,1,none⟩=some (Iq X):=by rw [<-hW];clear hW;go_cell
  have j2:W.cell? ⟨w.heap.size+1,2,none⟩=some (Iq Y):=by rw [<-hW];clear hW;go_cell
  have j3:W.cell? ⟨w.heap.size+1,3,none⟩=some (Iq S):=by rw [<-hW];clear hW;go_cell
  have j4:W.cell? ⟨w.heap.size+1,4,none⟩=some (Iq P):=by rw [<-hW];clear hW;go_cell
  first|(have j5:W.cell? ⟨w.heap.size+1,5,none⟩=some (Iq ((PC+2)%65536)):=(by rw [<-hW];clear hW;go_cell))|(have j5:W.cell? ⟨w.heap.size+1,5,none⟩=some (Iq ((PC+3)%65536)):=(by rw [<-hW];clear hW;go_cell))|(have j5:W.cell? ⟨w.heap.size+1,5,none⟩=some (Iq ((PC+1)%65536)):=(by rw [<-hW];clear hW;go_cell))
  have j6:W.cell? ⟨w.heap.size+1,6,none⟩=some (Iq cyc):=by rw [<-hW];clear hW;go_cell
  have j7:W.cell? ⟨w.heap.size+1,7,none⟩=some (Tq jam):=by rw [<-hW];clear hW;go_cell
  have jf:∀o,W.frozen? ⟨w.heap.size+1,o,none⟩=false:=by intro o;rw [<-hW];clear hW;go_cell
  have k0:W.cell? ⟨w.heap.size+1+1,0,none⟩=some (Iq 0):=by rw [<-hW];clear hW;go_cell
  have k1:W.cell? ⟨w.heap.size+1+1,1,none⟩=some (Iq 0):=by rw [<-hW];clear hW;go_cell
  have k2:W.cell? ⟨w.heap.size+1+1,2,none⟩=some (Iq 0):=by rw [<-hW];clear hW;go_cell
  have k3:W.cell? ⟨w.heap.size+1+1,3,none⟩=some (Iq 0):=by rw [<-hW];clear hW;go_cell
  have k4:W.cell? ⟨w.heap.size+1+1,4,none⟩=some (Iq 0):=by rw [<-hW];clear hW;go_cell
  have k5:W.cell? ⟨w.heap.size+1+1,5,none⟩=some (Iq 0):=by rw [<-hW];clear hW;go_cell
  have k6:W.cell? ⟨w.heap.size+1+1,6,none⟩=some (Iq 0):=by rw [<-hW];clear hW;go_cell
  have k7:W.cell? ⟨w.heap.size+1+1,7,none⟩=some (Tq false):=by rw [<-hW];clear hW;go_cell
  have kf:∀o,W.frozen? ⟨w.heap.size+1+1,o,none⟩=false:=by intro o;rw [<-hW];clear hW;go_cell
  have cW:W.cell? (Aq b m)=some (Iq hv):=(hB.cell (p:=(Aq b m)) l1).trans cv;have l2:b<W.heap.size:=by omega
  clear cv;clear hW;go_region_held3 (fun w'=>w'.cell? (Aq b m)=some (Iq hv)/\w'.cell? (Aq w.heap.size 0)=some (Zq op)/\w'.cell? ⟨w.heap.size+1,4,none⟩=some (Iq P)) (go_keep) (first|(go_at_call 156;refine (CHG _).mono ?_;rintro e w1 ⟨rfl,hw⟩;subst hw));all_goals go_wp2_with fail
  all_goals first|(refine bodyPost_ret (v:=RG.val ⟨A,X,Y,S,c2,(PC+2)%65536,cyc,jam⟩) (by simp [results,results96,go_sem,RG.val,k0,k1,k2,k3,k4,k5,k6,k7]) rfl ⟨rfl,by go_grown⟩)|(refine bodyPost_ret (v:=RG.val ⟨A,X,Y,S,c2,(PC+3)%65536,cyc,jam⟩) (by simp [results,results96,go_sem,RG.val,k0,k1,k2,k3,k4,k5,k6,k7]) rfl ⟨rfl,by go_grown⟩)
