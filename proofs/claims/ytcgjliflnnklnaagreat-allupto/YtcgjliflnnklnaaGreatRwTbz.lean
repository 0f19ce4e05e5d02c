import Derived.Handy
import Derived.Test.YtcgjliflnnklnaaGreatRwGz
namespace Go.Proofs.YtcgjliflnnklnaaGreat
open Go.RowKit Tryz
set_option maxRecDepth 100000
set_option maxHeartbeats 20000000
theorem zx8{p:Prop} (q:p:=by
 unfold b3 RG.val;go_wp2_with (first|with_reducible refine c8 ?_|with_reducible refine c16 ?_|with_reducible refine cRd fun o=>?_|with_reducible refine cWr fun o=>?_|with_reducible refine cDn fun o=>?_);go_returns;exact ⟨rfl,by go_grown⟩):p:=q
theorem zdk(md:BA)(r:RG)(hr:RgR r)(b cap:Nat)(h:List Int)(h1:1<=h.length)(hl:h.length<=100)(w:World)(H:HdAt w b h):Cq 92 #[cdV (b3 74 83 82) md,r.val,hdV b h cap] w (zi (zo (b3 74 83 82) md r h)) fun w'=>Bq w w':=by
 have _u:=hl;have _v:=H;clear _u _v;obtain ⟨A,X,Y,S,P,PC,cyc,jam⟩:=r;have s0:0<=S/\S<256:=hr.s;have c0:0<=PC/\PC<65536:=hr.pc;have e1:((PC+1+1)%65536).tdiv 256=(PC+1+1)%65536/256:=Int.tdiv_eq_ediv_of_nonneg zza
 have e:zo (b3 74 83 82) md ⟨A,X,Y,S,P,PC,cyc,jam⟩ h=(if (h.length:Int)=1 then rdR (PC+1)
  else if (h.length:Int)=2 then rdR (256+S)
  else if (h.length:Int)=3 then wrR (256+S) ((PC+1+1)%65536/256)
  else if (h.length:Int)=4 then wrR (256+(S-1)%256) ((PC+1+1)%256)
  else if (h.length:Int)=5 then rdR (PC+1+1)
  else dnR):=rfl
 rw [e];clear H hr e;unfold cdV hdV;generalize h.length=n at*;by_cases h6:6<=n
 ·rw [if_neg zza,if_neg zza,if_neg zza,if_neg zza,if_neg zza];have n1:¬(n:Int)=1:=by omega
  have n2:¬(n:Int)=2:=by omega
  have n3:¬(n:Int)=3:=by omega
  have n4:¬(n:Int)=4:=by omega
  have n5:¬(n:Int)=5:=by omega
  go_enter func92,ntmps92;exact zx8
 ·rcases (show n=1\/n=2\/n=3\/n=4\/n=5 from by omega) with hn|hn|hn|hn|hn
  all_goals
   subst hn;go_enter func92,ntmps92;unfold b3 RG.val;go_wp2_with (first|with_reducible refine c8 ?_|with_reducible refine c16 ?_|with_reducible refine cRd fun o=>?_|with_reducible refine cWr fun o=>?_|with_reducible refine cDn fun o=>?_);go_returns;exact ⟨rfl,by go_grown⟩
theorem zdl(r:RG)(hr:RgR r)(b cap:Nat)(h:List Int)(h1:1<=h.length)(hl:h.length<=100)(w:World)(H:HdAt w b h):Cq 92 #[cdV (b3 80 72 65) (b3 105 109 112),r.val,hdV b h cap] w (zi (zo (b3 80 72 65) (b3 105 109 112) r h)) fun w'=>Bq w w':=by
 have _u:=hl;have _v:=H;clear _u _v;obtain ⟨A,X,Y,S,P,PC,cyc,jam⟩:=r;have s0:0<=S/\S<256:=hr.s;have c0:0<=PC/\PC<65536:=hr.pc;have e:zo (b3 80 72 65) (b3 105 109 112) ⟨A,X,Y,S,P,PC,cyc,jam⟩ h=(if (h.length:Int)=2 then wrR (256+S) A else if (h.length:Int)=1 then rdR (PC+1) else dnR):=by
  generalize hn:(h.length:Int)=n;unfold zo;rw [hn];by_cases e2:n=2
  ·subst e2;rfl
  ·rw [if_neg e2];by_cases e1:n=1
   ·subst e1;rfl
   ·rw [if_neg e1];simp [e1,e2,b3]
 rw [e];clear H hr e;unfold cdV hdV;generalize h.length=n at*;rcases (show n=1\/n=2\/3<=n from by omega) with hn|hn|hn
 ·subst hn;go_enter func92,ntmps92;exact zx8
 ·subst hn;go_enter func92,ntmps92;exact zx8
 ·rw [if_neg zza,if_neg zza];have n1:¬(n:Int)=1:=by omega
  have n2:¬(n:Int)=2:=by omega
  go_enter func92,ntmps92;exact zx8
theorem zdm(r:RG)(hr:RgR r)(b cap:Nat)(h:List Int)(h1:1<=h.length)(hl:h.length<=100)(w:World)(H:HdAt w b h):Cq 92 #[cdV (b3 80 72 80) (b3 105 109 112),r.val,hdV b h cap] w (zi (zo (b3 80 72 80) (b3 105 109 112) r h)) fun w'=>Bq w w':=by
 have _u:=hl;have _v:=H;clear _u _v;obtain ⟨A,X,Y,S,P,PC,cyc,jam⟩:=r;have s0:0<=S/\S<256:=hr.s;have c0:0<=PC/\PC<65536:=hr.pc;have e:zo (b3 80 72 80) (b3 105 109 112) ⟨A,X,Y,S,P,PC,cyc,jam⟩ h=(if (h.length:Int)=2 then wrR (256+S) (yp P 16) else if (h.length:Int)=1 then rdR (PC+1) else dnR):=by
  generalize hn:(h.length:Int)=n;unfold zo;rw [hn];by_cases e2:n=2
  ·subst e2;rfl
  ·rw [if_neg e2];by_cases e1:n=1
   ·subst e1;rfl
   ·rw [if_neg e1];simp [e1,e2,b3]
 rw [e];clear H hr e;unfold cdV hdV yp;generalize h.length=n at*;rcases (show n=1\/n=2\/3<=n from by omega) with hn|hn|hn
 ·subst hn;go_enter func92,ntmps92;exact zx8
 ·subst hn;go_enter func92,ntmps92;exact zx8
 ·rw [if_neg zza,if_neg zza];have n1:¬(n:Int)=1:=by omega
  have n2:¬(n:Int)=2:=by omega
  go_enter func92,ntmps92;exact zx8
