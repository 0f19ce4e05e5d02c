import Derived.Handy
import Derived.Test.YtcgjliflnnklnaaGreatJ03
namespace Go.Proofs.YtcgjliflnnklnaaGreat
open Go.RowKit Tryz
set_option maxRecDepth 100000
set_option maxHeartbeats 20000000
theorem zr{p:Prop}(q:p:=by simp [results,hr,go_sem,zi,Act.val,rdR,wrR,dnR,Act.nil]):p:=q
theorem zrp{p:Prop}(q:p:=by simp [results,hr,go_sem,zi,plV,Act.val,rdR,wrR,dnR,Act.nil]):p:=q
theorem zg{p:Prop}(q:p:=by repeat (first|exact Below.refl _ _|apply Ye|apply YB|apply yT|(refine US ?_ zza))):p:=q
theorem Ye{w w':World}(h:Bq w w')(n:Nat):Bq w (w'.drewN n):=by
 induction n with
 |zero=>exact h
 |succ n ih=>exact YB ih
theorem JM(r:RG)(a m:Int)(a0:0<=a)(a1:a<256)(m0:0<=m)(m1:m<256)(w:World):Calls prog 199 #[r.val,Iq a,Iq m] w fun e w'=>e=.returned (jS r a m).val/\∃o1 o2,w'=((w.alloc o1).alloc o2).drew:=by
 obtain ⟨A,X,Y,S,P,PC,cyc,jam⟩:=r;unfold jS RG.val;dsimp only;go_enter func199,ntmps199;go_wp2_with fail;go_region_with (first|(go_at_call 197;refine (zaA _ _ _).mono ?_;rintro e w1 ⟨rfl,hw⟩;subst hw)|with_reducible refine cNz ?_|(go_at_call 91;refine (yb _ _).mono ?_;rintro e w1 ⟨rfl,hw⟩;subst hw));all_goals go_wp2
 all_goals refine bodyPost_ret (v:=.agg #[Iq A,Iq X,Iq Y,Iq S,Iq (yN (nzR P ((a-m)%256)) (decide (m<=a))),Iq PC,Iq cyc,Tq jam]) (by simp [results,results199,go_sem, *]) rfl (And.intro rfl ?_)
 all_goals exact ⟨_,_,rfl⟩
theorem zx6{p:Prop} (q:p:=by
 clear h1 h2 h3;go_enter func198,ntmps198;go_wp2_with (first|(go_at_call 197;refine (zaA _ _ _).mono ?_;rintro e w1 ⟨rfl,hw⟩;subst hw)|with_reducible refine cNz ?_);exact bodyPost_ret (by simp [results,results198,go_sem]) rfl ⟨rfl,_,_,rfl⟩):p:=q
theorem zdz(r:RG)(m:Int)(a0:0<=r.A)(a1:r.A<256)(m0:0<=m)(m1:m<256)(p0:0<=r.P)(p1:r.P<256)(w:World):Calls prog 198 #[r.val,Iq m] w fun e w'=>e=.returned (YR r m).val/\∃o1 o2,w'=(w.alloc o1).alloc o2:=by
 obtain ⟨A,X,Y,S,P,PC,cyc,jam⟩:=r;unfold YR RG.val;dsimp only at a0 a1 p0 p1⊢;obtain ⟨u0,u1⟩:=zfo P p0 p1;unfold zp yp at*;generalize hA:bits .and .i64 P 1=A1 at*;have e1:(A+m+A1).tmod 256=(A+m+A1)%256:=Int.tmod_eq_emod_of_nonneg zza;have r0:0<=(A+m+A1)%256:=by omega
 have r1:(A+m+A1)%256<256:=by omega
 by_cases h1:127<A<;>by_cases h2:127<m<;>by_cases h3:127<(A+m+A1)%256
 ·rw [if_neg (by simp [h1,h2,h3])];have d1:decide (127<A)=true:=decide_eq_true h1;have d2:decide (127<m)=true:=decide_eq_true h2;have d3:decide (127<(A+m+A1)%256)=true:=decide_eq_true h3;exact zx6
 ·rw [if_pos (by simp [h1,h2,h3])];have d1:decide (127<A)=true:=decide_eq_true h1;have d2:decide (127<m)=true:=decide_eq_true h2;have d3:decide (127<(A+m+A1)%256)=false:=decide_eq_false h3;exact zx6
 ·rw [if_neg (by simp [h1,h2,h3])];have d1:decide (127<A)=true:=decide_eq_true h1;have d2:decide (127<m)=false:=decide_eq_false h2;have d3:decide (127<(A+m+A1)%256)=true:=decide_eq_true h3;exact zx6
 ·rw [if_neg (by simp [h1,h2,h3])];have d1:decide (127<A)=true:=decide_eq_true h1;have d2:decide (127<m)=false:=decide_eq_false h2;have d3:decide (127<(A+m+A1)%256)=false:=decide_eq_false h3;exact zx6
 ·rw [if_neg (by simp [h1,h2,h3])];have d1:decide (127<A)=false:=decide_eq_false h1;have d2:decide (127<m)=true:=decide_eq_true h2;have d3:decide (127<(A+m+A1)%256)=true:=decide_eq_true h3;exact zx6
 ·rw [if_neg (by simp [h1,h2,h3])];have d1:decide (127<A)=false:=decide_eq_false h1;have d2:decide (127<m)=true:=decide_eq_true h2;have d3:decide (127<(A+m+A1)%256)=false:=decide_eq_false h3;exact zx6
 ·rw [if_pos (by simp [h1,h2,h3])];have d1:decide (127<A)=false:=decide_eq_false h1;have d2:decide (127<m)=false:=decide_eq_false h2;have d3:decide (127<(A+m+A1)%256)=true:=decide_eq_true h3;exact zx6
 ·rw [if_neg (by simp [h1,h2,h3])];have d1:decide (127<A)=false:=decide_eq_false h1;have d2:decide (127<m)=false:=decide_eq_false h2;have d3:decide (127<(A+m+A1)%256)=false:=decide_eq_false h3;exact zx6
def lR:List BA:=[b3 76 68 65,b3 76 68 88,b3 76 68 89,b3 65 78 68,b3 79 82 65,b3 69 79 82,b3 65 68 67,b3 83 66 67,b3 67 77 80,b3 67 80 88,b3 67 80 89,b3 66 73 84]
structure RgR (r:RG):Prop where
 a:0<=r.A/\r.A<256
 x:0<=r.X/\r.X<256
 y:0<=r.Y/\r.Y<256
 s:0<=r.S/\r.S<256
 p:0<=r.P/\r.P<256
 pc:0<=r.PC/\r.PC<65536
theorem zaV(op:BA)(hop:op∈lR)(r:RG)(m:Int)(hr:RgR r)(m0:0<=m)(m1:m<256)(w:World):Calls prog 158 #[Zq op,r.val,Iq m] w fun e w'=>e=.returned (xA op r m).val/\Bq w w':=by
 obtain ⟨A,X,Y,S,P,PC,cyc,jam⟩:=r;have a0:0<=A/\A<256:=hr.a;have x0:0<=X/\X<256:=hr.x;have y0:0<=Y/\Y<256:=hr.y;have p0:0<=P/\P<256:=hr.p;clear hr;unfold lR at hop;simp only [List.mem_cons,List.not_mem_nil,or_false] at hop;rcases hop with rfl|rfl|rfl|rfl|rfl|rfl|rfl|rfl|rfl|rfl|rfl|rfl
 all_goals
  go_enter func158,ntmps158;unfold b3 RG.val;go_wp2_with (first|with_reducible refine cNz ?_|(go_at_call 198;refine (zdz ⟨A,X,Y,S,P,PC,cyc,jam⟩ _ a0.1 a0.2 zza zza p0.1 p0.2 _).mono ?_;rintro e w1 ⟨rfl,o1,o2,rfl⟩;simp only [RG.val])|(go_at_call 199;refine (JM ⟨A,X,Y,S,P,PC,cyc,jam⟩ _ m zza zza m0 m1 _).mono ?_;rintro e w1 ⟨rfl,o1,o2,rfl⟩;simp only [RG.val]));all_goals (try (go_region_with (first|with_reducible refine cNz ?_|(go_at_call 198;refine (zdz ⟨A,X,Y,S,P,PC,cyc,jam⟩ _ a0.1 a0.2 zza zza p0.1 p0.2 _).mono ?_;rintro e w1 ⟨rfl,o1,o2,rfl⟩;simp only [RG.val])|(go_at_call 199;refine (JM ⟨A,X,Y,S,P,PC,cyc,jam⟩ _ m zza zza m0 m1 _).mono ?_;rintro e w1 ⟨rfl,o1,o2,rfl⟩;simp only [RG.val]))))
  all_goals (try go_wp2)
  all_goals go_returns
  all_goals exact ⟨rfl,by go_grown⟩
