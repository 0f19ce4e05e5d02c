import Derived.Handy
import Derived.Test.YtcgjliflnnklnaaGreatRwGz
namespace Go.Proofs.YtcgjliflnnklnaaGreat
open Go.RowKit Tryz
set_option maxRecDepth 100000
set_option maxHeartbeats 20000000
theorem ziK(op md:BA)(hop:op=b3 78 77 73\/op=b3 73 82 81\/op=b3 66 82 75)(r:RG)(hr:RgR r)(n:Nat)(h1:1<=n)(w:World):Cq 141 #[cdV op md,r.val,Iq (n:Int)] w (zi (yI op r n)) fun w'=>Bq w w':=by
 obtain ⟨A,X,Y,S,P,PC,cyc,jam⟩:=r;have s0:0<=S/\S<256:=hr.s;have c0:0<=PC/\PC<65536:=hr.pc;have e1:PC.tdiv 256=PC/256:=Int.tdiv_eq_ediv_of_nonneg zza;have e2:PC.tmod 256=PC%256:=Int.tmod_eq_emod_of_nonneg zza;have e3:((PC+2)%65536).tdiv 256=(PC+2)%65536/256:=Int.tdiv_eq_ediv_of_nonneg zza;have e4:((PC+2)%65536).tmod 256=(PC+2)%65536%256:=Int.tmod_eq_emod_of_nonneg zza;clear hr;unfold cdV;by_cases h7:7<=n
 ·rw [show yI op ⟨A,X,Y,S,P,PC,cyc,jam⟩ (n:Int)=dnR from by
   unfold yI;dsimp only;rw [if_neg zza,if_neg zza,if_neg zza,if_neg zza,if_neg zza,if_neg zza]]
  have n1:¬(n:Int)=1:=by omega
  have n2:¬(n:Int)=2:=by omega
  have n3:¬(n:Int)=3:=by omega
  have n4:¬(n:Int)=4:=by omega
  have n5:¬(n:Int)=5:=by omega
  have n6:¬(n:Int)=6:=by omega
  rcases hop with rfl|rfl|rfl
  all_goals
   go_enter func141,ntmps141;unfold b3 RG.val;go_wp2_with (first|with_reducible refine c8 ?_|with_reducible refine c16 ?_|with_reducible refine cRd fun o=>?_|with_reducible refine cWr fun o=>?_|with_reducible refine cDn fun o=>?_);go_returns;exact ⟨rfl,by go_grown⟩
 ·rcases (show (n:Int)=1\/(n:Int)=2\/(n:Int)=3\/(n:Int)=4\/(n:Int)=5\/(n:Int)=6 from by omega) with hn|hn|hn|hn|hn|hn
  all_goals
   rw [hn];rcases hop with rfl|rfl|rfl
   all_goals
    go_enter func141,ntmps141;unfold b3 RG.val;go_wp2_with (first|with_reducible refine c8 ?_|with_reducible refine c16 ?_|with_reducible refine cRd fun o=>?_|with_reducible refine cWr fun o=>?_|with_reducible refine cDn fun o=>?_);go_returns;first
     |exact ⟨rfl,by go_grown⟩
     |(refine ⟨?_,by go_grown⟩;rw [<-Int.emod_emod_of_dvd (PC+2) (show (256:Int) ∣ 65536 by decide)];rfl)
