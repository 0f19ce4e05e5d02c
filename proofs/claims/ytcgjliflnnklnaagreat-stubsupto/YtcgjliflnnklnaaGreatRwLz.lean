import Derived.Handy
import Derived.Test.YtcgjliflnnklnaaGreatJ04
namespace Go.Proofs.YtcgjliflnnklnaaGreat
open Go.RowKit Tryz
set_option maxRecDepth 100000
set_option maxHeartbeats 2000000
def plV(q:Int × Int × Act × Bool):Value:=.tuple #[.int .i64 q.1,.int .i64 q.2.1,q.2.2.1.val,.bool q.2.2.2]
theorem zjg{p:Prop} (q:p:=by
 have:=l0;have:=h0;have:=i0;have:=a0;have KD:=fun w=>vV op md w
 unfold cdV at*;rw [hk] at KD;go_enter func194,ntmps194;go_wp2_with (first|(go_at_call 157;refine (KD _).mono ?_;rintro e w1 ⟨rfl,o1,o2,o3,rfl⟩)|with_reducible refine c8 ?_|with_reducible refine c16 ?_);all_goals (have hr:=results194;exact bodyPost_ret zrp rfl ⟨rfl,_,_,_,_,_,rfl⟩)):p:=q
theorem ix_a(op md:BA)(lo hi ix n at_:Int)(l0:0<=lo/\lo<256)(h0:0<=hi/\hi<256)(i0:0<=ix/\ix<256)(a0:0<=at_/\at_<100)(hk:zY op=114)(he:((lo+ix)%256+256*hi)=((lo+ix+256*hi)%65536))(w:World):Calls prog 194 #[cdV op md,.int .i64 lo,.int .i64 hi,.int .i64 ix,.int .i64 n,.int .i64 at_] w fun e w'=>e=.returned (plV (((lo+ix+256*hi)%65536),at_,Act.nil,true))/\∃o1 o2 o3 o4 o5,w'=((((w.alloc o1).alloc o2).alloc o3).alloc o4).alloc o5:=by
 exact zjg
theorem ix_b(op md:BA)(lo hi ix n at_:Int)(l0:0<=lo/\lo<256)(h0:0<=hi/\hi<256)(i0:0<=ix/\ix<256)(a0:0<=at_/\at_<100)(hk:zY op=114)(he:¬((lo+ix)%256+256*hi)=((lo+ix+256*hi)%65536))(hn:n=at_)(w:World):Calls prog 194 #[cdV op md,.int .i64 lo,.int .i64 hi,.int .i64 ix,.int .i64 n,.int .i64 at_] w fun e w'=>e=.returned (plV (0,0,⟨((lo+ix)%256+256*hi),false,0,false⟩,false))/\∃o1 o2 o3 o4 o5,w'=((((w.alloc o1).alloc o2).alloc o3).alloc o4).alloc o5:=by
 have:=l0;have:=h0;have:=i0;have:=a0;have KD:=fun w=>vV op md w
 unfold cdV at*;rw [hk] at KD;subst hn;go_enter func194,ntmps194;go_wp2_with (first|(go_at_call 157;refine (KD _).mono ?_;rintro e w1 ⟨rfl,o1,o2,o3,rfl⟩)|with_reducible refine c8 ?_|with_reducible refine c16 ?_);all_goals (have hr:=results194;exact bodyPost_ret zrp rfl ⟨rfl,_,_,_,_,_,rfl⟩)
theorem ix_c(op md:BA)(lo hi ix n at_:Int)(l0:0<=lo/\lo<256)(h0:0<=hi/\hi<256)(i0:0<=ix/\ix<256)(a0:0<=at_/\at_<100)(hk:zY op=114)(he:¬((lo+ix)%256+256*hi)=((lo+ix+256*hi)%65536))(hn:¬n=at_)(w:World):Calls prog 194 #[cdV op md,.int .i64 lo,.int .i64 hi,.int .i64 ix,.int .i64 n,.int .i64 at_] w fun e w'=>e=.returned (plV (((lo+ix+256*hi)%65536),at_+1,Act.nil,true))/\∃o1 o2 o3 o4 o5,w'=((((w.alloc o1).alloc o2).alloc o3).alloc o4).alloc o5:=by
 exact zjg
theorem ix_d(op md:BA)(lo hi ix n at_:Int)(l0:0<=lo/\lo<256)(h0:0<=hi/\hi<256)(i0:0<=ix/\ix<256)(a0:0<=at_/\at_<100)(hk:¬zY op=114)(hn:n=at_)(w:World):Calls prog 194 #[cdV op md,.int .i64 lo,.int .i64 hi,.int .i64 ix,.int .i64 n,.int .i64 at_] w fun e w'=>e=.returned (plV (0,0,⟨((lo+ix)%256+256*hi),false,0,false⟩,false))/\∃o1 o2 o3 o4 o5,w'=((((w.alloc o1).alloc o2).alloc o3).alloc o4).alloc o5:=by
 have:=l0;have:=h0;have:=i0;have:=a0;have KD:=fun w=>vV op md w
 unfold cdV at*;generalize zY op=kd at*;subst hn;go_enter func194,ntmps194;go_wp2_with (first|(go_at_call 157;refine (KD _).mono ?_;rintro e w1 ⟨rfl,o1,o2,o3,rfl⟩)|with_reducible refine c8 ?_|with_reducible refine c16 ?_);all_goals (have hr:=results194;exact bodyPost_ret zrp rfl ⟨rfl,_,_,_,_,_,rfl⟩)
theorem ix_e(op md:BA)(lo hi ix n at_:Int)(l0:0<=lo/\lo<256)(h0:0<=hi/\hi<256)(i0:0<=ix/\ix<256)(a0:0<=at_/\at_<100)(hk:¬zY op=114)(hn:¬n=at_)(w:World):Calls prog 194 #[cdV op md,.int .i64 lo,.int .i64 hi,.int .i64 ix,.int .i64 n,.int .i64 at_] w fun e w'=>e=.returned (plV (((lo+ix+256*hi)%65536),at_+1,Act.nil,true))/\∃o1 o2 o3 o4 o5,w'=((((w.alloc o1).alloc o2).alloc o3).alloc o4).alloc o5:=by
 have:=l0;have:=h0;have:=i0;have:=a0;have KD:=fun w=>vV op md w
 unfold cdV at*;generalize zY op=kd at*;go_enter func194,ntmps194;go_wp2_with (first|(go_at_call 157;refine (KD _).mono ?_;rintro e w1 ⟨rfl,o1,o2,o3,rfl⟩)|with_reducible refine c8 ?_|with_reducible refine c16 ?_);all_goals (have hr:=results194;exact bodyPost_ret zrp rfl ⟨rfl,_,_,_,_,_,rfl⟩)
theorem XZ(op md:BA)(lo hi ix n at_:Int)(l0:0<=lo/\lo<256)(h0:0<=hi/\hi<256)(i0:0<=ix/\ix<256)(a0:0<=at_/\at_<100)(w:World):Calls prog 194 #[cdV op md,.int .i64 lo,.int .i64 hi,.int .i64 ix,.int .i64 n,.int .i64 at_] w fun e w'=>e=.returned (plV (zZ op lo hi ix n at_))/\∃o1 o2 o3 o4 o5,w'=((((w.alloc o1).alloc o2).alloc o3).alloc o4).alloc o5:=by
 unfold zZ;dsimp only;by_cases hk:zY op=114
 ·by_cases he:((lo+ix)%256+256*hi)=((lo+ix+256*hi)%65536)
  ·rw [if_pos ⟨hk,he⟩];exact ix_a op md lo hi ix n at_ l0 h0 i0 a0 hk he w
  ·rw [if_neg (fun h=>he h.2)];by_cases hn:n=at_
   ·rw [if_pos hn];exact ix_b op md lo hi ix n at_ l0 h0 i0 a0 hk he hn w
   ·rw [if_neg hn];exact ix_c op md lo hi ix n at_ l0 h0 i0 a0 hk he hn w
 ·rw [if_neg (fun h=>hk h.1)];by_cases hn:n=at_
  ·rw [if_pos hn];exact ix_d op md lo hi ix n at_ l0 h0 i0 a0 hk hn w
  ·rw [if_neg hn];exact ix_e op md lo hi ix n at_ l0 h0 i0 a0 hk hn w
