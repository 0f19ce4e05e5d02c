import Derived.Handy
import Derived.Test.YtcgjliflnnklnaaGreatJ04
namespace Go.Proofs.YtcgjliflnnklnaaGreat
open Go.RowKit Tryz
set_option maxRecDepth 100000
set_option maxHeartbeats 2000000
def plV(q:Int × Int × Act × Bool):Value:=.tuple #[Iq q.1,Iq q.2.1,q.2.2.1.val,Tq q.2.2.2]
theorem zjg{p:Prop} (q:p:=by
 have:=l0;have:=h0;have:=i0;have:=a0;have KD:=fun w=>vV op md w
 unfold cdV at*;rw [hk] at KD;go_enter func194,ntmps194;go_wp2_with (first|(go_at_call 157;refine (KD _).mono ?_;rintro e w1 ⟨rfl,o1,o2,o3,rfl⟩)|with_reducible refine c8 ?_|with_reducible refine c16 ?_);all_goals (have hr:=results194;exact bodyPost_ret zrp rfl ⟨rfl,_,_,_,_,_,rfl⟩)):p:=q
theorem vW(op md:BA)(lo hi ix n at_:Int)(l0:0<=lo/\lo<256)(h0:0<=hi/\hi<256)(i0:0<=ix/\ix<256)(a0:0<=at_/\at_<100)(hk:zY op=114)(he:((lo+ix)%256+256*hi)=((lo+ix+256*hi)%65536))(w:World):Cq 194 #[cdV op md,Iq lo,Iq hi,Iq ix,Iq n,Iq at_] w (plV (((lo+ix+256*hi)%65536),at_,Act.nil,true)) fun w'=>∃o1 o2 o3 o4 o5,w'=((((w.alloc o1).alloc o2).alloc o3).alloc o4).alloc o5:=by
 exact zjg
theorem v9(op md:BA)(lo hi ix n at_:Int)(l0:0<=lo/\lo<256)(h0:0<=hi/\hi<256)(i0:0<=ix/\ix<256)(a0:0<=at_/\at_<100)(hk:zY op=114)(he:¬((lo+ix)%256+256*hi)=((lo+ix+256*hi)%65536))(hn:n=at_)(w:World):Cq 194 #[cdV op md,Iq lo,Iq hi,Iq ix,Iq n,Iq at_] w (plV (0,0,⟨((lo+ix)%256+256*hi),false,0,false⟩,false)) fun w'=>∃o1 o2 o3 o4 o5,w'=((((w.alloc o1).alloc o2).alloc o3).alloc o4).alloc o5:=by
 have:=l0;have:=h0;have:=i0;have:=a0;have KD:=fun w=>vV op md w
 unfold cdV at*;rw [hk] at KD;subst hn;go_enter func194,ntmps194;go_wp2_with (first|(go_at_call 157;refine (KD _).mono ?_;rintro e w1 ⟨rfl,o1,o2,o3,rfl⟩)|with_reducible refine c8 ?_|with_reducible refine c16 ?_);all_goals (have hr:=results194;exact bodyPost_ret zrp rfl ⟨rfl,_,_,_,_,_,rfl⟩)
theorem Yt(op md:BA)(lo hi ix n at_:Int)(l0:0<=lo/\lo<256)(h0:0<=hi/\hi<256)(i0:0<=ix/\ix<256)(a0:0<=at_/\at_<100)(hk:zY op=114)(he:¬((lo+ix)%256+256*hi)=((lo+ix+256*hi)%65536))(hn:¬n=at_)(w:World):Cq 194 #[cdV op md,Iq lo,Iq hi,Iq ix,Iq n,Iq at_] w (plV (((lo+ix+256*hi)%65536),at_+1,Act.nil,true)) fun w'=>∃o1 o2 o3 o4 o5,w'=((((w.alloc o1).alloc o2).alloc o3).alloc o4).alloc o5:=by
 exact zjg
theorem Ja(op md:BA)(lo hi ix n at_:Int)(l0:0<=lo/\lo<256)(h0:0<=hi/\hi<256)(i0:0<=ix/\ix<256)(a0:0<=at_/\at_<100)(hk:¬zY op=114)(hn:n=at_)(w:World):Cq 194 #[cdV op md,Iq lo,Iq hi,Iq ix,Iq n,Iq at_] w (plV (0,0,⟨((lo+ix)%256+256*hi),false,0,false⟩,false)) fun w'=>∃o1 o2 o3 o4 o5,w'=((((w.alloc o1).alloc o2).alloc o3).alloc o4).alloc o5:=by
 have:=l0;have:=h0;have:=i0;have:=a0;have KD:=fun w=>vV op md w
 unfold cdV at*;generalize zY op=kd at*;subst hn;go_enter func194,ntmps194;go_wp2_with (first|(go_at_call 157;refine (KD _).mono ?_;rintro e w1 ⟨rfl,o1,o2,o3,rfl⟩)|with_reducible refine c8 ?_|with_reducible refine c16 ?_);all_goals (have hr:=results194;exact bodyPost_ret zrp rfl ⟨rfl,_,_,_,_,_,rfl⟩)
theorem Qd(op md:BA)(lo hi ix n at_:Int)(l0:0<=lo/\lo<256)(h0:0<=hi/\hi<256)(i0:0<=ix/\ix<256)(a0:0<=at_/\at_<100)(hk:¬zY op=114)(hn:¬n=at_)(w:World):Cq 194 #[cdV op md,Iq lo,Iq hi,Iq ix,Iq n,Iq at_] w (plV (((lo+ix+256*hi)%65536),at_+1,Act.nil,true)) fun w'=>∃o1 o2 o3 o4 o5,w'=((((w.alloc o1).alloc o2).alloc o3).alloc o4).alloc o5:=by
 have:=l0;have:=h0;have:=i0;have:=a0;have KD:=fun w=>vV op md w
 unfold cdV at*;generalize zY op=kd at*;go_enter func194,ntmps194;go_wp2_with (first|(go_at_call 157;refine (KD _).mono ?_;rintro e w1 ⟨rfl,o1,o2,o3,rfl⟩)|with_reducible refine c8 ?_|with_reducible refine c16 ?_);all_goals (have hr:=results194;exact bodyPost_ret zrp rfl ⟨rfl,_,_,_,_,_,rfl⟩)
theorem XZ(op md:BA)(lo hi ix n at_:Int)(l0:0<=lo/\lo<256)(h0:0<=hi/\hi<256)(i0:0<=ix/\ix<256)(a0:0<=at_/\at_<100)(w:World):Cq 194 #[cdV op md,Iq lo,Iq hi,Iq ix,Iq n,Iq at_] w (plV (zZ op lo hi ix n at_)) fun w'=>∃o1 o2 o3 o4 o5,w'=((((w.alloc o1).alloc o2).alloc o3).alloc o4).alloc o5:=by
 unfold zZ;dsimp only;by_cases hk:zY op=114
 ·by_cases he:((lo+ix)%256+256*hi)=((lo+ix+256*hi)%65536)
  ·rw [if_pos ⟨hk,he⟩];exact vW op md lo hi ix n at_ l0 h0 i0 a0 hk he w
  ·rw [if_neg (fun h=>he h.2)];by_cases hn:n=at_
   ·rw [if_pos hn];exact v9 op md lo hi ix n at_ l0 h0 i0 a0 hk he hn w
   ·rw [if_neg hn];exact Yt op md lo hi ix n at_ l0 h0 i0 a0 hk he hn w
 ·rw [if_neg (fun h=>hk h.1)];by_cases hn:n=at_
  ·rw [if_pos hn];exact Ja op md lo hi ix n at_ l0 h0 i0 a0 hk hn w
  ·rw [if_neg hn];exact Qd op md lo hi ix n at_ l0 h0 i0 a0 hk hn w
