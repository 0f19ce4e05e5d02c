import Derived.Handy
import Derived.Test.YtcgjliflnnklnaaGreatRwGz
namespace Go.Proofs.YtcgjliflnnklnaaGreat
open Go.RowKit Tryz
set_option maxRecDepth 100000
set_option maxHeartbeats 20000000
theorem yy(w:World)(o1 o2 o3:Obj)(b i:Nat)(h:b<w.heap.size):(((w.alloc o1).alloc o2).alloc o3).cell? (Aq b i)=w.cell? (Aq b i):=
 (UT (yT (yT (yT (Below.refl _ _) o1) o2) o3)).1 b i h
theorem Yg(w:World)(o1 o2 o3 o4:Obj)(b i:Nat)(h:b<w.heap.size):((((w.alloc o1).alloc o2).alloc o3).alloc o4).cell? (Aq b i)=w.cell? (Aq b i):=
 (UT (yT (yT (yT (yT (Below.refl _ _) o1) o2) o3) o4)).1 b i h
theorem zgl(A X Y S P PC cyc:Int)(jam:Bool)(s0:0<=S/\S<256)(c0:0<=PC/\PC<65536)(b cap:Nat)(h:List Int)(md:BA)(hn:h.length=5)(w:World)(H:HdAt w b h):Cq 145 #[cdV (b3 82 84 83) md,.agg #[Iq A,Iq X,Iq Y,Iq S,Iq P,Iq PC,Iq cyc,Tq jam],hdV b h cap] w (zi (rdR (hd h 3+256*hd h 4))) fun w'=>Bq w w':=by
 unfold b3 cdV hdV;have:=s0;have:=c0;have l1:=H.lt;have l2:b≠w.heap.size:=by omega
 have l3:w.heap.size≠b:=by omega
 have l21:b≠w.heap.size+1:=by omega
 have l31:w.heap.size+1≠b:=by omega
 have l22:b≠w.heap.size+2:=by omega
 have l32:w.heap.size+2≠b:=by omega
 have l23:b≠w.heap.size+3:=by omega
 have l33:w.heap.size+3≠b:=by omega
 have c3:=H.c 3 zza;obtain ⟨p3,q3⟩:=H.r 3 zza;generalize hd h 3=h3 at*;have d3:=fun o1 o2 o3=>(yy w o1 o2 o3 b 3 l1).trans c3
 have f3:=fun o1 o2 o3 o4=>(Yg w o1 o2 o3 o4 b 3 l1).trans c3
 have c4:=H.c 4 zza;obtain ⟨p4,q4⟩:=H.r 4 zza;generalize hd h 4=h4 at*;have d4:=fun o1 o2 o3=>(yy w o1 o2 o3 b 4 l1).trans c4
 have f4:=fun o1 o2 o3 o4=>(Yg w o1 o2 o3 o4 b 4 l1).trans c4
 clear H;have w1:IntKind.i64.wrap (256*h4)=256*h4:=by rw [IntKind.wrap_i64];omega
 have w2:IntKind.i64.wrap (h3+256*h4)=h3+256*h4:=by rw [IntKind.wrap_i64];omega
 have w3:IntKind.i64.wrap (h3+1)=h3+1:=by rw [IntKind.wrap_i64];omega
 have w4:IntKind.i64.wrap ((h3+1)%256+256*h4)=(h3+1)%256+256*h4:=by rw [IntKind.wrap_i64];omega
 rw [hn];go_enter func145,ntmps145;go_wp2_with (first|with_reducible refine c8 ?_|with_reducible refine c16 ?_|with_reducible refine cRd fun o=>?_|with_reducible refine cWr fun o=>?_|with_reducible refine cDn fun o=>?_);go_region_held3 (fun w'=>w'.cell? (Aq b 3)=some (Iq h3)/\w'.cell? (Aq b 4)=some (Iq h4)) (go_keep) (first|with_reducible refine c8 ?_|with_reducible refine c16 ?_|with_reducible refine cRd fun o=>?_|with_reducible refine cWr fun o=>?_|with_reducible refine cDn fun o=>?_);all_goals (try (go_wp2_with (first|with_reducible refine c8 ?_|with_reducible refine c16 ?_|with_reducible refine cRd fun o=>?_|with_reducible refine cWr fun o=>?_|with_reducible refine cDn fun o=>?_)))
 all_goals (have hr:=results145;exact bodyPost_ret zr rfl ⟨rfl,zg⟩)
theorem zdC{p:Prop} (q:p:=by
 unfold b3 cdV hdV;have:=s0;have:=c0;have l1:=H.lt;have l2:b≠w.heap.size:=by omega
 have l3:w.heap.size≠b:=by omega
 have l21:b≠w.heap.size+1:=by omega
 have l31:w.heap.size+1≠b:=by omega
 have l22:b≠w.heap.size+2:=by omega
 have l32:w.heap.size+2≠b:=by omega
 have l23:b≠w.heap.size+3:=by omega
 have l33:w.heap.size+3≠b:=by omega
 have c1:=H.c 1 zza;obtain ⟨p1,q1⟩:=H.r 1 zza;generalize hd h 1=h1 at*;have d1:=fun o1 o2 o3=>(yy w o1 o2 o3 b 1 l1).trans c1
 have f1:=fun o1 o2 o3 o4=>(Yg w o1 o2 o3 o4 b 1 l1).trans c1
 have c2:=H.c 2 zza;obtain ⟨p2,q2⟩:=H.r 2 zza;generalize hd h 2=h2 at*;have d2:=fun o1 o2 o3=>(yy w o1 o2 o3 b 2 l1).trans c2
 have f2:=fun o1 o2 o3 o4=>(Yg w o1 o2 o3 o4 b 2 l1).trans c2
 clear H;have w1:IntKind.i64.wrap (256*h2)=256*h2:=by rw [IntKind.wrap_i64];omega
 have w2:IntKind.i64.wrap (h1+256*h2)=h1+256*h2:=by rw [IntKind.wrap_i64];omega
 have w3:IntKind.i64.wrap (h1+1)=h1+1:=by rw [IntKind.wrap_i64];omega
 have w4:IntKind.i64.wrap ((h1+1)%256+256*h2)=(h1+1)%256+256*h2:=by rw [IntKind.wrap_i64];omega
 rw [hn];go_enter func146,ntmps146;go_wp2_with (first|with_reducible refine c8 ?_|with_reducible refine c16 ?_|with_reducible refine cRd fun o=>?_|with_reducible refine cWr fun o=>?_|with_reducible refine cDn fun o=>?_);go_region_held3 (fun w'=>w'.cell? (Aq b 1)=some (Iq h1)/\w'.cell? (Aq b 2)=some (Iq h2)) (go_keep) (first|with_reducible refine c8 ?_|with_reducible refine c16 ?_|with_reducible refine cRd fun o=>?_|with_reducible refine cWr fun o=>?_|with_reducible refine cDn fun o=>?_);all_goals (try (go_wp2_with (first|with_reducible refine c8 ?_|with_reducible refine c16 ?_|with_reducible refine cRd fun o=>?_|with_reducible refine cWr fun o=>?_|with_reducible refine cDn fun o=>?_)))
 all_goals (have hr:=results146;exact bodyPost_ret zr rfl ⟨rfl,zg⟩)):p:=q
theorem zgm(A X Y S P PC cyc:Int)(jam:Bool)(s0:0<=S/\S<256)(c0:0<=PC/\PC<65536)(b cap:Nat)(h:List Int)(hn:h.length=3)(w:World)(H:HdAt w b h):Cq 146 #[cdV (b3 74 77 80) (b3 105 110 100),.agg #[Iq A,Iq X,Iq Y,Iq S,Iq P,Iq PC,Iq cyc,Tq jam],hdV b h cap] w (zi (rdR (hd h 1+256*hd h 2))) fun w'=>Bq w w':=zdC
theorem zgn(A X Y S P PC cyc:Int)(jam:Bool)(s0:0<=S/\S<256)(c0:0<=PC/\PC<65536)(b cap:Nat)(h:List Int)(hn:h.length=4)(w:World)(H:HdAt w b h):Cq 146 #[cdV (b3 74 77 80) (b3 97 98 115),.agg #[Iq A,Iq X,Iq Y,Iq S,Iq P,Iq PC,Iq cyc,Tq jam],hdV b h cap] w (zi (rdR ((hd h 1+1)%256+256*hd h 2))) fun w'=>Bq w w':=zdC
theorem zgo(A X Y S P PC cyc:Int)(jam:Bool)(s0:0<=S/\S<256)(c0:0<=PC/\PC<65536)(b cap:Nat)(h:List Int)(hn:h.length=4)(w:World)(H:HdAt w b h):Cq 146 #[cdV (b3 74 77 80) (b3 105 110 100),.agg #[Iq A,Iq X,Iq Y,Iq S,Iq P,Iq PC,Iq cyc,Tq jam],hdV b h cap] w (zi (rdR ((hd h 1+1)%256+256*hd h 2))) fun w'=>Bq w w':=zdC
def lP:List BA:=[b3 82 84 83,b3 82 84 73,b3 80 76 65,b3 80 76 80]
theorem zkr(op md:BA)(hop:op∈lP)(r:RG)(hr:RgR r)(b cap:Nat)(h:List Int)(h1:1<=h.length)(hl:h.length<=100)(w:World)(H:HdAt w b h):Cq 145 #[cdV op md,r.val,hdV b h cap] w (zi (xJ op r h)) fun w'=>Bq w w':=by
 obtain ⟨A,X,Y,S,P,PC,cyc,jam⟩:=r;have s0:0<=S/\S<256:=hr.s;have c0:0<=PC/\PC<65536:=hr.pc;clear hr;unfold lP at hop;simp only [List.mem_cons,List.not_mem_nil,or_false] at hop;by_cases h5:op=b3 82 84 83/\h.length=5
 ·obtain ⟨rfl,hn⟩:=h5;rw [show xJ (b3 82 84 83) ⟨A,X,Y,S,P,PC,cyc,jam⟩ h=rdR (hd h 3+256*hd h 4) from by unfold xJ;rw [hn];rfl];exact zgl A X Y S P PC cyc jam s0 c0 b cap h md hn w H
 ·clear H;by_cases h6:6<=h.length
  ·have n1:¬(h.length:Int)=1:=by omega
   have n5:¬(h.length:Int)=5:=by omega
   have m6:¬(h.length:Int)<6:=by omega
   have m5:¬(h.length:Int)<5:=by omega
   have m4:¬(h.length:Int)<4:=by omega
   rcases hop with rfl|rfl|rfl|rfl
   all_goals
    unfold xJ cdV hdV;dsimp only;generalize h.length=n at*;simp only [n1,n5,if_false,false_and];rw [if_neg (by first|exact m5|exact m6|exact m4)];go_enter func145,ntmps145;unfold b3 RG.val;go_wp2_with (first|with_reducible refine c8 ?_|with_reducible refine c16 ?_|with_reducible refine cRd fun o=>?_|with_reducible refine cWr fun o=>?_|with_reducible refine cDn fun o=>?_);go_returns;exact ⟨rfl,by go_grown⟩
  ·by_cases hn:h.length=5
   ·unfold cdV hdV;rcases hop with rfl|rfl|rfl|rfl
    ·exact absurd ⟨rfl,hn⟩ h5
    all_goals
     unfold xJ;rw [hn];go_enter func145,ntmps145;unfold b3 RG.val;go_wp2_with (first|with_reducible refine c8 ?_|with_reducible refine c16 ?_|with_reducible refine cRd fun o=>?_|with_reducible refine cWr fun o=>?_|with_reducible refine cDn fun o=>?_);go_returns;exact ⟨rfl,by go_grown⟩
   ·rcases (show h.length=1\/h.length=2\/h.length=3\/h.length=4 from by omega) with hn|hn|hn|hn
    all_goals
     unfold xJ cdV hdV;rw [hn];rcases hop with rfl|rfl|rfl|rfl
     all_goals
      go_enter func145,ntmps145;unfold b3 RG.val;go_wp2_with (first|with_reducible refine c8 ?_|with_reducible refine c16 ?_|with_reducible refine cRd fun o=>?_|with_reducible refine cWr fun o=>?_|with_reducible refine cDn fun o=>?_);go_returns;exact ⟨rfl,by go_grown⟩
def mJ:List BA:=[b3 97 98 115,b3 105 110 100]
theorem zlB{p:Prop} (q:p:=by
 rcases hmd with rfl|rfl
 all_goals
  go_enter func146,ntmps146;unfold b3 RG.val;go_wp2_with (first|with_reducible refine c8 ?_|with_reducible refine c16 ?_|with_reducible refine cRd fun o=>?_|with_reducible refine cWr fun o=>?_|with_reducible refine cDn fun o=>?_);go_returns;exact ⟨rfl,by go_grown⟩):p:=q
theorem zks(md:BA)(hmd:md∈mJ)(r:RG)(hr:RgR r)(b cap:Nat)(h:List Int)(h1:1<=h.length)(hl:h.length<=100)(w:World)(H:HdAt w b h):Cq 146 #[cdV (b3 74 77 80) md,r.val,hdV b h cap] w (zi (xj md r h)) fun w'=>Bq w w':=by
 obtain ⟨A,X,Y,S,P,PC,cyc,jam⟩:=r;have s0:0<=S/\S<256:=hr.s;have c0:0<=PC/\PC<65536:=hr.pc;clear hr;unfold mJ at hmd;simp only [List.mem_cons,List.not_mem_nil,or_false] at hmd;rcases (show h.length=1\/h.length=2\/h.length=3\/h.length=4\/5<=h.length from by omega) with hn|hn|hn|hn|hn
 ·unfold xj cdV hdV;rw [hn];exact zlB
 ·unfold xj cdV hdV;rw [hn];exact zlB
 ·rcases hmd with rfl|rfl
  ·unfold xj cdV hdV;rw [hn];go_enter func146,ntmps146;unfold b3 RG.val;go_wp2_with (first|with_reducible refine c8 ?_|with_reducible refine c16 ?_|with_reducible refine cRd fun o=>?_|with_reducible refine cWr fun o=>?_|with_reducible refine cDn fun o=>?_);go_returns;exact ⟨rfl,by go_grown⟩
  ·rw [show xj (b3 105 110 100) ⟨A,X,Y,S,P,PC,cyc,jam⟩ h=rdR (hd h 1+256*hd h 2) from by unfold xj;rw [hn];rfl];exact zgm A X Y S P PC cyc jam s0 c0 b cap h hn w H
 ·rcases hmd with rfl|rfl
  ·rw [show xj (b3 97 98 115) ⟨A,X,Y,S,P,PC,cyc,jam⟩ h=rdR ((hd h 1+1)%256+256*hd h 2) from by unfold xj;rw [hn];rfl];exact zgn A X Y S P PC cyc jam s0 c0 b cap h hn w H
  ·rw [show xj (b3 105 110 100) ⟨A,X,Y,S,P,PC,cyc,jam⟩ h=rdR ((hd h 1+1)%256+256*hd h 2) from by unfold xj;rw [hn];rfl];exact zgo A X Y S P PC cyc jam s0 c0 b cap h hn w H
 ·have n3:¬(h.length:Int)=3:=by omega
  have n4:¬(h.length:Int)=4:=by omega
  have m3:¬(h.length:Int)<3:=by omega
  rw [show xj md ⟨A,X,Y,S,P,PC,cyc,jam⟩ h=dnR from by unfold xj;dsimp only;rw [if_neg m3,if_neg (fun q=>n3 q.1),if_neg n4]];unfold cdV hdV;generalize h.length=n at*;exact zlB
