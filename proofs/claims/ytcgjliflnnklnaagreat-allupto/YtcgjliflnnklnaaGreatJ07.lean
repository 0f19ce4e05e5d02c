import Derived.Handy
import Derived.Test.YtcgjliflnnklnaaGreatJ06
import Derived.Test.YtcgjliflnnklnaaGreatRwHz
import Derived.Test.YtcgjliflnnklnaaGreatJ20
namespace Go.Proofs.YtcgjliflnnklnaaGreat
open Go.RowKit Tryz
set_option maxRecDepth 100000
set_option maxHeartbeats 20000000
theorem HdAt.later{w w':World}{b:Nat}{h:List Int}(H:HdAt w b h)(hb:Bq w w'):HdAt w' b h:=
 ⟨Nat.lt_of_lt_of_le H.lt hb.size,fun i hi=>(hb.cell (p:=(Aq b i)) H.lt).trans (H.c i hi),H.r⟩
def mA:List BA:=[b2 122 112,b3 122 112 120,b3 122 112 121,b3 97 98 115,b3 97 98 120,b3 97 98 121,b3 105 122 120,b3 105 122 121]
theorem zlV(op md:BA)(hmd:md∈mA)(r:RG)(hr:RgR r)(b cap:Nat)(h:List Int)(h1:1<=h.length)(hl:h.length<=100)(w:World)(H:HdAt w b h):Cq 148 #[cdV op md,r.val,hdV b h cap] w (plV (zj op md r h)) fun w'=>Bq w w':=by
 unfold mA at hmd;simp only [List.mem_cons,List.not_mem_nil,or_false] at hmd;rcases hmd with rfl|rfl|rfl|rfl|rfl|rfl|rfl|rfl
 ·exact zlU op r hr b cap h h1 hl w H
 ·exact zjn op r hr b cap h h1 hl w H
 ·exact zjo op r hr b cap h h1 hl w H
 ·exact zjp op r hr b cap h h1 hl w H
 ·exact zjq op r hr b cap h h1 hl w H
 ·exact zjr op r hr b cap h h1 hl w H
 ·exact zjs op r hr b cap h h1 hl w H
 ·exact zjt op r hr b cap h h1 hl w H
def OpA(op:BA):Prop:=op∈lR\/op∈lW\/op∈lC
theorem zoe(op md:BA)(hop:OpA op)(r:RG)(hr:RgR r)(b cap:Nat)(h:List Int)(a:Int)(fr:Nat)(a0:h.length<=100/\fr<=100)(w:World)(H:HdAt w b h):Cq 149 #[cdV op md,r.val,hdV b h cap,Iq a,Iq (fr:Int)] w (zi (yD op r h a fr)) fun w'=>Bq w w':=by
 rcases hop with hop|hop|hop
 ·exact ziY op md (zlN hop) r b cap h a fr a0 w
 ·exact ziZ op md hop r b cap h a fr a0 w
 ·exact zi0 op md hop r hr b cap h a fr a0 w H
theorem zaY(op md:BA)(r:RG)(h:List Int):∃fr:Nat,(zj op md r h).2.1=(fr:Int)/\fr<=100:=by
 unfold zj zZ;dsimp only;generalize (if md=(b3 122 112 121)\/md=(b3 97 98 121)\/md=(b3 105 122 121) then r.Y else r.X)=ix;generalize (if (h.length:Int)=2 then hd h 1 else if (h.length:Int)=3 then hd h 1+r.X else hd h 1+r.X+1)=iz;repeat' split
 all_goals first|exact ⟨0,rfl,by decide⟩|exact ⟨2,rfl,by decide⟩|exact ⟨3,rfl,by decide⟩|exact ⟨4,rfl,by decide⟩|exact ⟨5,rfl,by decide⟩
def NoN(op:BA):Prop:=op≠(b3 78 77 73)/\op≠(b3 73 82 81)/\op≠(b3 66 82 75)/\op≠(b3 74 83 82)/\op≠(b3 82 84 83)/\op≠(b3 82 84 73)/\op≠(b3 80 76 65)/\op≠(b3 80 76 80)/\op≠(b3 80 72 65)/\op≠(b3 80 72 80)/\op≠(b3 74 77 80)
def NoM(md:BA):Prop:=md≠(b3 105 109 112)/\md≠(b3 97 99 99)/\md≠(b3 105 109 109)/\md≠(b3 114 101 108)
theorem zlW{op:BA}(h:OpA op):NoN op:=by
 unfold OpA lR lW lC at h;simp only [List.mem_cons,List.not_mem_nil,or_false] at h;rcases h with (rfl|rfl|rfl|rfl|rfl|rfl|rfl|rfl|rfl|rfl|rfl|rfl)|(rfl|rfl|rfl)|(rfl|rfl|rfl|rfl|rfl|rfl);all_goals (unfold NoN;decide)
theorem no_A{md:BA}(h:md∈mA):NoM md:=by
 unfold mA at h;simp only [List.mem_cons,List.not_mem_nil,or_false] at h;rcases h with rfl|rfl|rfl|rfl|rfl|rfl|rfl|rfl;all_goals (unfold NoM;decide)
theorem zed(op md:BA)(hop:op=b3 78 77 73\/op=b3 73 82 81\/op=b3 66 82 75)(r:RG)(hr:RgR r)(b cap:Nat)(h:List Int)(h1:1<=h.length)(hl:h.length<=100)(w:World)(H:HdAt w b h):Cq 92 #[cdV op md,r.val,hdV b h cap] w (zi (zo op md r h)) fun w'=>Bq w w':=by
 have _u:=hl;have _v:=H;clear _u _v;rw [show zo op md r h=yI op r h.length from by unfold zo;rw [if_pos hop]];have C:=fun w' (_:Bq w w')=>ziK op md hop r hr h.length h1 w'
 obtain ⟨A,X,Y,S,P,PC,cyc,jam⟩:=r;have s0:0<=S/\S<256:=hr.s;have c0:0<=PC/\PC<65536:=hr.pc;generalize yI op ⟨A,X,Y,S,P,PC,cyc,jam⟩ h.length=q at*;obtain ⟨⟨ad,wr,da,ft⟩,ok⟩:=q;unfold zi Act.val cdV hdV RG.val at*;dsimp only at C⊢;generalize h.length=n at*;clear H hr;rcases hop with rfl|rfl|rfl
 all_goals
  unfold b3 at*;go_enter func92,ntmps92;go_wp2_with (go_at_call 141;refine (C _ ?fl).mono ?_;(case fl=>go_grown);rintro e w1 ⟨rfl,hb⟩;obtain ⟨-, -,g2,lt9,hB⟩:=UI hb;obtain ⟨k0,k1,k2,k3,kf⟩:=zcz g2;clear hb g2);refine bodyPost_ret (v:=zi (⟨ad,wr,da,ft⟩,ok)) (by simp [results,results92,go_sem,zi,Act.val,k0,k1,k2,k3]) rfl ⟨rfl,by go_grown⟩
theorem Qa(op md:BA)(hop:op∈lP)(r:RG)(hr:RgR r)(b cap:Nat)(h:List Int)(h1:1<=h.length)(hl:h.length<=100)(w:World)(H:HdAt w b h):Cq 92 #[cdV op md,r.val,hdV b h cap] w (zi (zo op md r h)) fun w'=>Bq w w':=by
 have _u:=hl;have _v:=H;clear _u _v;have e:zo op md r h=xJ op r h:=by
  unfold lP at hop;simp only [List.mem_cons,List.not_mem_nil,or_false] at hop;rcases hop with rfl|rfl|rfl|rfl<;>rfl
 rw [e];have C:=fun w' (hb:Bq w w')=>zkr op md hop r hr b cap h h1 hl w' (H.later hb)
 obtain ⟨A,X,Y,S,P,PC,cyc,jam⟩:=r;have s0:0<=S/\S<256:=hr.s;have c0:0<=PC/\PC<65536:=hr.pc;generalize xJ op ⟨A,X,Y,S,P,PC,cyc,jam⟩ h=q at*;obtain ⟨⟨ad,wr,da,ft⟩,ok⟩:=q;unfold zi Act.val cdV hdV RG.val at*;dsimp only at C⊢;generalize h.length=n at*;clear H hr e;unfold lP at hop;simp only [List.mem_cons,List.not_mem_nil,or_false] at hop;rcases hop with rfl|rfl|rfl|rfl
 all_goals
  unfold b3 at*;go_enter func92,ntmps92;go_wp2_with (go_at_call 145;refine (C _ ?fl).mono ?_;(case fl=>go_grown);rintro e w1 ⟨rfl,hb⟩;obtain ⟨-, -,g2,lt9,hB⟩:=UI hb;obtain ⟨k0,k1,k2,k3,kf⟩:=zcz g2;clear hb g2);refine bodyPost_ret (v:=zi (⟨ad,wr,da,ft⟩,ok)) (by simp [results,results92,go_sem,zi,Act.val,k0,k1,k2,k3]) rfl ⟨rfl,by go_grown⟩
theorem zb6(md:BA)(hmd:md∈mJ)(r:RG)(hr:RgR r)(b cap:Nat)(h:List Int)(h1:1<=h.length)(hl:h.length<=100)(w:World)(H:HdAt w b h):Cq 92 #[cdV (b3 74 77 80) md,r.val,hdV b h cap] w (zi (zo (b3 74 77 80) md r h)) fun w'=>Bq w w':=by
 have _u:=hl;have _v:=H;clear _u _v;rw [show zo (b3 74 77 80) md r h=xj md r h from rfl];have C:=fun w' (hb:Bq w w')=>zks md hmd r hr b cap h h1 hl w' (H.later hb)
 obtain ⟨A,X,Y,S,P,PC,cyc,jam⟩:=r;have s0:0<=S/\S<256:=hr.s;have c0:0<=PC/\PC<65536:=hr.pc;generalize xj md ⟨A,X,Y,S,P,PC,cyc,jam⟩ h=q at*;obtain ⟨⟨ad,wr,da,ft⟩,ok⟩:=q;unfold zi Act.val cdV hdV RG.val at*;dsimp only at C⊢;generalize h.length=n at*;clear H hr hmd;unfold b3 at*;go_enter func92,ntmps92;go_wp2_with (go_at_call 146;refine (C _ ?fl).mono ?_;(case fl=>go_grown);rintro e w1 ⟨rfl,hb⟩;obtain ⟨-, -,g2,lt9,hB⟩:=UI hb;obtain ⟨k0,k1,k2,k3,kf⟩:=zcz g2;clear hb g2);refine bodyPost_ret (v:=zi (⟨ad,wr,da,ft⟩,ok)) (by simp [results,results92,go_sem,zi,Act.val,k0,k1,k2,k3]) rfl ⟨rfl,by go_grown⟩
theorem zmf{p:Prop} (q:p:=by
 rcases hmd with rfl|rfl|rfl
 all_goals
  go_enter func92,ntmps92;unfold RG.val;go_wp2_with (first|with_reducible refine c8 ?_|with_reducible refine c16 ?_|with_reducible refine cRd fun o=>?_|with_reducible refine cWr fun o=>?_|with_reducible refine cDn fun o=>?_);go_returns;exact ⟨rfl,by go_grown⟩):p:=q
theorem VO(op md:BA)(no:NoN op)(hmd:md=b3 105 109 112\/md=b3 97 99 99\/md=b3 105 109 109)(r:RG)(hr:RgR r)(b cap:Nat)(h:List Int)(h1:1<=h.length)(hl:h.length<=100)(w:World)(H:HdAt w b h):Cq 92 #[cdV op md,r.val,hdV b h cap] w (zi (zo op md r h)) fun w'=>Bq w w':=by
 have _u:=hl;have _v:=H;clear _u _v;have e:zo op md r h=(if (h.length:Int)=1 then rdR (r.PC+1) else dnR):=by
  obtain ⟨a1,a2,a3,a4,a5,a6,a7,a8,a9,a10,a11⟩:=no;unfold zo;dsimp only;rw [if_neg (by rintro (q|q|q)<;>contradiction),if_neg a4,if_neg (by rintro (q|q|q|q)<;>contradiction),if_neg (fun q=>a9 q.1),if_neg (fun q=>a10 q.1),if_neg a11,if_pos hmd]
 rw [e];have z0:=zK no.1;have z1:=zK no.2.1;have z2:=zK no.2.2.1;have z3:=zK no.2.2.2.1;have z4:=zK no.2.2.2.2.1;have z5:=zK no.2.2.2.2.2.1;have z6:=zK no.2.2.2.2.2.2.1;have z7:=zK no.2.2.2.2.2.2.2.1;have z8:=zK no.2.2.2.2.2.2.2.2.1;have z9:=zK no.2.2.2.2.2.2.2.2.2.1;have z10:=zK no.2.2.2.2.2.2.2.2.2.2;obtain ⟨A,X,Y,S,P,PC,cyc,jam⟩:=r;have c0:0<=PC/\PC<65536:=hr.pc;clear H hr e no;unfold cdV hdV;generalize h.length=n at*;unfold b3 at*;rcases (show n=1\/2<=n from by omega) with hn|hn
 ·subst hn;exact zmf
 ·rw [if_neg zza];have n1:¬(n:Int)=1:=by omega
  exact zmf
theorem zeC(op:BA)(no:NoN op)(hop:op∈lB)(r:RG)(hr:RgR r)(b cap:Nat)(h:List Int)(h1:1<=h.length)(hl:h.length<=100)(w:World)(H:HdAt w b h):Cq 92 #[cdV op (b3 114 101 108),r.val,hdV b h cap] w (zi (zo op (b3 114 101 108) r h)) fun w'=>Bq w w':=by
 have _u:=hl;have _v:=H;clear _u _v;have e:zo op (b3 114 101 108) r h=yd op r h:=by
  obtain ⟨a1,a2,a3,a4,a5,a6,a7,a8,a9,a10,a11⟩:=no;unfold zo;dsimp only;rw [if_neg (by rintro (q|q|q)<;>contradiction),if_neg a4,if_neg (by rintro (q|q|q|q)<;>contradiction),if_neg (fun q=>a9 q.1),if_neg (fun q=>a10 q.1),if_neg a11,if_neg zzb,if_pos rfl]
 rw [e];have C:=fun w' (hb:Bq w w')=>zcd op (b3 114 101 108) hop r hr b cap h h1 hl w' (H.later hb)
 have z0:=zK no.1;have z1:=zK no.2.1;have z2:=zK no.2.2.1;have z3:=zK no.2.2.2.1;have z4:=zK no.2.2.2.2.1;have z5:=zK no.2.2.2.2.2.1;have z6:=zK no.2.2.2.2.2.2.1;have z7:=zK no.2.2.2.2.2.2.2.1;have z8:=zK no.2.2.2.2.2.2.2.2.1;have z9:=zK no.2.2.2.2.2.2.2.2.2.1;have z10:=zK no.2.2.2.2.2.2.2.2.2.2;obtain ⟨A,X,Y,S,P,PC,cyc,jam⟩:=r;generalize yd op ⟨A,X,Y,S,P,PC,cyc,jam⟩ h=q at*;obtain ⟨⟨ad,wr,da,ft⟩,ok⟩:=q;unfold zi Act.val cdV hdV RG.val at*;dsimp only at C⊢;clear H hr e no hop;generalize h.length=n at*;unfold b3 at*;go_enter func92,ntmps92;go_wp2_with (go_at_call 147;refine (C _ ?fl).mono ?_;(case fl=>go_grown);rintro e w1 ⟨rfl,hb⟩;obtain ⟨-, -,g2,lt9,hB⟩:=UI hb;obtain ⟨k0,k1,k2,k3,kf⟩:=zcz g2;clear hb g2);refine bodyPost_ret (v:=zi (⟨ad,wr,da,ft⟩,ok)) (by simp [results,results92,go_sem,zi,Act.val,k0,k1,k2,k3]) rfl ⟨rfl,by go_grown⟩
theorem zmt{w1 w2:World}{o:Obj}(hb:Below (w1.alloc o).heap.size (w1.alloc o) w2):(∀n i,n<w1.heap.size->w2.cell? (Aq n i)=w1.cell? (Aq n i))/\(∀n i,n<w1.heap.size->w2.frozen? (Aq n i)=w1.frozen? (Aq n i)):=by
 have e:∀n,n<w1.heap.size->w2.heap[n]?=w1.heap[n]?:=fun n hn=>(hb.block n zzd).trans (Below.heap_alloc _ _ _ hn)
 exact ⟨fun n i hn=>World.cell?_of_block (a:=(Aq n i)) (e n hn),fun n i hn=>World.frozen?_of_block (a:=(Aq n i)) (e n hn)⟩
theorem Hp{w a b:World}(h:Bq a b)(g:Bq w a)(hs:w.heap.size<=a.heap.size):Bq w b:=g.trans (h.mono hs)
theorem Ku(op md:BA)(hop:OpA op)(hmd:md∈mA)(r:RG)(hr:RgR r)(b cap:Nat)(h:List Int)(h1:1<=h.length)(hl:h.length<=100)(w:World)(H:HdAt w b h):Cq 92 #[cdV op md,r.val,hdV b h cap] w (zi (zo op md r h)) fun w'=>Bq w w':=by
 have _u:=hl;have _v:=H;clear _u _v;have no:=zlW hop;have nm:=no_A hmd;have e:zo op md r h=(if (zj op md r h).2.2.2=false then ((zj op md r h).2.2.1,true) else yD op r h (zj op md r h).1 (zj op md r h).2.1):=by
  obtain ⟨a1,a2,a3,a4,a5,a6,a7,a8,a9,a10,a11⟩:=no;obtain ⟨m1,m2,m3,m4⟩:=nm;unfold zo;dsimp only;rw [if_neg (by rintro (q|q|q)<;>contradiction),if_neg a4,if_neg (by rintro (q|q|q|q)<;>contradiction),if_neg (fun q=>a9 q.1),if_neg (fun q=>a10 q.1),if_neg a11,if_neg (by rintro (q|q|q)<;>contradiction),if_neg m4]
 rw [e];have C:=fun w' (hb:Bq w w')=>zlV op md hmd r hr b cap h h1 hl w' (H.later hb)
 obtain ⟨fr,hfr,hf1⟩:=zaY op md r h;generalize zj op md r h=q at*;obtain ⟨pa,pf,⟨ad0,wr0,da0,ft0⟩,pok⟩:=q;dsimp only at hfr;subst hfr;have U:=fun w' (hb:Bq w w')=>zoe op md hop r hr b cap h pa fr ⟨hl,hf1⟩ w' (H.later hb)
 have z0:=zK no.1;have z1:=zK no.2.1;have z2:=zK no.2.2.1;have z3:=zK no.2.2.2.1;have z4:=zK no.2.2.2.2.1;have z5:=zK no.2.2.2.2.2.1;have z6:=zK no.2.2.2.2.2.2.1;have z7:=zK no.2.2.2.2.2.2.2.1;have z8:=zK no.2.2.2.2.2.2.2.2.1;have z9:=zK no.2.2.2.2.2.2.2.2.2.1;have z10:=zK no.2.2.2.2.2.2.2.2.2.2;have x0:=zK nm.1;have x1:=zK nm.2.1;have x2:=zK nm.2.2.1;have x3:=zK nm.2.2.2;obtain ⟨A,X,Y,S,P,PC,cyc,jam⟩:=r;clear H hr e no nm hop hmd hf1;cases pok
 ·rw [if_pos rfl];clear U;unfold plV zi Act.val cdV hdV RG.val at*;dsimp only at C⊢;generalize h.length=n at*;go_enter func92,ntmps92;go_wp2_with (go_at_call 148;refine (C _ ?fl).mono ?_;(case fl=>go_grown);rintro e w1 ⟨rfl,hb⟩;obtain ⟨y0,y1,y2,lt9,hB⟩:=UI hb;obtain ⟨i0,i1,i9⟩:=znk y0;obtain ⟨j0,j1,j2,j3,j4,j5,j6,j7,j9⟩:=zcA y1;obtain ⟨k0,k1,k2,k3,kf⟩:=zcz y2;have lt7:w.heap.size<w1.heap.size:=zza;have lt8:w.heap.size+1<w1.heap.size:=zza;clear hb y0 y1 y2);refine bodyPost_ret (v:=zi (⟨ad0,wr0,da0,ft0⟩,true)) (by simp [results,results92,go_sem,zi,Act.val,k0,k1,k2,k3,lt9]) rfl ⟨rfl,by go_grown⟩
 ·rw [if_neg (fun q=>by cases q)];generalize yD op ⟨A,X,Y,S,P,PC,cyc,jam⟩ h pa fr=q at*;obtain ⟨⟨ad,wr,da,ft⟩,ok⟩:=q;unfold plV zi Act.val cdV hdV RG.val at*;dsimp only at C U⊢;generalize h.length=n at*;go_enter func92,ntmps92;go_wp2_with (first|(go_at_call 148;refine (C _ ?fl).mono ?_;(case fl=>go_grown);rintro e w1 ⟨rfl,hb⟩;obtain ⟨y0,y1,y2,lt9,hB⟩:=UI hb;obtain ⟨i0,i1,i9⟩:=znk y0;obtain ⟨j0,j1,j2,j3,j4,j5,j6,j7,j9⟩:=zcA y1;obtain ⟨k0,k1,k2,k3,kf⟩:=zcz y2;have lt7:w.heap.size<w1.heap.size:=zza;have lt8:w.heap.size+1<w1.heap.size:=zza;clear hb y0 y1 y2)|(go_at_call 149;refine (U _ ?fl).mono ?_;(case fl=>go_grown);rintro e w2 ⟨rfl,hb⟩;obtain ⟨kp,kq⟩:=zmt hb;have l0:=(kp _ 0 lt9).trans k0;have l1:=(kp _ 1 lt9).trans k1;have l2:=(kp _ 2 lt9).trans k2;have l3:=(kp _ 3 lt9).trans k3;have lf:=fun o=>(kq _ o lt9).trans (kf o);have hC:=Hp hb (by go_grown) (Nat.le_trans hB.size zzc);clear hb kp kq));refine bodyPost_ret (v:=zi (⟨ad,wr,da,ft⟩,ok)) (by simp [results,results92,go_sem,zi,Act.val,l0,l1,l2,l3]) rfl ⟨rfl,by go_grown⟩
