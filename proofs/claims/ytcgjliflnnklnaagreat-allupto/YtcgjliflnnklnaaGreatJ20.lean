import Derived.Handy
import Derived.Test.YtcgjliflnnklnaaGreatJ03
import Derived.Test.YtcgjliflnnklnaaGreatRwGz
import Derived.Test.YtcgjliflnnklnaaGreatRwFz
import Derived.Test.YtcgjliflnnklnaaGreatJ05
namespace Go.Proofs.YtcgjliflnnklnaaGreat
open Go.RowKit Tryz
set_option maxRecDepth 100000
set_option maxHeartbeats 20000000
theorem UI{w w1:World}{a b c:Obj}(hb:Below (((w.alloc a).alloc b).alloc c).heap.size (((w.alloc a).alloc b).alloc c) w1):w1.heap[w.heap.size]?=some a/\w1.heap[w.heap.size+1]?=some b/\w1.heap[w.heap.size+1+1]?=some c/\w.heap.size+1+1<w1.heap.size/\Bq w w1:=by
 have s:=hb.size;simp only [World.size_alloc] at s;refine ⟨(hb.block _ zzg).trans ?_,(hb.block _ zzg).trans ?_,(hb.block _ zzg).trans ?_,by omega,?_⟩
 ·rw [Below.heap_alloc _ _ _ zzg,Below.heap_alloc _ _ _ zzg];exact heap_alloc_new w a
 ·rw [Below.heap_alloc _ _ _ zzg];have:=heap_alloc_new (w.alloc a) b;rwa [World.size_alloc] at this
 ·have:=heap_alloc_new ((w.alloc a).alloc b) c;rwa [World.size_alloc,World.size_alloc] at this
 ·exact ((((Below.refl _ _).alloc (Nat.le_refl _) a).alloc zzg b).alloc zzg c).trans (hb.mono zzg)
theorem znj{w w1:World}{a b c d:Obj}(hb:Below ((((w.alloc a).alloc b).alloc c).alloc d).heap.size ((((w.alloc a).alloc b).alloc c).alloc d) w1):w1.heap[w.heap.size]?=some a/\w1.heap[w.heap.size+1]?=some b/\w1.heap[w.heap.size+1+1]?=some c/\w1.heap[w.heap.size+1+1+1]?=some d/\w.heap.size+1+1+1<w1.heap.size/\Bq w w1:=by
 have h:=UI (w:=w.alloc a) hb;have s:(w.alloc a).heap.size=w.heap.size+1:=World.size_alloc _ _;rw [s] at h;have k:=h.2.2.2.2;refine ⟨(k.block _ zza).trans (heap_alloc_new w a),h.1,h.2.1,h.2.2.1,by omega,?_⟩;exact ((Below.refl _ _).alloc (Nat.le_refl _) a).trans (k.mono zza)
theorem znk{w:World}{n:Nat}{v0 v1:Value}{t:TypeId}(h:w.heap[n]?=some (.cells #[v0,v1] t (0,0))):w.cell? (Aq n 0)=some v0/\w.cell? (Aq n 1)=some v1/\∀o,w.frozen? (Aq n o)=false:=
 ⟨by rw [cell_of_row _ _ _ _ _ _ h];rfl,by rw [cell_of_row _ _ _ _ _ _ h];rfl,fun o=>by unfold World.frozen?;rw [h];simp⟩
theorem zcz{w:World}{n:Nat}{v0 v1 v2 v3:Value}{t:TypeId}(h:w.heap[n]?=some (.cells #[v0,v1,v2,v3] t (0,0))):w.cell? (Aq n 0)=some v0/\w.cell? (Aq n 1)=some v1/\w.cell? (Aq n 2)=some v2/\w.cell? (Aq n 3)=some v3/\∀o,w.frozen? (Aq n o)=false:=
 ⟨by rw [cell_of_row _ _ _ _ _ _ h];rfl,by rw [cell_of_row _ _ _ _ _ _ h];rfl,by rw [cell_of_row _ _ _ _ _ _ h];rfl,by rw [cell_of_row _ _ _ _ _ _ h];rfl,fun o=>by unfold World.frozen?;rw [h];simp⟩
theorem zcA{w:World}{n:Nat}{v0 v1 v2 v3 v4 v5 v6 v7:Value}{t:TypeId}(h:w.heap[n]?=some (.cells #[v0,v1,v2,v3,v4,v5,v6,v7] t (0,0))):w.cell? (Aq n 0)=some v0/\w.cell? (Aq n 1)=some v1/\w.cell? (Aq n 2)=some v2/\w.cell? (Aq n 3)=some v3/\w.cell? (Aq n 4)=some v4/\w.cell? (Aq n 5)=some v5/\w.cell? (Aq n 6)=some v6/\w.cell? (Aq n 7)=some v7/\∀o,w.frozen? (Aq n o)=false:=
 ⟨by rw [cell_of_row _ _ _ _ _ _ h];rfl,by rw [cell_of_row _ _ _ _ _ _ h];rfl,by rw [cell_of_row _ _ _ _ _ _ h];rfl,by rw [cell_of_row _ _ _ _ _ _ h];rfl,by rw [cell_of_row _ _ _ _ _ _ h];rfl,by rw [cell_of_row _ _ _ _ _ _ h];rfl,by rw [cell_of_row _ _ _ _ _ _ h];rfl,by rw [cell_of_row _ _ _ _ _ _ h];rfl,fun o=>by unfold World.frozen?;rw [h];simp⟩
theorem zK{op:BA}{a b c:UInt8}(h:op≠b3 a b c):(ByteArray.toList op==[a,b,c])=false:=by
 have:=zj7 h;rw [Go.ByteArray.toList_eq (b3 a b c)] at this;exact this
theorem HdAt.later'{w w':World}{b:Nat}{h:List Int}(H:HdAt w b h)(hb:Bq w w'):HdAt w' b h:=
 ⟨Nat.lt_of_lt_of_le H.lt hb.size,fun i hi=>(hb.cell (p:=(Aq b i)) H.lt).trans (H.c i hi),H.r⟩
def zf3:List BA:=[b3 74 83 82,b3 82 84 83,b3 82 84 73,b3 74 77 80]
theorem vN(op:BA)(q:Bool)(hq:(zf3.any fun s=>decide (s=op))=q)(w:World)(t:TypeId)(b:Nat)(hb:b=w.heap.size):Cq 151 #[Sq b 4 4,Zq op] (w.alloc (.cells #[Zq ⟨#[74,83,82]⟩,Zq ⟨#[82,84,83]⟩,Zq ⟨#[82,84,73]⟩,Zq ⟨#[74,77,80]⟩] t)) (Tq q) fun w'=>w'=w.alloc (.cells #[Zq ⟨#[74,83,82]⟩,Zq ⟨#[82,84,83]⟩,Zq ⟨#[82,84,73]⟩,Zq ⟨#[74,77,80]⟩] t):=by
 subst hb;subst hq;exact zat w.heap.size 4 4 zf3 op _ rfl zzb (V6 w zf3 t)
theorem zf4(op md:BA)(hop:op=b3 78 77 73\/op=b3 73 82 81\/op=b3 66 82 75)(r:RG)(hr:RgR r)(b cap:Nat)(h:List Int)(hl:h.length<=100)(hk:zcI op h.length)(w:World)(H:HdAt w b h):Calls prog 96 #[cdV op md,r.val,hdV b h cap] w fun e w'=>e=.returned (zV op md r h).val/\Bq w w':=by
 have hf:qz op=true:=by rcases hop with rfl|rfl|rfl<;>rfl
 rw [show zV op md r h=xC op r h from by unfold zV;rw [if_pos hf]];have FL:=fun w' (hb:Bq w w')=>zfk op r hr b cap h hl hk w' (H.later' hb)
 generalize xC op r h=R at*;obtain ⟨A,X,Y,S,P,PC,cyc,jam⟩:=r;obtain ⟨A',X',Y',S',P',PC',cyc',jam'⟩:=R;unfold RG.val cdV hdV at*;clear hf hk H hr;have AM:=fun hq=>vN op true hq
 dsimp only at FL⊢;rcases hop with rfl|rfl|rfl
 all_goals
  unfold b3 at*;go_enter func96,ntmps96;go_wp2_with (first|(go_at_call 151;refine (AM (by first|decide|rfl) _ _ _ zzc).mono ?_;rintro e w1 ⟨rfl,rfl⟩)|(go_at_call 152;refine (FL _ ?fl).mono ?_;(case fl=>go_grown);rintro e w1 ⟨rfl,hb⟩;obtain ⟨-, -,g2,lt9,hB⟩:=UI hb;obtain ⟨k0,k1,k2,k3,k4,k5,k6,k7,kf⟩:=zcA g2;clear hb g2));all_goals (try (go_region_with (first|(go_at_call 151;refine (AM (by first|decide|rfl) _ _ _ zzc).mono ?_;rintro e w1 ⟨rfl,rfl⟩))))
  all_goals (try (go_wp2_with (go_at_call 152;refine (FL _ ?fl).mono ?_;(case fl=>go_grown);rintro e w1 ⟨rfl,hb⟩;obtain ⟨-, -,g2,lt9,hB⟩:=UI hb;obtain ⟨k0,k1,k2,k3,k4,k5,k6,k7,kf⟩:=zcA g2;clear hb g2)))
  all_goals refine bodyPost_ret (v:=RG.val ⟨A',X',Y',S',P',PC',cyc',jam'⟩) (by simp [results,results96,go_sem,RG.val,k0,k1,k2,k3,k4,k5,k6,k7]) rfl ⟨rfl,by go_grown⟩
theorem Xd(op md:BA)(hop:op=b3 74 83 82\/op=b3 82 84 83\/op=b3 82 84 73\/op=b3 74 77 80)(r:RG)(hr:RgR r)(b cap:Nat)(h:List Int)(hl:h.length<=100)(hk:zcI op h.length)(w:World)(H:HdAt w b h):Calls prog 96 #[cdV op md,r.val,hdV b h cap] w fun e w'=>e=.returned (zV op md r h).val/\Bq w w':=by
 have hf:qz op=true:=by rcases hop with rfl|rfl|rfl|rfl<;>rfl
 rw [show zV op md r h=xC op r h from by unfold zV;rw [if_pos hf]];have FL:=fun w' (hb:Bq w w')=>zfk op r hr b cap h hl hk w' (H.later' hb)
 generalize xC op r h=R at*;obtain ⟨A,X,Y,S,P,PC,cyc,jam⟩:=r;obtain ⟨A',X',Y',S',P',PC',cyc',jam'⟩:=R;unfold RG.val cdV hdV at*;clear hf hk H hr;have AM:=fun hq=>vN op true hq
 dsimp only at FL⊢;rcases hop with rfl|rfl|rfl|rfl
 all_goals
  unfold b3 at*;go_enter func96,ntmps96;go_wp2_with (first|(go_at_call 151;refine (AM (by first|decide|rfl) _ _ _ zzc).mono ?_;rintro e w1 ⟨rfl,rfl⟩)|(go_at_call 152;refine (FL _ ?fl).mono ?_;(case fl=>go_grown);rintro e w1 ⟨rfl,hb⟩;obtain ⟨-, -,g2, -,lt9,hB⟩:=znj hb;obtain ⟨k0,k1,k2,k3,k4,k5,k6,k7,kf⟩:=zcA g2;clear hb g2));all_goals (try (go_region_with (first|(go_at_call 151;refine (AM (by first|decide|rfl) _ _ _ zzc).mono ?_;rintro e w1 ⟨rfl,rfl⟩))))
  all_goals (try (go_wp2_with (go_at_call 152;refine (FL _ ?fl).mono ?_;(case fl=>go_grown);rintro e w1 ⟨rfl,hb⟩;obtain ⟨-, -,g2, -,lt9,hB⟩:=znj hb;obtain ⟨k0,k1,k2,k3,k4,k5,k6,k7,kf⟩:=zcA g2;clear hb g2)))
  all_goals refine bodyPost_ret (v:=RG.val ⟨A',X',Y',S',P',PC',cyc',jam'⟩) (by simp [results,results96,go_sem,RG.val,k0,k1,k2,k3,k4,k5,k6,k7]) rfl ⟨rfl,by go_grown⟩
theorem zf8(op:BA)(r:RG)(s0:0<=r.S/\r.S<256)(b cap:Nat)(h:List Int)(hl:h.length<=100)(hk:zcI op h.length)(w:World)(H:HdAt w b h):Calls prog 152 #[Zq op,r.val,hdV b h cap] w fun e w'=>e=.returned (xC op r h).val/\Bq w w':=by
 obtain ⟨A,X,Y,S,P,PC,cyc,jam⟩:=r;exact znL
theorem zf9{op:BA}(hop:op∈lI){r:RG}(hr:RgR r):0<=(xZ op r).S/\(xZ op r).S<256:=by
 have s:=hr.s;unfold lI at hop;simp only [List.mem_cons,List.not_mem_nil,or_false] at hop;rcases hop with rfl|rfl|rfl|rfl|rfl|rfl|rfl|rfl|rfl|rfl|rfl|rfl|rfl|rfl|rfl|rfl|rfl|rfl|rfl|rfl|rfl|rfl;all_goals first|exact hr.s|exact hr.x|(show 0<=(r.S-1)%256/\(r.S-1)%256<256;omega)
def NoF(op:BA):Prop:=op≠(b3 78 77 73)/\op≠(b3 73 82 81)/\op≠(b3 66 82 75)/\op≠(b3 74 83 82)/\op≠(b3 82 84 83)/\op≠(b3 82 84 73)/\op≠(b3 74 77 80)
theorem jy{op:BA}(h:NoF op):qz op=false:=by
 obtain ⟨a1,a2,a3,a4,a5,a6,a7⟩:=h;unfold qz;simp only [zar,decide_eq_false a1,decide_eq_false a2,decide_eq_false a3,decide_eq_false a4,decide_eq_false a5,decide_eq_false a6,decide_eq_false a7,Bool.or_self]
theorem jA{op:BA}(h:NoF op):(zf3.any fun s=>decide (s=op))=false:=by
 obtain ⟨a1,a2,a3,a4,a5,a6,a7⟩:=h;unfold zf3;simp only [List.any_cons,List.any_nil,decide_eq_false (Ne.symm a4),decide_eq_false (Ne.symm a5),decide_eq_false (Ne.symm a6),decide_eq_false (Ne.symm a7),Bool.or_self]
theorem zlY{op:BA}(hop:op∈lI):NoF op:=by
 unfold lI at hop;simp only [List.mem_cons,List.not_mem_nil,or_false] at hop;rcases hop with rfl|rfl|rfl|rfl|rfl|rfl|rfl|rfl|rfl|rfl|rfl|rfl|rfl|rfl|rfl|rfl|rfl|rfl|rfl|rfl|rfl|rfl;all_goals (unfold NoF;decide)
theorem zdi{op:BA}(hop:op∈lR):NoF op:=by
 unfold lR at hop;simp only [List.mem_cons,List.not_mem_nil,or_false] at hop;rcases hop with rfl|rfl|rfl|rfl|rfl|rfl|rfl|rfl|rfl|rfl|rfl|rfl;all_goals (unfold NoF;decide)
theorem zlZ{op:BA}(hop:op∈lW):NoF op:=by
 unfold lW at hop;simp only [List.mem_cons,List.not_mem_nil,or_false] at hop;rcases hop with rfl|rfl|rfl;all_goals (unfold NoF;decide)
theorem zjR{op:BA}(hop:op∈lC):NoF op:=by
 unfold lC at hop;simp only [List.mem_cons,List.not_mem_nil,or_false] at hop;rcases hop with rfl|rfl|rfl|rfl|rfl|rfl;all_goals (unfold NoF;decide)
theorem zl0{op:BA}(hop:op∈lB):NoF op:=by
 unfold lB at hop;simp only [List.mem_cons,List.not_mem_nil,or_false] at hop;rcases hop with rfl|rfl|rfl|rfl|rfl|rfl|rfl|rfl;all_goals (unfold NoF;decide)
theorem RgR.withPC{r:RG}(h:RgR r)(n:Int):RgR {r with PC:=n%65536}:=⟨h.a,h.x,h.y,h.s,h.p,by show 0<=n%65536/\n%65536<65536;omega⟩
theorem ze0(op:BA)(hop:op∈lC)(r:RG)(hr:RgR r)(b cap:Nat)(h:List Int)(hl:h.length<=100)(w:World)(H:HdAt w b h):Calls prog 96 #[cdV op (b3 97 99 99),r.val,hdV b h cap] w fun e w'=>e=.returned (zV op (b3 97 99 99) r h).val/\Bq w w':=by
 have _v:=H;have _u:=hl;clear _u _v;have no:=zjR hop;rw [show zV op (b3 97 99 99) r h={r with PC:=(r.PC+1)%65536,A:=(zF op r.A r.P).1,P:=(zF op r.A r.P).2} from by unfold zV;rw [if_neg (by rw [jy no];decide)];rfl];obtain ⟨A,X,Y,S,P,PC,cyc,jam⟩:=r;have c0:0<=PC/\PC<65536:=hr.pc;have a0:0<=A/\A<256:=hr.a;have p0:0<=P/\P<256:=hr.p;have CHG:=fun w=>V8 op hop A P a0.1 a0.2 p0.1 p0.2 w
 dsimp only;generalize zF op A P=cq at*;obtain ⟨c1,c2⟩:=cq;unfold chV at CHG;dsimp only at CHG⊢;have z0:=zK no.1;have z1:=zK no.2.1;have z2:=zK no.2.2.1;have AM:=vN op false (jA no);clear no hop H hr;unfold cdV hdV RG.val b3;generalize h.length=n at*;go_enter func96,ntmps96;go_wp2_with (first|(go_at_call 151;refine (AM _ _ _ zzc).mono ?_;rintro e w1 ⟨rfl,rfl⟩)|with_reducible refine c16 ?_|(go_at_call 156;refine (CHG _).mono ?_;rintro e w1 ⟨rfl,hw⟩;subst hw));all_goals (try (go_quiet (fail)))
 all_goals (try (go_wp2_with (first|(go_at_call 151;refine (AM _ _ _ zzc).mono ?_;rintro e w1 ⟨rfl,rfl⟩)|with_reducible refine c16 ?_|(go_at_call 156;refine (CHG _).mono ?_;rintro e w1 ⟨rfl,hw⟩;subst hw))))
 all_goals (try (go_region_with (first|(go_at_call 151;refine (AM _ _ _ zzc).mono ?_;rintro e w1 ⟨rfl,rfl⟩)|with_reducible refine c16 ?_|(go_at_call 156;refine (CHG _).mono ?_;rintro e w1 ⟨rfl,hw⟩;subst hw))))
 all_goals (try (go_wp2_with (first|(go_at_call 151;refine (AM _ _ _ zzc).mono ?_;rintro e w1 ⟨rfl,rfl⟩)|with_reducible refine c16 ?_|(go_at_call 156;refine (CHG _).mono ?_;rintro e w1 ⟨rfl,hw⟩;subst hw))))
 all_goals go_returns
 all_goals exact ⟨rfl,by go_grown⟩
theorem jL{W w1:World}(hb:Below W.drew.heap.size W.drew w1):(∀n i,n<W.heap.size->w1.cell? (Aq n i)=W.cell? (Aq n i))/\(∀n i,n<W.heap.size->w1.frozen? (Aq n i)=W.frozen? (Aq n i))/\W.heap.size<=w1.heap.size/\Bq W w1:=
 ⟨fun n i hn=>World.cell?_of_block (a:=(Aq n i)) (hb.block n hn),fun n i hn=>World.frozen?_of_block (a:=(Aq n i)) (hb.block n hn),hb.size,hb.os,hb.tape,hb.output,hb.size,hb.block⟩
theorem zlv{W w1:World}(hb:Bq W w1):(∀n i,n<W.heap.size->w1.cell? (Aq n i)=W.cell? (Aq n i))/\(∀n i,n<W.heap.size->w1.frozen? (Aq n i)=W.frozen? (Aq n i))/\W.heap.size<=w1.heap.size/\Bq W w1:=
 ⟨fun n i hn=>World.cell?_of_block (a:=(Aq n i)) (hb.block n hn),fun n i hn=>World.frozen?_of_block (a:=(Aq n i)) (hb.block n hn),hb.size,hb⟩
theorem zfp(op:BA)(hop:op∈lI)(r:RG)(hr:RgR r)(b cap:Nat)(h:List Int)(hl:h.length<=100)(hk:zcI op h.length)(w:World)(H:HdAt w b h):Calls prog 96 #[cdV op (b3 105 109 112),r.val,hdV b h cap] w fun e w'=>e=.returned (zV op (b3 105 109 112) r h).val/\Bq w w':=by
 have no:=zlY hop;rw [show zV op (b3 105 109 112) r h=xC op (xZ op {r with PC:=(r.PC+1)%65536}) h from by unfold zV;rw [if_neg (by rw [jy no];decide)];rfl];have PLN:=fun w=>zlK op hop _ (hr.withPC (r.PC+1)) w
 have FL:=fun w' (hb:Bq w w')=>zf8 op (xZ op {r with PC:=(r.PC+1)%65536}) (zf9 hop (hr.withPC (r.PC+1))) b cap h hl hk w' (H.later' hb)
 obtain ⟨A,X,Y,S,P,PC,cyc,jam⟩:=r;have c0:0<=PC/\PC<65536:=hr.pc;dsimp only at PLN FL⊢;generalize xC op _ h=R at*;generalize xZ op _=Q at*;obtain ⟨A',X',Y',S',P',PC',cyc',jam'⟩:=R;obtain ⟨A1,X1,Y1,S1,P1,PC1,cyc1,jam1⟩:=Q;have z0:=zK no.1;have z1:=zK no.2.1;have z2:=zK no.2.2.1;have AM:=vN op false (jA no);clear no hop hk H hr;unfold cdV hdV RG.val b3 at*;dsimp only at PLN FL⊢;generalize h.length=n at*;go_enter func96,ntmps96;go_wp2_with (first|(go_at_call 151;refine (AM _ _ _ zzc).mono ?_;rintro e w1 ⟨rfl,rfl⟩)|with_reducible refine c16 ?_);generalize hW:World.alloc _ _=W;have lt9:w.heap.size+1+1<W.heap.size:=by rw [<-hW];simp only [World.size_alloc];omega
 have lt8:w.heap.size+1<W.heap.size:=by omega
 have lt7:w.heap.size<W.heap.size:=by omega
 have hB:Bq w W:=by rw [<-hW];go_grown
 have i0:W.cell? (Aq w.heap.size 0)=some (Zq op):=by rw [<-hW];clear hW;go_cell
 have j0:W.cell? ⟨w.heap.size+1,0,none⟩=some (Iq A):=by rw [<-hW];clear hW;go_cell
 have j1:W.cell? ⟨w.heap.size+1,1,none⟩=some (Iq X):=by rw [<-hW];clear hW;go_cell
 have j2:W.cell? ⟨w.heap.size+1,2,none⟩=some (Iq Y):=by rw [<-hW];clear hW;go_cell
 have j3:W.cell? ⟨w.heap.size+1,3,none⟩=some (Iq S):=by rw [<-hW];clear hW;go_cell
 have j4:W.cell? ⟨w.heap.size+1,4,none⟩=some (Iq P):=by rw [<-hW];clear hW;go_cell
 first|(have j5:W.cell? ⟨w.heap.size+1,5,none⟩=some (Iq ((PC+2)%65536)):=(by rw [<-hW];clear hW;go_cell))|(have j5:W.cell? ⟨w.heap.size+1,5,none⟩=some (Iq ((PC+3)%65536)):=(by rw [<-hW];clear hW;go_cell))|(have j5:W.cell? ⟨w.heap.size+1,5,none⟩=some (Iq ((PC+1)%65536)):=(by rw [<-hW];clear hW;go_cell))
 have j6:W.cell? ⟨w.heap.size+1,6,none⟩=some (Iq cyc):=by rw [<-hW];clear hW;go_cell
 have j7:W.cell? ⟨w.heap.size+1,7,none⟩=some (Tq jam):=by rw [<-hW];clear hW;go_cell
 have jf:∀o,W.frozen? ⟨w.heap.size+1,o,none⟩=false:=by intro o;rw [<-hW];clear hW;go_cell
 have k0:W.cell? ⟨w.heap.size+1+1,0,none⟩=some (Iq 0):=by rw [<-hW];clear hW;go_cell
 have k1:W.cell? ⟨w.heap.size+1+1,1,none⟩=some (Iq 0):=by rw [<-hW];clear hW;go_cell
 have k2:W.cell? ⟨w.heap.size+1+1,2,none⟩=some (Iq 0):=by rw [<-hW];clear hW;go_cell
 have k3:W.cell? ⟨w.heap.size+1+1,3,none⟩=some (Iq 0):=by rw [<-hW];clear hW;go_cell
 have k4:W.cell? ⟨w.heap.size+1+1,4,none⟩=some (Iq 0):=by rw [<-hW];clear hW;go_cell
 have k5:W.cell? ⟨w.heap.size+1+1,5,none⟩=some (Iq 0):=by rw [<-hW];clear hW;go_cell
 have k6:W.cell? ⟨w.heap.size+1+1,6,none⟩=some (Iq 0):=by rw [<-hW];clear hW;go_cell
 have k7:W.cell? ⟨w.heap.size+1+1,7,none⟩=some (Tq false):=by rw [<-hW];clear hW;go_cell
 have kf:∀o,W.frozen? ⟨w.heap.size+1+1,o,none⟩=false:=by intro o;rw [<-hW];clear hW;go_cell
 have n3:w.heap.size≠w.heap.size+1+1:=by omega
 have n4:w.heap.size+1+1≠w.heap.size:=by omega
 clear hW;go_region_held3 (fun w'=>w'.cell? (Aq w.heap.size 0)=some (Zq op)/\w'.cell? ⟨w.heap.size+1,0,none⟩=some (Iq A)/\w'.cell? ⟨w.heap.size+1,1,none⟩=some (Iq X)/\w'.cell? ⟨w.heap.size+1,2,none⟩=some (Iq Y)/\w'.cell? ⟨w.heap.size+1,3,none⟩=some (Iq S)/\w'.cell? ⟨w.heap.size+1,4,none⟩=some (Iq P)/\w'.cell? ⟨w.heap.size+1,5,none⟩=some (Iq ((PC+1)%65536))/\w'.cell? ⟨w.heap.size+1,6,none⟩=some (Iq cyc)/\w'.cell? ⟨w.heap.size+1,7,none⟩=some (Tq jam)) (go_keep) (first|(go_at_call 155;refine (PLN _).mono ?_;rintro e w1 ⟨rfl,hb⟩;obtain ⟨ca,fa,sz1,bl⟩:=jL hb;have s1:=(ca _ 0 lt7).trans i0;have s2:=(ca _ 0 lt8).trans j0;have s3:=(ca _ 1 lt8).trans j1;have s4:=(ca _ 2 lt8).trans j2;have s5:=(ca _ 3 lt8).trans j3;have s6:=(ca _ 4 lt8).trans j4;have s7:=(ca _ 5 lt8).trans j5;have s8:=(ca _ 6 lt8).trans j6;have s9:=(ca _ 7 lt8).trans j7;have q0:=(ca _ 0 lt9).trans k0;have q1:=(ca _ 1 lt9).trans k1;have q2:=(ca _ 2 lt9).trans k2;have q3:=(ca _ 3 lt9).trans k3;have q4:=(ca _ 4 lt9).trans k4;have q5:=(ca _ 5 lt9).trans k5;have q6:=(ca _ 6 lt9).trans k6;have q7:=(ca _ 7 lt9).trans k7;have qf:=fun o=>(fa _ o lt9).trans (kf o);have hC:=hB.trans (bl.mono hB.size);have lu9:=Nat.lt_of_lt_of_le lt9 sz1;have lu8:=Nat.lt_of_lt_of_le lt8 sz1;have lu7:=Nat.lt_of_lt_of_le lt7 sz1;clear hb ca fa bl)|(go_at_call 152;refine (FL _ hC).mono ?_;rintro e w2 ⟨rfl,hb⟩;obtain ⟨ca,fa,sz2,bl⟩:=zlv hb;have t1:=(ca _ 0 lu7).trans s1;have t2:=(ca _ 0 lu8).trans s2;have t3:=(ca _ 1 lu8).trans s3;have t4:=(ca _ 2 lu8).trans s4;have t5:=(ca _ 3 lu8).trans s5;have t6:=(ca _ 4 lu8).trans s6;have t7:=(ca _ 5 lu8).trans s7;have t8:=(ca _ 6 lu8).trans s8;have t9:=(ca _ 7 lu8).trans s9;have u0:=(ca _ 0 lu9).trans q0;have u1:=(ca _ 1 lu9).trans q1;have u2:=(ca _ 2 lu9).trans q2;have u3:=(ca _ 3 lu9).trans q3;have u4:=(ca _ 4 lu9).trans q4;have u5:=(ca _ 5 lu9).trans q5;have u6:=(ca _ 6 lu9).trans q6;have u7:=(ca _ 7 lu9).trans q7;have uf:=fun o=>(fa _ o lu9).trans (qf o);have hD:=hC.trans (bl.mono hC.size);have lv9:=Nat.lt_of_lt_of_le lu9 sz2;clear hb ca fa bl))
 all_goals (try (go_wp2_with fail))
 all_goals refine bodyPost_ret (v:=RG.val ⟨A',X',Y',S',P',PC',cyc',jam'⟩) (by simp [results,results96,go_sem,RG.val,u0,u1,u2,u3,u4,u5,u6,u7]) rfl ⟨rfl,by go_grown⟩
