/-
  The book's byte: a list of bytes that came out is its owner's.
-/
import Derived.Test.YtcgjliflnnklnaaGreatPush
import Derived.Deep.RegionLaw
namespace Go.Proofs.YtcgjliflnnklnaaGreat
open Go.RowKit

theorem inf_Bytes : (Tryz.prog.info? 139).map (fun i => (i.zero, i.size, i.bytes)) = some (some (.agg #[.slice none 0 0, .slice none 0 0, .slice none 0 0, .slice none 0 0, .int .i64 0]), 5, 104) := by kernel_rfl
theorem inf_Packets : (Tryz.prog.info? 142).map (fun i => (i.zero, i.size, i.bytes)) = some (some (.agg #[.slice none 0 0, .slice none 0 0, .slice none 0 0, .slice none 0 0, .int .i64 0]), 5, 104) := by kernel_rfl
theorem und_Bytes : Tryz.prog.underlying 77 = some (.slice 139) := by kernel_rfl
theorem und_Packets : Tryz.prog.underlying 78 = some (.slice 142) := by kernel_rfl

/-- A list that the owner may write over: nil, or a row of its own. -/
def Out (e size : Nat) (w : World) (X : Nat → Prop) (v : Value) (n : Nat) : Prop := (v = .slice none 0 0 ∧ n = 0) ∨ ∃ g cap, v = .slice (some ⟨g, 0, none⟩) n cap ∧ n ≤ cap ∧ RowAt w g e size cap ∧ X g

theorem ownBytes_any (m n : Nat) (v : Value) (X : Nat → Prop) (w : World) (hm : m ≤ 1000000000) (hn : n ≤ 100000000) (hv : Out 5 1 w X v n) :
    Calls Tryz.prog 99 #[v, .int .i64 m] w fun e w' => ∃ v1 v2 v3, e = .returned (.agg #[v, v1, v2, v3, .int .i64 m]) ∧ w.grownBy w' v.ownBlock ∧
      AllX 5 1 (xfB m) v.ownBlock w.heap.size w' v n ∧ AllX 5 1 (xfB m) v.ownBlock w.heap.size w' v1 (n + 1) ∧ AllX 5 1 (xfB m) v.ownBlock w.heap.size w' v2 (n + 2) ∧ AllX 5 1 (xfB m) v.ownBlock w.heap.size w' v3 (n + 64) := by
  rcases hv with ⟨rfl, rfl⟩ | ⟨g, cap, rfl, h1, h2, _⟩
  · exact ownBytes_nil m w hm
  · exact ownBytes_row m g n cap hn h1 w hm h2
theorem ownPackets_any (m n : Nat) (v : Value) (X : Nat → Prop) (w : World) (hm : m ≤ 1000000000) (hn : n ≤ 100000000) (hv : Out 152 3 w X v n) :
    Calls Tryz.prog 101 #[v, .int .i64 m] w fun e w' => ∃ v1 v2 v3, e = .returned (.agg #[v, v1, v2, v3, .int .i64 m]) ∧ w.grownBy w' v.ownBlock ∧
      AllX 152 3 (xfP m) v.ownBlock w.heap.size w' v n ∧ AllX 152 3 (xfP m) v.ownBlock w.heap.size w' v1 (n + 1) ∧ AllX 152 3 (xfP m) v.ownBlock w.heap.size w' v2 (n + 2) ∧ AllX 152 3 (xfP m) v.ownBlock w.heap.size w' v3 (n + 64) := by
  rcases hv with ⟨rfl, rfl⟩ | ⟨g, cap, rfl, h1, h2, _⟩
  · exact ownPackets_nil m w hm
  · exact ownPackets_row m g n cap hn h1 w hm h2

section
variable {w0 : World} {f : Fix} {X : Nat → Prop} {s t : Nat → Sc} {vb vp : Value} {nb np : Nat} {w w1 : World}

theorem Out.blk {e size : Nat} {v : Value} {n g : Nat} (h : Out e size w X v n) (hg : v.ownBlock = some g) : X g := by
  rcases h with ⟨rfl, _⟩ | ⟨g', cap, rfl, _, _, hX⟩
  · simp [Value.ownBlock] at hg
  · simp [Value.ownBlock] at hg; subst hg; exact hX

theorem Inv.own {e size : Nat} {v : Value} {n : Nat} (h : Inv w0 f X s t vb vp nb np w) (hv : Out e size w X v n) (hg : w.grownBy w1 v.ownBlock) : Inv w0 f (fun g => X g ∧ v.ownBlock ≠ some g) s t vb vp nb np w1 :=
  h.kept hg.os hg.tape hg.output hg.size (fun k hl hnX => hg.block k hl (fun e => hnX (hv.blk e.symm))) (fun _ hX => .inl hX.1)

theorem ent_new {e size : Nat} {xf : Nat → Nat → Value} {i n : Nat} {v v1 v2 v3 : Value} (h : Inv w0 f X s t vb vp nb np w) (hXlt : ∀ g, X g → g < w.heap.size) (hv : Out e size w X v n) (hn : n ≤ 100000000)
    (h0 : AllX e size (xf i) v.ownBlock w.heap.size w1 v n) (h1 : AllX e size (xf i) v.ownBlock w.heap.size w1 v1 (n + 1)) (h2 : AllX e size (xf i) v.ownBlock w.heap.size w1 v2 (n + 2)) (h3 : AllX e size (xf i) v.ownBlock w.heap.size w1 v3 (n + 64)) :
    Ent e size xf w1 (Bad f (fun g => X g ∧ v.ownBlock ≠ some g) vb vp) i v v1 v2 v3 := by
  refine ⟨n, hn, h0.free, h1.free, h2.free, h3.free, ?_⟩
  intro g hg
  have hok : Ok v.ownBlock w.heap.size g := by
    rcases hg with q | q | q | q
    · exact (h0.blk q).2
    · exact (h1.blk q).2
    · exact (h2.blk q).2
    · exact (h3.blk q).2
  rintro (q | q | q | q)
  · rcases hok with e | e
    · exact (h.xm g (hv.blk e.symm)).1 q
    · have := h.mlt g q; omega
  · rcases hok with e | e
    · exact (h.vbm g q).2.2 (hv.blk e.symm)
    · have := (h.bk.vlt q).2; omega
  · rcases hok with e | e
    · exact (h.vpm g q).2 (hv.blk e.symm)
    · have := (h.pk.vlt q).2; omega
  · rcases hok with e | e
    · exact q.2 e.symm
    · have := hXlt g q.1; omega

theorem Inv.cell (h : Inv w0 f X s t vb vp nb np w) : w.cell? ⟨f.W, 2, none⟩ = some (.slice (some ⟨f.SB, 0, none⟩) 2 f.cs) ∧ w.cell? ⟨f.W, 3, none⟩ = some (.slice (some ⟨f.RB, 0, none⟩) 2 f.cr) ∧ w.cell? ⟨f.W, 4, none⟩ = some vb ∧ w.cell? ⟨f.W, 5, none⟩ = some vp ∧ ∀ o, w.frozen? ⟨f.W, o, none⟩ = false := by
  have hc : ∀ o, w.cell? ⟨f.W, o, none⟩ = _ := fun o => cell_of_row w f.W o _ _ (0, 0) h.blk
  exact ⟨hc 2, hc 3, hc 4, hc 5, fun o => by simp [World.frozen?, h.blk]⟩

theorem own5_cases {te base n : Nat} {v : Value} {xs : List Value} (h : w.ownsRow base te 5 v n xs) : (n = 0 ∧ v = .slice none 0 0) ∨ ∃ g c, v = .slice (some ⟨g, 0, none⟩) n c := by
  rcases h.2 with ⟨e, e2⟩ | ⟨g, cap, _, e, _⟩
  · exact .inl ⟨e2, e⟩
  · exact .inr ⟨g, cap, e⟩

theorem own5_shape {te base n : Nat} {v : Value} {xs : List Value} (h : w.ownsRow base te 5 v n xs) : ∃ a c, v = .slice a n c := by
  rcases own5_cases h with ⟨rfl, rfl⟩ | ⟨g, c, rfl⟩
  · exact ⟨_, _, rfl⟩
  · exact ⟨_, _, rfl⟩

theorem five_new (w : World) (n : Nat) (hn : n = w.heap.size) (a b c d m : Value) (T : TypeId) : ∀ j u, ([a, b, c, d, m] : List Value)[j]? = some u → ((w.alloc (.cells #[a, b, c, d, m] T)).drew).cell? ((⟨n, 0, none⟩ : Addr).add j) = some u := by
  subst hn
  exact World.news_of_block (w := (w.alloc (.cells #[a, b, c, d, m] T)).drew) (cs := #[a, b, c, d, m]) (t := T) (fr := (0, 0)) (heap_alloc_new w _)
end

theorem five_one (a1 a2 a3 a4 : Option Addr) (k1 k2 k3 k4 c1 c2 c3 c4 : Nat) (m : Int) : ∀ u ∈ ([.slice a1 k1 c1, .slice a2 k2 c2, .slice a3 k3 c3, .slice a4 k4 c4, .int .i64 m] : List Value), u.oneCell' = true := by
  intro u hu; simp at hu; rcases hu with rfl | rfl | rfl | rfl | rfl <;> rfl

theorem two_more {e size : Nat} {xf : Nat → Nat → Value} {w0 : World} {f : Fix} {X X' : Nat → Prop} {s t : Nat → Sc} {vb vp : Value} {nb np i : Nat} {w w1 : World} {v v1 v2 v3 : Value} (h : Inv w0 f X s t vb vp nb np w1) (hE : Ent e size xf w1 (Bad f X vb vp) i v v1 v2 v3) (hX : ∀ g, X g → g < w1.heap.size)
    (hk : ∀ g, X' g → v.ownBlock ≠ some g → w1.heap[g]? = w.heap[g]?) (o p : Obj) (hXX : ∀ g, X' g → v.ownBlock ≠ some g → X g := by intro g a b; exact ⟨a, b⟩) :
    Inv w0 f X s t vb vp nb np ((w1.alloc o).alloc p).drew ∧ Ent e size xf ((w1.alloc o).alloc p).drew (Bad f X vb vp) i v v1 v2 v3 ∧ (∀ g, X g → g < ((w1.alloc o).alloc p).drew.heap.size) ∧ (∀ g, X' g → v.ownBlock ≠ some g → ((w1.alloc o).alloc p).drew.heap[g]? = w.heap[g]? ∧ g < ((w1.alloc o).alloc p).drew.heap.size) := by
  have hb : Below w1.heap.size w1 ((w1.alloc o).alloc p).drew := (below2 w1 o p).drew
  refine ⟨h.below hb, hE.kept (fun g hl _ => hb.block g hl) (fun _ _ q => q), fun g hg => Nat.lt_of_lt_of_le (hX g hg) hb.size, fun g a b => ?_⟩
  have hl := hX g (hXX g a b)
  exact ⟨(hb.block g hl).trans (hk g a b), Nat.lt_of_lt_of_le hl hb.size⟩

section
variable {w0 : World} {f : Fix} {X : Nat → Prop} {s t : Nat → Sc} {vb vp : Value} {nb np : Nat} {w w1 w3 : World}
theorem w_kept4 (h : Inv w0 f X s t vb vp nb np w) (hg : w.grownBy w3 vb.ownBlock) : w3.cell? ⟨f.W, 4, none⟩ = some vb ∧ w3.frozen? ⟨f.W, 4, none⟩ = false := by
  have hb := hg.block f.W h.wlt (fun e => (h.vbm _ e.symm).1 (.inl rfl))
  exact ⟨(World.cell?_of_block (a := ⟨f.W, 4, none⟩) hb).trans h.cell.2.2.1, (World.frozen?_of_block (a := ⟨f.W, 4, none⟩) hb).trans (h.cell.2.2.2.2 4)⟩
theorem w_kept5 (h : Inv w0 f X s t vb vp nb np w) (hg : w.grownBy w3 vp.ownBlock) : w3.cell? ⟨f.W, 5, none⟩ = some vp ∧ w3.frozen? ⟨f.W, 5, none⟩ = false := by
  have hb := hg.block f.W h.wlt (fun e => (h.vpm _ e.symm).1 (.inl rfl))
  exact ⟨(World.cell?_of_block (a := ⟨f.W, 5, none⟩) hb).trans h.cell.2.2.2.1, (World.frozen?_of_block (a := ⟨f.W, 5, none⟩) hb).trans (h.cell.2.2.2.2 5)⟩
theorem x_kept {X' : Nat → Prop} {b : Value} {u : Value} {i : Nat} (h : Inv w0 f (fun g => X' g ∧ b.ownBlock ≠ some g) s t vb vp nb np w) (hg : w.grownBy w3 vb.ownBlock) (hk : ∀ g, X' g → b.ownBlock ≠ some g → w.heap[g]? = w1.heap[g]? ∧ g < w.heap.size) :
    ∀ g, X' g → b.ownBlock ≠ some g → (w3.setCell ⟨f.W, i, none⟩ u).heap[g]? = w1.heap[g]? := by
  intro g a c
  have hX := h.xm g ⟨a, c⟩
  rw [Below.heap_setCell _ _ _ _ (fun e => hX.1 (by subst e; exact .inl rfl)), hg.block g (hk g a c).2 (fun e => (h.vbm g e.symm).2.2 ⟨a, c⟩)]
  exact (hk g a c).1
theorem x_kept5 {X' : Nat → Prop} {b : Value} {u : Value} {i : Nat} (h : Inv w0 f (fun g => X' g ∧ b.ownBlock ≠ some g) s t vb vp nb np w) (hg : w.grownBy w3 vp.ownBlock) (hk : ∀ g, X' g → b.ownBlock ≠ some g → w.heap[g]? = w1.heap[g]? ∧ g < w.heap.size) :
    ∀ g, X' g → b.ownBlock ≠ some g → (w3.setCell ⟨f.W, i, none⟩ u).heap[g]? = w1.heap[g]? := by
  intro g a c
  have hX := h.xm g ⟨a, c⟩
  rw [Below.heap_setCell _ _ _ _ (fun e => hX.1 (by subst e; exact .inl rfl)), hg.block g (hk g a c).2 (fun e => (h.vpm g e.symm).2 ⟨a, c⟩)]
  exact (hk g a c).1
end

theorem out_one {e size : Nat} {w : World} {X : Nat → Prop} {v : Value} {n : Nat} (h : Out e size w X v n) : (∃ a k c, v = .slice a k c) := by
  rcases h with ⟨rfl, _⟩ | ⟨g, cap, rfl, _⟩
  · exact ⟨_, _, _, rfl⟩
  · exact ⟨_, _, _, rfl⟩

set_option maxRecDepth 100000 in
set_option maxHeartbeats 600000 in
theorem byte_any (w0 : World) (f : Fix) (X : Nat → Prop) (s t : Nat → Sc) (vb vp : Value) (nb np n : Nat) (v : Value) (w : World) (h : Inv w0 f X s t vb vp nb np w) (hXlt : ∀ g, X g → g < w.heap.size) (hv : Out 5 1 w X v n) (hn : n ≤ 100000000) (hnb : nb ≤ 10000000) :
    Calls Tryz.prog 69 #[.pointer (some ⟨f.W, 4, none⟩), v] w fun e w' => e = .returned (.tuple #[]) ∧ ∃ vb', Inv w0 f (fun g => X g ∧ v.ownBlock ≠ some g) s t vb' vp (nb + 1) np w' ∧ ∀ g, X g → v.ownBlock ≠ some g → w'.heap[g]? = w.heap[g]? := by
  obtain ⟨i0, hi, hz0, hz1, hz2⟩ := info_parts inf_Bytes
  obtain ⟨xs0, ho0, _⟩ := h.bk
  obtain ⟨ao, cb, rfl⟩ := own5_shape ho0
  obtain ⟨va, vk, vc, hve⟩ := out_one hv
  have HI : Hid (Inv w0 f X s t (.slice ao nb cb) vp nb np w ∧ (∀ g, X g → g < w.heap.size) ∧ Out 5 1 w X v n) := ⟨h, hXlt, hv⟩
  have c4 := h.cell.2.2.1
  clear h hXlt hv ho0
  subst hve
  go_enter Tryz.func69, Tryz.ntmps69
  go_wp2_with fail
  refine (ownBytes_any nb n (.slice va vk vc) X _ (by omega) hn HI.out.2.2).mono ?_
  rintro e w1 ⟨v1, v2, v3, rfl, hg1, a0, a1, a2, a3⟩
  obtain ⟨ga, ca, rfl⟩ := allx_form a1 (by omega)
  obtain ⟨gq, cq, rfl⟩ := allx_form a2 (by omega)
  obtain ⟨gc, cc, rfl⟩ := allx_form a3 (by omega)
  have HI1 : Hid (Inv w0 f (fun g => X g ∧ (Value.slice va vk vc).ownBlock ≠ some g) s t (.slice ao nb cb) vp nb np w1 ∧ Ent 5 1 xfB w1 (Bad f (fun g => X g ∧ (Value.slice va vk vc).ownBlock ≠ some g) (.slice ao nb cb) vp) nb (.slice va vk vc) (.slice (some ⟨ga, 0, none⟩) (n + 1) ca) (.slice (some ⟨gq, 0, none⟩) (n + 2) cq) (.slice (some ⟨gc, 0, none⟩) (n + 64) cc) ∧ (∀ g, X g → (Value.slice va vk vc).ownBlock ≠ some g → w1.heap[g]? = w.heap[g]?) ∧ (∀ g, (X g ∧ (Value.slice va vk vc).ownBlock ≠ some g) → g < w1.heap.size)) :=
    ⟨HI.out.1.own HI.out.2.2 hg1, ent_new (xf := xfB) HI.out.1 HI.out.2.1 HI.out.2.2 hn a0 a1 a2 a3, fun g hX hne => hg1.block g (HI.out.2.1 g hX) (fun e => hne e.symm), fun g hX => Nat.lt_of_lt_of_le (HI.out.2.1 g hX.1) hg1.size⟩
  clear hg1 a0 a1 a2 a3 HI c4
  have k4 := HI1.out.1.cell.2.2.1
  have kf := HI1.out.1.cell.2.2.2.2 4
  have kW := HI1.out.1.wlt
  have hsz1 := HI1.out.1.bel.size
  go_wp2_with fail
  have HA : Hid (Inv w0 f (fun g => X g ∧ (Value.slice va vk vc).ownBlock ≠ some g) s t (.slice ao nb cb) vp nb np (((w1.alloc (.cells #[.slice va vk vc, .slice (some ⟨ga, 0, none⟩) (n + 1) ca, .slice (some ⟨gq, 0, none⟩) (n + 2) cq, .slice (some ⟨gc, 0, none⟩) (n + 64) cc, .int .i64 (nb : Int)] 139)).alloc (.cells #[.slice va vk vc, .slice (some ⟨ga, 0, none⟩) (n + 1) ca, .slice (some ⟨gq, 0, none⟩) (n + 2) cq, .slice (some ⟨gc, 0, none⟩) (n + 64) cc, .int .i64 (nb : Int)] 139)).drew) ∧ Ent 5 1 xfB (((w1.alloc (.cells #[.slice va vk vc, .slice (some ⟨ga, 0, none⟩) (n + 1) ca, .slice (some ⟨gq, 0, none⟩) (n + 2) cq, .slice (some ⟨gc, 0, none⟩) (n + 64) cc, .int .i64 (nb : Int)] 139)).alloc (.cells #[.slice va vk vc, .slice (some ⟨ga, 0, none⟩) (n + 1) ca, .slice (some ⟨gq, 0, none⟩) (n + 2) cq, .slice (some ⟨gc, 0, none⟩) (n + 64) cc, .int .i64 (nb : Int)] 139)).drew) (Bad f (fun g => X g ∧ (Value.slice va vk vc).ownBlock ≠ some g) (.slice ao nb cb) vp) nb (.slice va vk vc) (.slice (some ⟨ga, 0, none⟩) (n + 1) ca) (.slice (some ⟨gq, 0, none⟩) (n + 2) cq) (.slice (some ⟨gc, 0, none⟩) (n + 64) cc) ∧ (∀ g, (X g ∧ (Value.slice va vk vc).ownBlock ≠ some g) → g < (((w1.alloc (.cells #[.slice va vk vc, .slice (some ⟨ga, 0, none⟩) (n + 1) ca, .slice (some ⟨gq, 0, none⟩) (n + 2) cq, .slice (some ⟨gc, 0, none⟩) (n + 64) cc, .int .i64 (nb : Int)] 139)).alloc (.cells #[.slice va vk vc, .slice (some ⟨ga, 0, none⟩) (n + 1) ca, .slice (some ⟨gq, 0, none⟩) (n + 2) cq, .slice (some ⟨gc, 0, none⟩) (n + 64) cc, .int .i64 (nb : Int)] 139)).drew).heap.size) ∧ (∀ g, X g → (Value.slice va vk vc).ownBlock ≠ some g → (((w1.alloc (.cells #[.slice va vk vc, .slice (some ⟨ga, 0, none⟩) (n + 1) ca, .slice (some ⟨gq, 0, none⟩) (n + 2) cq, .slice (some ⟨gc, 0, none⟩) (n + 64) cc, .int .i64 (nb : Int)] 139)).alloc (.cells #[.slice va vk vc, .slice (some ⟨ga, 0, none⟩) (n + 1) ca, .slice (some ⟨gq, 0, none⟩) (n + 2) cq, .slice (some ⟨gc, 0, none⟩) (n + 64) cc, .int .i64 (nb : Int)] 139)).drew).heap[g]? = w.heap[g]? ∧ g < (((w1.alloc (.cells #[.slice va vk vc, .slice (some ⟨ga, 0, none⟩) (n + 1) ca, .slice (some ⟨gq, 0, none⟩) (n + 2) cq, .slice (some ⟨gc, 0, none⟩) (n + 64) cc, .int .i64 (nb : Int)] 139)).alloc (.cells #[.slice va vk vc, .slice (some ⟨ga, 0, none⟩) (n + 1) ca, .slice (some ⟨gq, 0, none⟩) (n + 2) cq, .slice (some ⟨gc, 0, none⟩) (n + 64) cc, .int .i64 (nb : Int)] 139)).drew).heap.size)) :=
    two_more HI1.out.1 HI1.out.2.1 HI1.out.2.2.2 HI1.out.2.2.1 _ _
  obtain ⟨xs, ho, he⟩ := HA.out.1.bk
  have HB : Hid ((((w1.alloc (.cells #[.slice va vk vc, .slice (some ⟨ga, 0, none⟩) (n + 1) ca, .slice (some ⟨gq, 0, none⟩) (n + 2) cq, .slice (some ⟨gc, 0, none⟩) (n + 64) cc, .int .i64 (nb : Int)] 139)).alloc (.cells #[.slice va vk vc, .slice (some ⟨ga, 0, none⟩) (n + 1) ca, .slice (some ⟨gq, 0, none⟩) (n + 2) cq, .slice (some ⟨gc, 0, none⟩) (n + 64) cc, .int .i64 (nb : Int)] 139)).drew).ownsRow w0.heap.size 139 5 (.slice ao nb cb) nb xs ∧ ∀ i, i < nb → ∃ v v1 v2 v3, xs[i * 5]? = some v ∧ xs[i * 5 + 1]? = some v1 ∧ xs[i * 5 + 2]? = some v2 ∧ xs[i * 5 + 3]? = some v3 ∧ xs[i * 5 + 4]? = some (.int .i64 (i : Int)) ∧ Ent 5 1 xfB (((w1.alloc (.cells #[.slice va vk vc, .slice (some ⟨ga, 0, none⟩) (n + 1) ca, .slice (some ⟨gq, 0, none⟩) (n + 2) cq, .slice (some ⟨gc, 0, none⟩) (n + 64) cc, .int .i64 (nb : Int)] 139)).alloc (.cells #[.slice va vk vc, .slice (some ⟨ga, 0, none⟩) (n + 1) ca, .slice (some ⟨gq, 0, none⟩) (n + 2) cq, .slice (some ⟨gc, 0, none⟩) (n + 64) cc, .int .i64 (nb : Int)] 139)).drew) (Bad f (fun g => X g ∧ (Value.slice va vk vc).ownBlock ≠ some g) (.slice ao nb cb) vp) i v v1 v2 v3) := ⟨ho, he⟩
  clear ho he HI1
  go_region_law (first | (refine step_append_lies _ rfl (.tmp 16) (.tmp 18) 77 rfl w0.heap.size 139 i0 _ 5 104 und_Bytes hi hz0 hz1 hz2 rfl (by decide) (.slice ao nb cb) nb xs rfl ?_ ⟨w1.heap.size + 1, 0, none⟩ 1 1 [.slice va vk vc, .slice (some ⟨ga, 0, none⟩) (n + 1) ca, .slice (some ⟨gq, 0, none⟩) (n + 2) cq, .slice (some ⟨gc, 0, none⟩) (n + 64) cc, .int .i64 (nb : Int)] rfl rfl ?_ ?_ (by decide) ?_ ?_ ?_ _ rfl ?_; exact HB.out.1; exact five_new _ _ (by simp) _ _ _ _ _ _; exact five_one _ _ _ _ _ _ _ _ _ _ _ _ _; (unfold maxLen; omega); omega; (simp; omega); intro g' cap' w3 hown' hgrow hat hlt'; obtain ⟨j4, jf⟩ := w_kept4 HA.out.1 hgrow; have HF : Hid (Inv w0 f (fun g => X g ∧ (Value.slice va vk vc).ownBlock ≠ some g) s t (.slice (some ⟨g', 0, none⟩) (nb + 1) cap') vp (nb + 1) np (w3.setCell ⟨f.W, 4, none⟩ (.slice (some ⟨g', 0, none⟩) (nb + 1) cap')) ∧ ∀ g, X g → (Value.slice va vk vc).ownBlock ≠ some g → (w3.setCell ⟨f.W, 4, none⟩ (.slice (some ⟨g', 0, none⟩) (nb + 1) cap')).heap[g]? = w.heap[g]?) := ⟨HA.out.1.pushB HA.out.2.2.1 HB.out.1 HB.out.2 HA.out.2.1 hown' hgrow hat, x_kept HA.out.1 hgrow HA.out.2.2.2⟩; clear hown' hgrow hat hlt'))
  all_goals
    go_wp2
    go_end0
    exact ⟨rfl, _, HF.out⟩

end Go.Proofs.YtcgjliflnnklnaaGreat
