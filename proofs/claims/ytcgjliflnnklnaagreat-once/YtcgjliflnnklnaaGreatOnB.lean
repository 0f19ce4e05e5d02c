/-
  Two stubs in one world that are fed one packet each.
-/
import Derived.Test.YtcgjliflnnklnaaGreatQL
import Derived.Test.YtcgjliflnnklnaaGreatQM
namespace Go.Proofs.YtcgjliflnnklnaaGreat
open Go.RowKit

/-- Two stubs, up to their scanners, which rest; and what lay before is as it was. -/
def Duo (w W : World) (A B : Nat) (U V : SB) (N : Int) : Prop :=
  ∃ S T : SB, Al S U ∧ Al T V ∧ Stb W A S N ∧ Stb W B T N ∧ Below w.heap.size w W ∧ A ≠ B ∧ w.heap.size ≤ A ∧ w.heap.size ≤ B
theorem Duo.bel {w W W' : World} {A B : Nat} {U V : SB} {N : Int} (h : Duo w W A B U V N) (b : Below W.heap.size W W') : Duo w W' A B U V N := by
  obtain ⟨S, T, h1, h2, h3, h4, h5, h6⟩ := h
  exact ⟨S, T, h1, h2, h3.bel b, h4.bel b, h5.trans (b.mono h5.size), h6⟩
theorem Duo.old {w W : World} {A B : Nat} {U V : SB} {N : Int} (h : Duo w W A B U V N) : Below w.heap.size w W := by
  obtain ⟨S, T, h1, h2, h3, h4, h5, h6⟩ := h; exact h5
theorem Duo.lt {w W : World} {A B : Nat} {U V : SB} {N : Int} (h : Duo w W A B U V N) : A < W.heap.size ∧ B < W.heap.size := by
  obtain ⟨S, T, h1, h2, h3, h4, h5, h6⟩ := h; exact ⟨h3.lt, h4.lt⟩
theorem Duo.mono {w W : World} {A B : Nat} {U V : SB} {N M : Int} (h : Duo w W A B U V N) (e : N ≤ M) : Duo w W A B U V M := by
  obtain ⟨S, T, h1, h2, h3, h4, h5, h6⟩ := h
  exact ⟨S, T, h1, h2, h3.mono e, h4.mono e, h5, h6⟩

/-- What is said of the first stub fed. -/
def FedA (w w' : World) (A B : Nat) (U V : SB) (N : Int) (L : List UInt8) (e : Ending) : Prop :=
  ∃ v, e = .returned v ∧ (convert 35 9 v).run Tryz.prog w' = .ok (.string ⟨L.toArray⟩) w' ∧ Duo w w' A B U V (N + 200000000)

theorem Duo.fa {w W : World} {A B : Nat} {U V U' : SB} {N : Int} (h : Duo w W A B U V N) (hN0 : 0 ≤ N) (hN : N ≤ 100000000000) (bb cap n : Nat) (l L : List UInt8) (hn : l.length = n) (hl : n ≤ 200) (hB : BytesAt W bb 0 l) (hne : bb ≠ A)
    (hA : ∀ S, Al S U → Al (S.feed l).1 U' ∧ (S.feed l).2 = L) :
    Calls Tryz.prog 29 #[.pointer (some ⟨A, 0, none⟩), .slice (some ⟨bb, 0, none⟩) n cap] W fun e w' => FedA w w' A B U' V N L e := by
  obtain ⟨S, T, h1, h2, h3, h4, h5, h6, h7, h8⟩ := h
  obtain ⟨q1, q2⟩ := hA S h1
  refine (h3.feed hN0 (by omega) bb 0 cap n l hn (by omega) hB hne).mono ?_
  rintro e w' ⟨v, rfl, o, s, g⟩
  rw [q2] at o
  exact ⟨v, rfl, to_string_s o, _, T, q1, h2, s.mono (by omega), (h4.other g (Ne.symm h6)).mono (by omega), below_grown h5 g h7 h5.size, h6, h7, h8⟩
theorem Duo.fb {w W : World} {A B : Nat} {U V V' : SB} {N : Int} (h : Duo w W A B U V N) (hN0 : 0 ≤ N) (hN : N ≤ 100000000000) (bb cap n : Nat) (l L : List UInt8) (hn : l.length = n) (hl : n ≤ 200) (hB : BytesAt W bb 0 l) (hne : bb ≠ B)
    (hA : ∀ S, Al S V → Al (S.feed l).1 V' ∧ (S.feed l).2 = L) :
    Calls Tryz.prog 29 #[.pointer (some ⟨B, 0, none⟩), .slice (some ⟨bb, 0, none⟩) n cap] W fun e w' => FedA w w' A B U V' N L e := by
  obtain ⟨S, T, h1, h2, h3, h4, h5, h6, h7, h8⟩ := h
  obtain ⟨q1, q2⟩ := hA T h2
  refine (h4.feed hN0 (by omega) bb 0 cap n l hn (by omega) hB hne).mono ?_
  rintro e w' ⟨v, rfl, o, s, g⟩
  rw [q2] at o
  exact ⟨v, rfl, to_string_s o, S, _, h1, q1, (h3.other g h6).mono (by omega), s.mono (by omega), below_grown h5 g h8 h5.size, h6, h7, h8⟩

/-- A string's bytes, fed to the first. -/
theorem Duo.sa {w W : World} {A B : Nat} {U V U' : SB} {N : Int} (h : Duo w W A B U V N) (hN0 : 0 ≤ N) (hN : N ≤ 100000000000) (F : ByteArray) (L : List UInt8) (hl : F.size ≤ 200) (hA : ∀ S, Al S U → Al (S.feed F.data.toList).1 U' ∧ (S.feed F.data.toList).2 = L) (c cap : Nat) (fr : Nat × Nat) :
    Calls Tryz.prog 29 #[.pointer (some ⟨A, 0, none⟩), .slice (some ⟨W.heap.size, 0, none⟩) F.size cap] ((W.alloc (.cells (bytesRow F c) 5 fr)).drew) fun e w' => FedA w w' A B U' V N L e :=
  (h.bel (bl_drew (bl_alloc (Below.refl _ _)))).fa hN0 hN W.heap.size cap F.size F.data.toList L (by simp) hl (bytes_newS W F c fr) (by have := h.lt; omega) hA
theorem Duo.sb {w W : World} {A B : Nat} {U V V' : SB} {N : Int} (h : Duo w W A B U V N) (hN0 : 0 ≤ N) (hN : N ≤ 100000000000) (F : ByteArray) (L : List UInt8) (hl : F.size ≤ 200) (hA : ∀ S, Al S V → Al (S.feed F.data.toList).1 V' ∧ (S.feed F.data.toList).2 = L) (c cap : Nat) (fr : Nat × Nat) :
    Calls Tryz.prog 29 #[.pointer (some ⟨B, 0, none⟩), .slice (some ⟨W.heap.size, 0, none⟩) F.size cap] ((W.alloc (.cells (bytesRow F c) 5 fr)).drew) fun e w' => FedA w w' A B U V' N L e :=
  (h.bel (bl_drew (bl_alloc (Below.refl _ _)))).fb hN0 hN W.heap.size cap F.size F.data.toList L (by simp) hl (bytes_newS W F c fr) (by have := h.lt; omega) hA

theorem free_newS (w : World) (x : ByteArray) (c i : Nat) (hi : i < x.size) : ((w.alloc (.cells (bytesRow x c) 5 ((bytesRow x c).size, (bytesRow x c).size + 1))).drew).frozen? ⟨w.heap.size, i, none⟩ = false := by
  have hi' : i < x.data.size := hi
  have hb : ((w.alloc (.cells (bytesRow x c) 5 ((bytesRow x c).size, (bytesRow x c).size + 1))).drew).heap[w.heap.size]? = some (.cells (bytesRow x c) 5 ((bytesRow x c).size, (bytesRow x c).size + 1)) := heap_alloc_new w _
  have hs : x.data.size ≤ (bytesRow x c).size := by simp [bytesRow]
  simp only [World.frozen?, hb]
  simp; omega
theorem xor1 (c : UInt8) : bits .xor .u8 (c.toNat : Int) 1 = ((c ^^^ 1).toNat : Int) := by
  rw [show (1 : Int) = ((1 : Nat) : Int) from rfl, u8_xor_nat _ _ (UInt8.toNat_lt _) (by omega), UInt8.toNat_xor]; rfl
theorem bytes_set {w : World} {b j : Nat} {l : List UInt8} {v : UInt8} (h : BytesAt w b 0 l) (hj : j < l.length) : BytesAt (w.setCell ⟨b, j, none⟩ (.int .u8 (v.toNat : Int))) b 0 (l.set j v) := by
  intro i hi
  have hi' : i < l.length := by simpa using hi
  rw [Nat.zero_add]
  by_cases e : i = j
  · subst e
    rw [List.getElem_set_self]
    exact World.cell?_setCell_same _ _ _ (by have := h i hi'; rw [Nat.zero_add] at this; exact this)
  · rw [World.cell?_setCell_other _ _ _ _ (by intro q; injection q with q1 q2; exact e q2.symm), List.getElem_set_ne (fun q => e q.symm)]
    have := h i hi'
    rwa [Nat.zero_add] at this

end Go.Proofs.YtcgjliflnnklnaaGreat
