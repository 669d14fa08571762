/- OWN TEXT: disks in memory: the reference's. -/
import Derived.Test.YtphhmjcobmnpeaaGreatDoorCrc
import Derived.Test.YtphhmjcobmnpeaaGreatDoorMaker
import Derived.Maps.AppendAt
namespace Go.Proofs.YtphhmjcobmnpeaaGreatDoor
open Go.RowKit

/-- The slice v has a row of its own, or none; its block is of S. -/
def OwnS (w : World) (S : Nat → Prop) (e : TypeId) (k : Nat) (v : Value) (n : Nat) (xs : List Value) : Prop := w.ownsRow 0 e k v n xs ∧ ∀ g, v.ownBlock = some g → S g
theorem own_heap {w w' : World} {B n k : Nat} {e : TypeId} {v : Value} {xs : List Value} (h : w.ownsRow B e k v n xs) (hg : ∀ g, v.ownBlock = some g → w'.heap[g]? = w.heap[g]?) : w'.ownsRow B e k v n xs := by
  obtain ⟨h1, h2 | ⟨g, cap, cur, hv, hB, hh, h3⟩⟩ := h
  · exact ⟨h1, .inl h2⟩
  · exact ⟨h1, .inr ⟨g, cap, cur, hv, hB, by rw [hg g (by rw [hv]; rfl)]; exact hh, h3⟩⟩
theorem OwnS.on {w w' : World} {S T : Nat → Prop} {n k : Nat} {e : TypeId} {v : Value} {xs : List Value} (h : OwnS w S e k v n xs) (hs : Same T w w') (hd : ∀ g, v.ownBlock = some g → ¬ T g) : OwnS w' S e k v n xs := by
  refine ⟨own_heap h.1 fun g hg => ?_, h.2⟩
  obtain ⟨h1, h2 | ⟨g', cap, cur, hv, hB, hh, h3⟩⟩ := h.1
  · rw [h2.1] at hg; cases hg
  · rw [hv] at hg
    cases hg
    exact hs.block g' (Array.getElem?_eq_some_iff.1 hh).1 (hd g' (by rw [hv]; rfl))
theorem OwnS.lt {w : World} {S : Nat → Prop} {n k : Nat} {e : TypeId} {v : Value} {xs : List Value} (h : OwnS w S e k v n xs) {g : Nat} (hg : v.ownBlock = some g) : g < w.heap.size := by
  obtain ⟨h1, h2 | ⟨g', cap, cur, hv, hB, hh, h3⟩⟩ := h.1
  · rw [h2.1] at hg; cases hg
  · rw [hv] at hg
    cases hg
    exact (Array.getElem?_eq_some_iff.1 hh).1
theorem OwnS.mono {w : World} {S T : Nat → Prop} {n k : Nat} {e : TypeId} {v : Value} {xs : List Value} (h : OwnS w S e k v n xs) (hd : ∀ g, S g → T g) : OwnS w T e k v n xs := ⟨h.1, fun g hg => hd g (h.2 g hg)⟩
/-- What a slice that is not empty is. -/
theorem OwnS.open {w : World} {S : Nat → Prop} {n k : Nat} {e : TypeId} {v : Value} {xs : List Value} (h : OwnS w S e k v n xs) (hn : 0 < n) :
    ∃ g cap, v = .slice (some ⟨g, 0, none⟩) n cap ∧ S g ∧ (∀ j (hj : j < xs.length), w.cell? ⟨g, j, none⟩ = some xs[j]) ∧ ∀ j, w.frozen? ⟨g, j, none⟩ = false := by
  obtain ⟨h1, h2 | ⟨g, cap, cur, hv, hB, hh, h3, h4, h5, h6⟩⟩ := h.1
  · omega
  · refine ⟨g, cap, hv, h.2 g (by rw [hv]; rfl), fun j hj => ?_, fun j => frozen_of_row w g j _ _ hh⟩
    rw [cell_of_row w g j _ _ _ hh, ← Array.getElem?_toList]
    have : (cur.toList.take (n * k))[j]? = some xs[j] := by rw [h6]; exact List.getElem?_eq_getElem hj
    rw [List.getElem?_take_of_lt (by omega)] at this
    exact this
/-- A cell of such a row is written. -/
theorem OwnS.set {w : World} {S : Nat → Prop} {n k g cap : Nat} {e : TypeId} {xs : List Value} (h : OwnS w S e k (.slice (some ⟨g, 0, none⟩) n cap) n xs) (j : Nat) (y : Value) :
    OwnS (w.setCell ⟨g, j, none⟩ y) S e k (.slice (some ⟨g, 0, none⟩) n cap) n (xs.set j y) := by
  obtain ⟨h1, h2 | ⟨g', cap', cur, hv, hB, hh, h3, h4, h5, h6⟩⟩ := h.1
  · cases h2.1
  · cases hv
    refine ⟨⟨by rw [List.length_set]; exact h1, .inr ⟨g, cap, cur.setIfInBounds j y, rfl, hB, ?_, h3, h4, by simpa using h5, ?_⟩⟩, h.2⟩
    · exact heap_setCell_same w g j _ _ y hh
    · rw [Array.toList_setIfInBounds, List.take_set, h6]

def strs (l : List ByteArray) : List Value := l.map Value.string
def wrefs (l : List (Nat × ByteArray)) : List Value := l.flatMap fun x => [.int .i64 (x.1 : Int), .string x.2]
theorem strs_length (l : List ByteArray) : (strs l).length = l.length := by simp [strs]
theorem wrefs_length (l : List (Nat × ByteArray)) : (wrefs l).length = l.length * 2 := by
  induction l with
  | nil => rfl
  | cons x r ih => simp [wrefs] at ih ⊢; omega

/-- The reference's disk. -/
structure RDsk where
  safe : List ByteArray
  seen : List ByteArray
  wait : List (Nat × ByteArray)
  left : Int
  lit : Bool
  down : Bool

def refRow (sv nv wv : Value) (left : Int) (lit down : Bool) : Array Value := #[sv, nv, wv, .int .i64 left, .bool lit, .bool down]
structure RefV (w : World) (S : Nat → Prop) (be : Nat) (sv nv wv : Value) (r : RDsk) : Prop where
  blk : w.heap[be]? = some (.cells (refRow sv nv wv r.left r.lit r.down) 86 (0, 0))
  sb : S be
  safe : OwnS w S 9 1 sv r.safe.length (strs r.safe)
  seen : OwnS w S 9 1 nv r.seen.length (strs r.seen)
  wait : OwnS w S 223 2 wv r.wait.length (wrefs r.wait)
  d1 : ∀ g, sv.ownBlock = some g → g ≠ be ∧ nv.ownBlock ≠ some g ∧ wv.ownBlock ≠ some g
  d2 : ∀ g, nv.ownBlock = some g → g ≠ be ∧ wv.ownBlock ≠ some g
  d3 : ∀ g, wv.ownBlock = some g → g ≠ be
def RefAt (w : World) (S : Nat → Prop) (be : Nat) (r : RDsk) : Prop := ∃ sv nv wv, RefV w S be sv nv wv r

theorem RefAt.on {w w' : World} {S T : Nat → Prop} {be : Nat} {r : RDsk} (h : RefAt w S be r) (hs : Same T w w') (hd : ∀ g, S g → ¬ T g) : RefAt w' S be r := by
  obtain ⟨sv, nv, wv, h⟩ := h
  refine ⟨sv, nv, wv, ?_, h.sb, h.safe.on hs (fun g hg => hd g (h.safe.2 g hg)), h.seen.on hs (fun g hg => hd g (h.seen.2 g hg)), h.wait.on hs (fun g hg => hd g (h.wait.2 g hg)), h.d1, h.d2, h.d3⟩
  rw [hs.block be (Array.getElem?_eq_some_iff.1 h.blk).1 (hd be h.sb)]
  exact h.blk
theorem RefAt.mono {w : World} {S T : Nat → Prop} {be : Nat} {r : RDsk} (h : RefAt w S be r) (hd : ∀ g, S g → T g) : RefAt w T be r := by
  obtain ⟨sv, nv, wv, h⟩ := h
  exact ⟨sv, nv, wv, h.blk, hd _ h.sb, h.safe.mono hd, h.seen.mono hd, h.wait.mono hd, h.d1, h.d2, h.d3⟩
/-- A world whose blocks but be are as they were. -/
theorem RefV.turn {w w' : World} {S : Nat → Prop} {be : Nat} {sv nv wv : Value} {r : RDsk} (h : RefV w S be sv nv wv r) (hs : Same (· = be) w w') (left : Int) (lit down : Bool)
    (hb : w'.heap[be]? = some (.cells (refRow sv nv wv left lit down) 86 (0, 0))) : RefV w' S be sv nv wv { r with left := left, lit := lit, down := down } :=
  ⟨hb, h.sb, h.safe.on hs (fun g hg => (h.d1 g hg).1), h.seen.on hs (fun g hg => (h.d2 g hg).1), h.wait.on hs (fun g hg => h.d3 g hg), h.d1, h.d2, h.d3⟩
theorem Same.weak {S T : Nat → Prop} {w w' : World} (h : Same S w w') (hd : ∀ g, S g → T g) : Same T w w' := ⟨h.os, h.tape, h.output, h.size, fun k hk hn => h.block k hk fun hs => hn (hd k hs)⟩

theorem ref_fuse (be : Nat) (S : Nat → Prop) (r : RDsk) (n : Int) (w : World) (h : RefAt w S be r) :
    Calls Tryz.prog 67 #[.pointer (some ⟨be, 0, none⟩), .int .i64 n] w fun e w' => e = .returned (.tuple #[]) ∧ RefAt w' S be { r with lit := decide (0 < n), left := n } ∧ Same S w w' := by
  obtain ⟨sv, nv, wv, h⟩ := h
  have c3 : w.cell? ⟨be, 3, none⟩ = some (.int .i64 r.left) := cell_of_row _ _ _ _ _ _ h.blk
  have c4 : w.cell? ⟨be, 4, none⟩ = some (.bool r.lit) := cell_of_row _ _ _ _ _ _ h.blk
  have f3 := frozen_of_row w be 3 _ _ h.blk
  have f4 := frozen_of_row w be 4 _ _ h.blk
  have HB : Hid (RefV w S be sv nv wv r) := h
  clear h
  go_enter Tryz.func67, Tryz.ntmps67
  go_wp2
  go_end0
  have h1 := heap_setCell_same w be 4 _ _ (.bool (decide (0 < n))) HB.out.blk
  have h2 := heap_setCell_same (w.setCell ⟨be, 4, none⟩ (.bool (decide (0 < n)))) be 3 _ _ (.int .i64 n) h1
  have hs : Same (· = be) w ((w.setCell ⟨be, 4, none⟩ (.bool (decide (0 < n)))).setCell ⟨be, 3, none⟩ (.int .i64 n)) := Same.setCell (S := (· = be)) (Same.setCell (S := (· = be)) (Same.refl _ w) ⟨be, 4, none⟩ rfl _) ⟨be, 3, none⟩ rfl _
  refine ⟨rfl, ⟨sv, nv, wv, HB.out.turn hs _ _ _ ?_⟩, hs.weak (by rintro g rfl; exact HB.out.sb)⟩
  rw [h2]
  rfl
end Go.Proofs.YtphhmjcobmnpeaaGreatDoor
