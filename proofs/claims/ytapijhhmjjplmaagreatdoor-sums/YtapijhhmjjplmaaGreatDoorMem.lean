/- OWN TEXT: rows of ints in memory (the call's own), read and written. -/
import Derived.WalkKit
import Derived.WalkSpells
import Derived.BigRegion
import Derived.Deep.QuietTactic
import Derived.BigQuiet
namespace Go.Proofs.YtapijhhmjjplmaaGreatDoor
open Go.RowKit

/-- Block b holds the ints l, and perhaps more behind them; nothing of it is frozen. -/
def Row (w : World) (b : Nat) (l : List Int) : Prop := ∃ t tail, w.heap[b]? = some (.cells (l.map (Value.int .i64) ++ tail).toArray t (0, 0))

theorem Row.lt {w : World} {b : Nat} {l : List Int} (h : Row w b l) : b < w.heap.size := by
  obtain ⟨t, tail, h⟩ := h
  exact (Array.getElem?_eq_some_iff.1 h).1

theorem Row.cell {w : World} {b : Nat} {l : List Int} (h : Row w b l) (j : Nat) (hj : j < l.length) : w.cell? ⟨b, j, none⟩ = some (.int .i64 l[j]) := by
  obtain ⟨t, tail, h⟩ := h
  simp [World.cell?, h, List.getElem?_append, hj]

theorem Row.frozen {w : World} {b : Nat} {l : List Int} (h : Row w b l) (j : Nat) : w.frozen? ⟨b, j, none⟩ = false := by
  obtain ⟨t, tail, h⟩ := h
  simp [World.frozen?, h]

theorem Row.of_heap {w w' : World} {b : Nat} {l : List Int} (h : Row w b l) (e : w'.heap[b]? = w.heap[b]?) : Row w' b l := by
  obtain ⟨t, tail, h⟩ := h
  exact ⟨t, tail, by rw [e]; exact h⟩

theorem Row.on {B : Nat} {w w' : World} {b : Nat} {l : List Int} (h : Row w b l) (hb : Below B w w') (hB : b < B) : Row w' b l := h.of_heap (hb.block b hB)

theorem Row.set {w : World} {b : Nat} {l : List Int} (h : Row w b l) (k : Nat) (hk : k < l.length) (y : Int) : Row (w.setCell ⟨b, k, none⟩ (.int .i64 y)) b (l.set k y) := by
  obtain ⟨t, tail, h⟩ := h
  refine ⟨t, tail, ?_⟩
  simp only [World.setCell, Array.getElem?_modify, ↓reduceIte, h, Option.map_some]
  simp [List.map_set, hk]

theorem Row.setOther {w : World} {b : Nat} {l : List Int} (h : Row w b l) (a : Addr) (ha : a.block ≠ b) (v : Value) : Row (w.setCell a v) b l := by
  refine h.of_heap ?_
  simp [World.setCell, Array.getElem?_modify, ha]

theorem Row.alloc {w : World} {b : Nat} {l : List Int} (h : Row w b l) (o : Obj) : Row (w.alloc o) b l := h.of_heap (Below.heap_alloc w o b h.lt)
theorem Row.new {w : World} (c : List Int) (t : TypeId) : Row (w.alloc (.cells (c.map (Value.int .i64)).toArray t)) w.heap.size c := by
  refine ⟨t, [], ?_⟩
  show (w.heap.push _)[w.heap.size]? = _
  rw [Array.getElem?_push_size, List.append_nil]
theorem Row.drewN {w : World} {b : Nat} {l : List Int} (h : Row w b l) (n : Nat) : Row (w.drewN n) b l := h
theorem Row.drew {w : World} {b : Nat} {l : List Int} (h : Row w b l) : Row w.drew b l := h

theorem below_drewN' {B : Nat} {a w : World} (h : Below B a w) (n : Nat) : Below B a (w.drewN n) := h.trans ⟨rfl, rfl, rfl, Nat.le_refl _, fun _ _ => rfl⟩
end Go.Proofs.YtapijhhmjjplmaaGreatDoor
