/- OWN TEXT: plain.number at each of the twelve reasons, bare and in a *Fault. -/
import Derived.Test.YtapijhhmjjplmaaDoorIs
import Derived.Test.YtapijhhmjjplmaaDoorAs
import Derived.WalkSpells
import Derived.Deep.QuietTactic
import Derived.BigQuiet
namespace Go.Proofs.YtapijhhmjjplmaaDoor
open Go.RowKit Go.Extern.Stop Go.Stop Go.Extern

/-- The value of the reason at 'a'. -/
abbrev rv (a : Addr) : Value := .iface 66 (.pointer (some a))

/-- What the reasons' variables hold: twelve pointers to strings that are not empty, no two alike; and errors' own variable. -/
structure Sent (w : World) (a : Nat → Addr) : Prop where
  v0 : w.cell? ⟨0, 0, none⟩ = some (rv (a 0))
  v1 : w.cell? ⟨1, 0, none⟩ = some (rv (a 1))
  v2 : w.cell? ⟨2, 0, none⟩ = some (rv (a 2))
  v3 : w.cell? ⟨3, 0, none⟩ = some (rv (a 3))
  v4 : w.cell? ⟨4, 0, none⟩ = some (rv (a 4))
  v5 : w.cell? ⟨5, 0, none⟩ = some (rv (a 5))
  v6 : w.cell? ⟨6, 0, none⟩ = some (rv (a 6))
  v7 : w.cell? ⟨7, 0, none⟩ = some (rv (a 7))
  v8 : w.cell? ⟨8, 0, none⟩ = some (rv (a 8))
  v9 : w.cell? ⟨9, 0, none⟩ = some (rv (a 9))
  v10 : w.cell? ⟨10, 0, none⟩ = some (rv (a 10))
  v11 : w.cell? ⟨11, 0, none⟩ = some (rv (a 11))
  row : ∀ j, j < 12 → ∃ c t, w.heap[(a j).block]? = some (.cells c t (0, 0))
  text : ∀ j, j < 12 → ∃ s : ByteArray, w.cell? (a j) = some (.string s) ∧ 0 < s.size ∧ s.size < 1000
  inj : ∀ i j, i < 12 → j < 12 → i ≠ j → a i ≠ a j
  ty : w.cell? ⟨12, 0, none⟩ = some (.iface 52 (.agg #[.pointer (some ⟨16, 26, none⟩)]))

theorem cell_lt {w : World} {p : Addr} {v : Value} (h : w.cell? p = some v) : p.block < w.heap.size := by
  rcases Nat.lt_or_ge p.block w.heap.size with h' | h'
  · exact h'
  · simp [World.cell?, Array.getElem?_eq_none h'] at h

theorem cell_on {B : Nat} {w w' : World} (hb : Below B w w') {p : Addr} {v : Value} (h : w.cell? p = some v) (hp : p.block < B) : w'.cell? p = some v := by
  rw [hb.cell hp]; exact h

theorem Sent.on {w w' : World} {a : Nat → Addr} (h : Sent w a) (hb : Below w.heap.size w w') : Sent w' a where
  v0 := cell_on hb h.v0 (cell_lt h.v0)
  v1 := cell_on hb h.v1 (cell_lt h.v1)
  v2 := cell_on hb h.v2 (cell_lt h.v2)
  v3 := cell_on hb h.v3 (cell_lt h.v3)
  v4 := cell_on hb h.v4 (cell_lt h.v4)
  v5 := cell_on hb h.v5 (cell_lt h.v5)
  v6 := cell_on hb h.v6 (cell_lt h.v6)
  v7 := cell_on hb h.v7 (cell_lt h.v7)
  v8 := cell_on hb h.v8 (cell_lt h.v8)
  v9 := cell_on hb h.v9 (cell_lt h.v9)
  v10 := cell_on hb h.v10 (cell_lt h.v10)
  v11 := cell_on hb h.v11 (cell_lt h.v11)
  row := fun j hj => by
    obtain ⟨c, t, hc⟩ := h.row j hj
    obtain ⟨s, hs, _⟩ := h.text j hj
    exact ⟨c, t, by rw [hb.block _ (cell_lt hs)]; exact hc⟩
  text := fun j hj => by
    obtain ⟨s, hs, h1, h2⟩ := h.text j hj
    exact ⟨s, cell_on hb hs (cell_lt hs), h1, h2⟩
  inj := h.inj
  ty := cell_on hb h.ty (cell_lt h.ty)

/-- The list of the reasons, as a block. -/
def reasons (a : Nat → Addr) : Array Value := #[rv (a 0), rv (a 1), rv (a 2), rv (a 3), rv (a 4), rv (a 5), rv (a 6), rv (a 7), rv (a 8), rv (a 9), rv (a 10), rv (a 11)]
theorem reasons_at (a : Nat → Addr) (j : Nat) (hj : j < 12) : (reasons a)[j]? = some (rv (a j)) := by
  match j, hj with
  | 0, _ => rfl
  | 1, _ => rfl
  | 2, _ => rfl
  | 3, _ => rfl
  | 4, _ => rfl
  | 5, _ => rfl
  | 6, _ => rfl
  | 7, _ => rfl
  | 8, _ => rfl
  | 9, _ => rfl
  | 10, _ => rfl
  | 11, _ => rfl

theorem as_hit2 (e t : Addr) (old : Value) (w : World) (hg : w.cell? ⟨12, 0, none⟩ = some (.iface 52 (.agg #[.pointer (some ⟨16, 26, none⟩)]))) (ht0 : w.cell? t = some old) (hf0 : w.frozen? t = false) :
    Calls Tryd.prog 7 #[.iface 28 (.pointer (some e)), .iface 36 (.pointer (some t))] w fun ev w' => ev = .returned (.bool true) ∧ Below t.block w w' ∧ w'.cell? t = some (.pointer (some e)) := by
  refine (as_hit e t old w hg ht0 hf0).mono fun ev w' ⟨he, hw⟩ => ?_
  have htl := cell_lt ht0
  subst hw
  refine ⟨he, ?_, ?_⟩
  · exact (((((Below.refl _ _).alloc (by omega) _).alloc (by simp; omega) _).alloc (by simp; omega) _).alloc (by simp; omega) _).setCell (Nat.le_refl _) _
  · refine World.cell?_setCell_same (u := old) _ _ _ ?_
    rw [World.cell?_alloc_lt _ _ t (by simp; omega), World.cell?_alloc_lt _ _ t (by simp; omega), World.cell?_alloc_lt _ _ t (by simp; omega), World.cell?_alloc_lt _ _ t htl]; exact ht0

theorem as_miss2 (e t : Addr) (w : World) (hg : w.cell? ⟨12, 0, none⟩ = some (.iface 52 (.agg #[.pointer (some ⟨16, 26, none⟩)]))) :
    Calls Tryd.prog 7 #[.iface 66 (.pointer (some e)), .iface 36 (.pointer (some t))] w fun ev w' => ev = .returned (.bool false) ∧ Below w.heap.size w w' := by
  refine (as_miss e t w hg).mono fun ev w' ⟨he, hw⟩ => ?_
  subst hw
  exact ⟨he, (((Below.refl _ _).alloc (by omega) _).alloc (by simp) _).alloc (by simp; omega) _⟩
end Go.Proofs.YtapijhhmjjplmaaDoor
