/- OWN TEXT: from the row's condition on its listed variables to 'Sent'. -/
import Derived.Test.YtapijhhmjjplmaaDoorRows
import Derived.Test.YtapijhhmjjplmaaDoorNum
import Derived.ProofKit
import Derived.LaidMore
import Derived.LaidLaws
import Derived.LaidHandle
namespace Go.Proofs.YtapijhhmjjplmaaDoor
open Go.ChangeShapes Go.WideShapes Go.RowKit

/-- A list of laid variables, position by position: each reads as listed; what one position's pointers lead to is met at no other. -/
theorem laid_all {P : Program} {W : World} : ∀ {l : List (String × DataW Unit)} {ps : List MemPlace}, DataW.LaidVars P W l ps → ps.Nodup →
    ∃ pl : Nat → List MemPlace, (∀ j (h : j < l.length), ∃ g t cs fuel, P.globalNamed l[j].1 = some g ∧ (P.globals[g]?).map (·.type) = some t ∧ W.var? P l[j].1 = some cs ∧
      DataW.trod (fun _ => ()) P W 0 (fun _ => true) false fuel t cs.toList = some (l[j].2, pl j) ∧ ∀ x ∈ MemPlace.row ⟨g, 0, none⟩ cs.size ++ pl j, x ∈ ps) ∧
      ∀ i j, i < j → j < l.length → ∀ x ∈ pl i, x ∉ pl j
  | [], ps, _, _ => ⟨fun _ => [], fun j h => absurd h (Nat.not_lt_zero _), fun i j _ h => absurd h (Nat.not_lt_zero _)⟩
  | (n, d) :: r, ps, h, hnd => by
    obtain ⟨g, t, cs, fuel, p, q, hg, ht, hv, hd, hr, e⟩ := h
    subst e
    have hnq : q.Nodup := (List.nodup_append.1 hnd).2.1
    obtain ⟨pl, h1, h2⟩ := laid_all hr hnq
    have hsub : ∀ j, j < r.length → ∀ x ∈ pl j, x ∈ q := fun j hj x hx => by
      obtain ⟨g', t', cs', fuel', _, _, _, _, hin⟩ := h1 j hj
      exact hin x (List.mem_append_right _ hx)
    refine ⟨fun j => match j with | 0 => p | j + 1 => pl j, ?_, ?_⟩
    · intro j hj
      match j, hj with
      | 0, _ => exact ⟨g, t, cs, fuel, hg, ht, hv, hd, fun x hx => List.mem_append_left _ hx⟩
      | j + 1, hj =>
        obtain ⟨g', t', cs', fuel', a1, a2, a3, a4, a5⟩ := h1 j (Nat.lt_of_succ_lt_succ hj)
        exact ⟨g', t', cs', fuel', a1, a2, a3, a4, fun x hx => List.mem_append_right _ (a5 x hx)⟩
    · intro i j hij hj x hx hx'
      match i, j, hij, hj with
      | 0, j + 1, _, hj =>
        have := hsub j (Nat.lt_of_succ_lt_succ hj) x hx'
        exact (List.nodup_append.1 hnd).2.2 x (List.mem_append_right _ hx) x this rfl
      | i + 1, j + 1, hij, hj => exact h2 i j (Nat.lt_of_succ_lt_succ hij) (Nat.lt_of_succ_lt_succ hj) x hx hx'

theorem star : "*" ++ "errors.errorString" = "*errors.errorString" := by decide
theorem rowE (u : TypeId) (h : Tryd.prog.typeName? 3 u = some "*errors.errorString") : u = 66 :=
  typeName_ptr_named (nm := "errors.errorString") (by rw [star]; kernel_rfl) (by kernel_rfl) (by decide) u (by rw [star]; exact h)
theorem cellsE : Tryd.prog.cellsOf 106 = 1 := by kernel_rfl
theorem cellsS : Tryd.prog.cellsOf 9 = 1 := by kernel_rfl

set_option maxRecDepth 100000 in
/-- One sentinel out of one position. -/
theorem sent_at {W : World} {n : String} {text : List UInt8} {g : Nat} {p ps : List MemPlace} {t : TypeId} {cs : Array Value} {fuel : Nat}
    (hg : Tryd.prog.globalNamed n = some g) (ht : (Tryd.prog.globals[g]?).map (·.type) = some 26) (ht' : (Tryd.prog.globals[g]?).map (·.type) = some t) (hv : W.var? Tryd.prog n = some cs)
    (hd : DataW.trod (fun _ => ()) Tryd.prog W 0 (fun _ => true) false fuel t cs.toList = some (.iface "*errors.errorString" (.ptr (.agg [.lit (.string text)])), p))
    (hin : ∀ x ∈ MemPlace.row ⟨g, 0, none⟩ cs.size ++ p, x ∈ ps)
    (hrows : ∀ b off, MemPlace.cell b off ∈ ps → (∃ c t, W.heap[b]? = some (.cells c t (0, 0))) ∧ ∀ u v, W.cell? ⟨b, off, none⟩ = some (.iface u v) → Value.okWide Tryd.prog W .any 0 u v) :
    ∃ a s, W.cell? ⟨g, 0, none⟩ = some (rv a) ∧ W.cell? a = some (.string s) ∧ s.size = text.length ∧ (∃ c t, W.heap[a.block]? = some (.cells c t (0, 0))) ∧ p = [.cell a.block a.off] := by
  obtain rfl := Option.some.inj (ht.symm.trans ht')
  obtain ⟨l⟩ := cs
  have ok : ∀ u v, l = [.iface u v] → Value.okWide Tryd.prog W .any 0 u v := fun u v e => by
    subst e
    have hmem : MemPlace.cell g 0 ∈ ps := hin (MemPlace.cell g 0) (List.mem_append_left _ (by simp [MemPlace.row]))
    have hc0 : W.cell? ⟨g, 0, none⟩ = some (.iface u v) := by
      have := World.var?_cell hg hv 0
      simpa using this
    exact (hrows g 0 hmem).2 u v hc0
  obtain ⟨a, s, rfl, hc, hs, _, rfl⟩ := errorString_of_trod Tryd.underlying26 rowE Tryd.underlying66 Tryd.underlying106 rfl rfl Tryd.underlying9 cellsE cellsS hd ok
  refine ⟨a, s, by simpa using World.var?_cell hg hv 0, hc, ?_, (hrows a.block a.off (hin _ (by simp [MemPlace.row]))).1, by simp [MemPlace.row]⟩
  rw [← hs, Array.length_toList, ByteArray.size_data]

/-- The reasons' names and texts, in order. -/
def named12 : List (String × List UInt8) := [("keepsake/keepsake.ErrArg", [97, 110, 32, 97, 114, 103, 117, 109, 101, 110, 116, 32, 116, 104, 97, 116, 32, 109, 97, 121, 32, 110, 111, 116, 32, 98, 101]), ("keepsake/keepsake.ErrDown", [116, 104, 101, 32, 100, 105, 115, 107, 32, 105, 115, 32, 100, 111, 119, 110]), ("keepsake/keepsake.ErrFormat", [110, 111, 32, 97, 114, 99, 104, 105, 118, 101, 32, 105, 115, 32, 116, 104, 101, 114, 101]), ("keepsake/keepsake.ErrCorrupt", [100, 97, 109, 97, 103, 101]), ("keepsake/keepsake.ErrPath", [97, 32, 112, 97, 116, 104, 32, 116, 104, 97, 116, 32, 109, 97, 121, 32, 110, 111, 116, 32, 98, 101]), ("keepsake/keepsake.ErrNone", [105, 116, 32, 105, 115, 32, 110, 111, 116, 32, 116, 104, 101, 114, 101]), ("keepsake/keepsake.ErrKind", [105, 116, 32, 105, 115, 32, 111, 102, 32, 116, 104, 101, 32, 111, 116, 104, 101, 114, 32, 107, 105, 110, 100]), ("keepsake/keepsake.ErrAgain", [105, 116, 32, 105, 115, 32, 116, 104, 101, 114, 101, 32, 97, 108, 114, 101, 97, 100, 121]), ("keepsake/keepsake.ErrBusy", [105, 116, 32, 105, 115, 32, 110, 111, 116, 32, 101, 109, 112, 116, 121]), ("keepsake/keepsake.ErrMany", [110, 111, 32, 114, 111, 111, 109, 32, 105, 110, 32, 97, 32, 100, 105, 114, 101, 99, 116, 111, 114, 121]), ("keepsake/keepsake.ErrBig", [116, 111, 111, 32, 109, 97, 110, 121, 32, 98, 121, 116, 101, 115]), ("keepsake/keepsake.ErrFull", [116, 104, 101, 32, 100, 105, 115, 107, 32, 105, 115, 32, 102, 117, 108, 108])]

theorem g12 : ∀ j, (h : j < named12.length) → ∃ g, Tryd.prog.globalNamed named12[j].1 = some g ∧ (Tryd.prog.globals[g]?).map (·.type) = some 26 ∧ g = [0, 1, 2, 3, 4, 5, 6, 7, 8, 9, 10, 11].getD j 0
  | 0, _ => ⟨0, by kernel_rfl, by kernel_rfl, rfl⟩
  | 1, _ => ⟨1, by kernel_rfl, by kernel_rfl, rfl⟩
  | 2, _ => ⟨2, by kernel_rfl, by kernel_rfl, rfl⟩
  | 3, _ => ⟨3, by kernel_rfl, by kernel_rfl, rfl⟩
  | 4, _ => ⟨4, by kernel_rfl, by kernel_rfl, rfl⟩
  | 5, _ => ⟨5, by kernel_rfl, by kernel_rfl, rfl⟩
  | 6, _ => ⟨6, by kernel_rfl, by kernel_rfl, rfl⟩
  | 7, _ => ⟨7, by kernel_rfl, by kernel_rfl, rfl⟩
  | 8, _ => ⟨8, by kernel_rfl, by kernel_rfl, rfl⟩
  | 9, _ => ⟨9, by kernel_rfl, by kernel_rfl, rfl⟩
  | 10, _ => ⟨10, by kernel_rfl, by kernel_rfl, rfl⟩
  | 11, _ => ⟨11, by kernel_rfl, by kernel_rfl, rfl⟩
  | j + 12, h => absurd h (by simp [named12])

theorem short12 : ∀ j, (h : j < named12.length) → 0 < named12[j].2.length ∧ named12[j].2.length < 1000 := by decide

def sentD (x : String × List UInt8) : String × DataW Unit := (x.1, .iface "*errors.errorString" (.ptr (.agg [.lit (.string x.2)])))

theorem et : Tryd.prog.globalNamed "errors.errorType" = some 12 := by kernel_rfl
theorem rt : (Tryd.prog.cutTypes.find? (·.1 == "internal/reflectlite.rtype")).map (·.2) = some 52 := by kernel_rfl
theorem oneRow : ((List.range 118).filter fun t => Tryd.prog.rowNamed t [101, 114, 114, 111, 114]) = [26] := by kernel_rfl
theorem tsize : Tryd.prog.types.size = 118 := by kernel_rfl

/-- The handle's cell. -/
theorem handle_of {W : World} {hs : List (String × DataW Unit)} (h : handlesMet Tryd.prog hs W) (hm : ("errors.errorType", .iface "internal/reflectlite.rtype" (.agg [.ptr (.lit (.string [101, 114, 114, 111, 114]))])) ∈ hs) :
    W.cell? ⟨12, 0, none⟩ = some (.iface 52 (.agg #[.pointer (some ⟨16, 26, none⟩)])) := by
  obtain ⟨name, u, ty, e1, e2, e3, e4, e5⟩ := h _ hm
  have en : name = [101, 114, 114, 111, 114] := (Option.some.inj e1).symm
  subst en
  obtain rfl := Option.some.inj (rt.symm.trans e2)
  have hm : ty ∈ (List.range 118).filter fun t => Tryd.prog.rowNamed t [101, 114, 114, 111, 114] := List.mem_filter.2 ⟨List.mem_range.2 (by rw [← tsize]; exact e3), e4⟩
  rw [oneRow] at hm
  obtain rfl := List.mem_singleton.1 hm
  have hh : typeHandle Tryd.prog 26 = .pointer (some ⟨16, 26, none⟩) := by kernel_rfl
  rw [hh] at e5
  simpa using World.var?_cell et e5 0

/-- 'Sent' out of a condition in which the twelve stand at the positions 'at_'. -/
theorem sent_of {W : World} {l : List (String × DataW Unit)} (pos : Nat → Nat) (hpos : ∀ j, (h : j < named12.length) → ∃ h' : pos j < l.length, l[pos j] = sentD named12[j]) (hinc : ∀ i j, i < j → pos i < pos j)
    (hm : laidMet Tryd.prog l W) (ht : W.cell? ⟨12, 0, none⟩ = some (.iface 52 (.agg #[.pointer (some ⟨16, 26, none⟩)]))) : ∃ a, Sent W a := by
  obtain ⟨ps, hl, hnd, hrows⟩ := hm
  obtain ⟨pl, h1, h2⟩ := laid_all hl hnd
  have one : ∀ j, (h : j < named12.length) → ∃ a s, W.cell? ⟨[0, 1, 2, 3, 4, 5, 6, 7, 8, 9, 10, 11].getD j 0, 0, none⟩ = some (rv a) ∧ W.cell? a = some (.string s) ∧ s.size = named12[j].2.length ∧ (∃ c t, W.heap[a.block]? = some (.cells c t (0, 0))) ∧ pl (pos j) = [.cell a.block a.off] := by
    intro j hj
    obtain ⟨hp, he⟩ := hpos j hj
    obtain ⟨g, t, cs, fuel, a1, a2, a3, a4, a5⟩ := h1 (pos j) hp
    obtain ⟨g', b1, b2, b3⟩ := g12 j hj
    rw [he] at a1 a3 a4
    obtain rfl := Option.some.inj (b1.symm.trans a1)
    rw [← b3]
    exact sent_at b1 b2 a2 a3 a4 a5 hrows
  have hlen : named12.length = 12 := rfl
  have one' : ∀ j, ∃ a : Addr, (h : j < named12.length) → ∃ s, W.cell? ⟨[0, 1, 2, 3, 4, 5, 6, 7, 8, 9, 10, 11].getD j 0, 0, none⟩ = some (rv a) ∧ W.cell? a = some (.string s) ∧ s.size = named12[j].2.length ∧ (∃ c t, W.heap[a.block]? = some (.cells c t (0, 0))) ∧ pl (pos j) = [.cell a.block a.off] := by
    intro j
    by_cases h : j < named12.length
    · obtain ⟨a, s, hs⟩ := one j h
      exact ⟨a, fun _ => ⟨s, hs⟩⟩
    · exact ⟨⟨0, 0, none⟩, fun h' => absurd h' h⟩
  obtain ⟨a, spec⟩ := Classical.axiomOfChoice one'
  refine ⟨a, ?_⟩
  exact {
    v0 := (spec 0 (by decide)).choose_spec.1
    v1 := (spec 1 (by decide)).choose_spec.1
    v2 := (spec 2 (by decide)).choose_spec.1
    v3 := (spec 3 (by decide)).choose_spec.1
    v4 := (spec 4 (by decide)).choose_spec.1
    v5 := (spec 5 (by decide)).choose_spec.1
    v6 := (spec 6 (by decide)).choose_spec.1
    v7 := (spec 7 (by decide)).choose_spec.1
    v8 := (spec 8 (by decide)).choose_spec.1
    v9 := (spec 9 (by decide)).choose_spec.1
    v10 := (spec 10 (by decide)).choose_spec.1
    v11 := (spec 11 (by decide)).choose_spec.1
    row := fun j hj => (spec j (by rw [hlen]; exact hj)).choose_spec.2.2.2.1
    text := fun j hj => by
      obtain ⟨s, _, hs, hz, _, _⟩ := spec j (by rw [hlen]; exact hj)
      have := short12 j (by rw [hlen]; exact hj)
      exact ⟨s, hs, by omega, by omega⟩
    inj := fun i j hi hj hij e => by
      obtain ⟨s, _, _, _, _, hp⟩ := spec i (by rw [hlen]; exact hi)
      obtain ⟨s', _, _, _, _, hp'⟩ := spec j (by rw [hlen]; exact hj)
      rw [e] at hp
      rcases Nat.lt_or_gt_of_ne hij with h | h
      · exact h2 _ _ (hinc i j h) (hpos j (by rw [hlen]; exact hj)).1 _ (by rw [hp]; exact List.mem_singleton.2 rfl) (by rw [hp']; exact List.mem_singleton.2 rfl)
      · exact h2 _ _ (hinc j i h) (hpos i (by rw [hlen]; exact hi)).1 _ (by rw [hp']; exact List.mem_singleton.2 rfl) (by rw [hp]; exact List.mem_singleton.2 rfl)
    ty := ht }
end Go.Proofs.YtapijhhmjjplmaaDoor
