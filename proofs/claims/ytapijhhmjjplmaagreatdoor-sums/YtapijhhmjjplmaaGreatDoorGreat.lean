/- OWN TEXT: what the great seat's rows list, and a world in which it lies so. -/
import Derived.Test.YtapijhhmjjplmaaGreatDoorRows
import Derived.Test.YtapijhhmjjplmaaGreatDoorSumsStep
import Derived.ProofKit
import Derived.LaidMore
import Derived.LaidLaws
import Derived.LaidHandle
import Derived.OpenShut
import Derived.Lay
namespace Go.Proofs.YtapijhhmjjplmaaGreatDoor
open Go.ChangeShapes Go.WideShapes Go.ChangeAt Go.WideMaps Go.WideElems Go.RowKit

theorem own : ownKnob Tryz.prog.godebug = none := by kernel_rfl
def laidL : List (String × DataW Unit) := Rows.sumsRow.laid

/-- A list of laid variables, one by one. -/
theorem laid_one {P : Program} {W : World} : ∀ {l : List (String × DataW Unit)} {ps : List MemPlace}, DataW.LaidVars P W l ps → ∀ n d, (n, d) ∈ l →
    ∃ g t cs fuel p, P.globalNamed n = some g ∧ (P.globals[g]?).map (·.type) = some t ∧ W.var? P n = some cs ∧ DataW.trod (fun _ => ()) P W 0 (fun _ => true) false fuel t cs.toList = some (d, p)
  | [], _, _, _, _, h => by cases h
  | (n', d') :: r, ps, h, n, d, hm => by
    obtain ⟨g, t, cs, fuel, p, q, hg, ht, hv, hd, hr, -⟩ := h
    rcases List.mem_cons.1 hm with h | h
    · cases h; exact ⟨g, t, cs, fuel, p, hg, ht, hv, hd⟩
    · exact laid_one hr n d h

/-- An array of words out of its datum. -/
theorem words_of {W : World} {n t fuel : Nat} {cs : List Value} {zs : List Nat} {p : List MemPlace} (hu : Tryz.prog.underlying t = some (.array n 81)) (hn : zs.length = n)
    (h : DataW.trod (fun _ => ()) Tryz.prog W 0 (fun _ => true) false fuel t cs = some (.agg (zs.map fun z : Nat => .lit (.int .u32 (z : Int))), p)) (hc : Tryz.prog.cellsOf t = n) :
    cs = zs.map fun z : Nat => Value.int .u32 (z : Int) := by
  obtain ⟨xs, m, _, ex, hl, hx, hel⟩ := DataW.trod_array hu h
  have c5 : Tryz.prog.cellsOf 81 = 1 := by kernel_rfl
  have e3 : (xs.map (·.1)) = zs.map fun z : Nat => (.lit (.int .u32 (z : Int)) : DataW Unit) := (DataW.agg.inj (Prod.mk.inj ex).1).symm
  apply List.ext_getElem
  · rw [hl, hc, List.length_map, hn]
  · intro j h1 h2
    have hj : j < n := by rw [List.length_map, hn] at h2; exact h2
    have hE := hel j hj
    rw [c5, Nat.mul_one, List.getElem?_eq_getElem (by omega)] at hE
    obtain ⟨z, e1, e2, _⟩ := DataW.trod_int Tryz.underlying81 hE
    have e4 : (xs.map (·.1))[j]? = (zs.map fun z : Nat => (.lit (.int .u32 (z : Int)) : DataW Unit))[j]? := by rw [e3]
    rw [List.getElem?_map, List.getElem?_map, List.getElem?_eq_getElem (by omega : j < xs.length), List.getElem?_eq_getElem (by omega : j < zs.length), e2] at e4
    simp only [Option.map_some, Option.some.injEq, DataW.lit.injEq, Lit.int.injEq, true_and] at e4
    rw [List.getElem_map, ← e4]
    have h0 : ((cs.drop j).take 1)[0]? = some (.int .u32 z) := by rw [e1]; rfl
    have h0' : cs[j]? = some (.int .u32 z) := by simpa using h0
    rw [List.getElem?_eq_getElem h1] at h0'
    exact Option.some.inj h0'

theorem plain_of_laidH {P : Program} {W : World} {l : List (String × DataW Unit)} (h : laidMetH P l W) : laidMet P (l.filter fun x => x.2.handleName?.isNone) W := by
  unfold laidMetH at h
  split at h
  · rename_i hf
    have e : (l.filter fun x => x.2.handleName?.isNone) = l := by
      rw [List.filter_eq_self]
      intro x hx
      have := (List.filter_eq_nil_iff.1 hf) x hx
      cases hn : x.2.handleName? with
      | none => rfl
      | some s => rw [hn] at this; exact absurd rfl this
    rw [e]
    exact h
  · exact h.1

theorem g_start : Tryz.prog.globalNamed "keepsake/sums.startWords" = some 13 := by kernel_rfl
theorem g_round : Tryz.prog.globalNamed "keepsake/sums.roundWords" = some 14 := by kernel_rfl
theorem t_start : (Tryz.prog.globals[13]?).map (·.type) = some 302 := by kernel_rfl
theorem t_round : (Tryz.prog.globals[14]?).map (·.type) = some 394 := by kernel_rfl
theorem in_start : ("keepsake/sums.startWords", Rows.laid_keepsake_sums_startWords) ∈ laidL.filter fun x => x.2.handleName?.isNone := List.mem_filter.2 ⟨by simp [laidL, Rows.sumsRow], rfl⟩
theorem in_round : ("keepsake/sums.roundWords", Rows.laid_keepsake_sums_roundWords) ∈ laidL.filter fun x => x.2.handleName?.isNone := List.mem_filter.2 ⟨by simp [laidL, Rows.sumsRow], rfl⟩
theorem d_start : (Rows.laid_keepsake_sums_startWords : DataW Unit) = .agg (startL.map fun z : Nat => .lit (.int .u32 (z : Int))) := rfl
theorem d_round : (Rows.laid_keepsake_sums_roundWords : DataW Unit) = .agg (roundL.map fun z : Nat => .lit (.int .u32 (z : Int))) := rfl

theorem tabs_of_laid {W : World} (h : laidMetH Tryz.prog laidL W) : Tabs W := by
  obtain ⟨ps, hl, -, -⟩ := plain_of_laidH h
  refine ⟨?_, ?_⟩
  · obtain ⟨g, t, cs, fuel, p, a1, a2, a3, a4⟩ := laid_one hl _ _ in_start
    obtain rfl := Option.some.inj (g_start.symm.trans a1)
    obtain rfl := Option.some.inj (t_start.symm.trans a2)
    rw [d_start] at a4
    have hw := words_of (n := 8) Tryz.underlying302 rfl a4 (by kernel_rfl)
    simp only [World.var?, a1, Option.bind_some] at a3
    split at a3
    · rename_i cs' tg fr hh
      cases a3
      refine ⟨tg, fr, ?_⟩
      rw [hh]
      congr 2
      show _ = u32s startL
      unfold u32s
      rw [← hw]
    · cases a3
  · obtain ⟨g, t, cs, fuel, p, a1, a2, a3, a4⟩ := laid_one hl _ _ in_round
    obtain rfl := Option.some.inj (g_round.symm.trans a1)
    obtain rfl := Option.some.inj (t_round.symm.trans a2)
    rw [d_round] at a4
    have hw := words_of (n := 64) Tryz.underlying394 rfl a4 (by kernel_rfl)
    intro i hi
    rw [World.var?_cell a1 a3 i, ← Array.getElem?_toList, hw, List.getElem?_map]
    have hr : roundL.length = 64 := rfl
    rw [List.getElem?_eq_getElem (by omega), List.getD_eq_getElem?_getD, List.getElem?_eq_getElem (by omega)]
    rfl

/-- The witness's world: what the door lays, and the pinned table besides. -/
def bigL : List (String × DataW Unit) := [("unicode/utf8.first", Rows.laid_unicode_utf8_first)]
theorem big_is : ((laidL.filter fun x => x.2.handleName?.isNone).filter fun x => ["unicode/utf8.first"].contains x.1) = bigL := by kernel_rfl
set_option maxRecDepth 100000 in
theorem wit_met (os : Os) (args : Array Value) : laidMetH Tryz.prog laidL (((World.doorLaid Tryz.prog 264 os).layVars Tryz.prog bigL).forCall (fun _ _ => 0) ⟨#[], args, []⟩).memory :=
  laidMetH_of_parts3 (fuel := 8) (laidMet_layVars (w0 := World.doorLaid Tryz.prog 264 os) ["unicode/utf8.first"] ((List.range (World.doorLaid Tryz.prog 264 os).heap.size).filter (· != 16)) (by rw [big_is]; simp [World.memory, World.forCall, Input.heap]) (by kernel_rfl) (by kernel_rfl)
    (LaidIn.of_run _ 8 (by kernel_rfl) (by kernel_rfl) (by kernel_rfl) (by kernel_rfl))) (by kernel_rfl) (by kernel_rfl)
end Go.Proofs.YtapijhhmjjplmaaGreatDoor
