/- OWN TEXT: the script as an argument: a slice of steps in memory. -/
import Derived.Test.YtapijhhmjjplmaaGreatDoorMem
import Derived.Test.YtapijhhmjjplmaaGreatDoorProg
import Derived.ProofKit
import Derived.Deep.Slices
import Derived.SizedLaws
namespace Go.Proofs.YtapijhhmjjplmaaGreatDoor
open Go.ChangeShapes Go.WideShapes Go.RowKit Go.Deep

/-- One step of a script. -/
structure Stp where
  kind : Int
  a : Int
  b : Int
  d : Int
  s : ByteArray
  t : ByteArray

/-- Is an int in the range of a Go int? -/
def inR (n : Int) : Prop := -9223372036854775808 ≤ n ∧ n ≤ 9223372036854775807

/-- The step x lies at ⟨bl, o⟩. -/
structure StpAt (w : World) (bl o : Nat) (x : Stp) : Prop where
  c0 : w.cell? ⟨bl, o, none⟩ = some (.int .i64 x.kind)
  c1 : w.cell? ⟨bl, o + 1, none⟩ = some (.int .i64 x.a)
  c2 : w.cell? ⟨bl, o + 2, none⟩ = some (.int .i64 x.b)
  c3 : w.cell? ⟨bl, o + 3, none⟩ = some (.int .i64 x.d)
  c4 : w.cell? ⟨bl, o + 4, none⟩ = some (.string x.s)
  c5 : w.cell? ⟨bl, o + 5, none⟩ = some (.string x.t)
  rk : inR x.kind
  ra : inR x.a
  rb : inR x.b
  rd : inR x.d
  ns : x.s.size ≤ 140737488351232
  nt : x.t.size ≤ 140737488351232

/-- The script's value, and what lies there. -/
def Scr (w : World) (v : Value) (l : List Stp) : Prop :=
  (∃ ao cap, v = .slice ao 0 cap ∧ l = []) ∨ ∃ bl off cap, v = .slice (some ⟨bl, off, none⟩) l.length cap ∧ 0 < l.length ∧ l.length ≤ 140737488351232 ∧ ∀ i (h : i < l.length), StpAt w bl (off + i * 6) l[i]

theorem StpAt.on {B : Nat} {w w' : World} {bl o : Nat} {x : Stp} (h : StpAt w bl o x) (hb : Below B w w') (hB : bl < B) : StpAt w' bl o x :=
  ⟨by rw [hb.cell (by exact hB)]; exact h.c0, by rw [hb.cell (by exact hB)]; exact h.c1, by rw [hb.cell (by exact hB)]; exact h.c2, by rw [hb.cell (by exact hB)]; exact h.c3,
   by rw [hb.cell (by exact hB)]; exact h.c4, by rw [hb.cell (by exact hB)]; exact h.c5, h.rk, h.ra, h.rb, h.rd, h.ns, h.nt⟩

theorem opCells : Tryz.prog.cellsOf 67 = 6 := by kernel_rfl
theorem opBytes : Tryz.prog.bytesOf 67 = 64 := by kernel_rfl
theorem intCells : Tryz.prog.cellsOf 3 = 1 := by kernel_rfl
theorem strCells1 : Tryz.prog.cellsOf 9 = 1 := by kernel_rfl

theorem inR_of {n : Int} (h : (Lit.int .i64 n).wf = true) : inR n := by
  simp [Lit.wf, IntKind.min, IntKind.max, IntKind.signed, IntKind.bits] at h
  unfold inR
  omega

section
variable {H : Type} {enc : TypeId × Value → H} {W : World} {sp : Nat → Bool} {held : Bool}

theorem six {cs : List Value} (h : cs.length = 6) : ∃ c0 c1 c2 c3 c4 c5, cs = [c0, c1, c2, c3, c4, c5] := by
  match cs, h with
  | [c0, c1, c2, c3, c4, c5], _ => exact ⟨c0, c1, c2, c3, c4, c5, rfl⟩

/-- One step out of its reading. -/
theorem open_stp {n : Nat} {ad : Addr} {cs : List Value} {D : DataW H} {Pl : List MemPlace} (hcs : W.cells? 0 ad 6 = some cs)
    (h : DataW.trod enc Tryz.prog W 0 sp held n 67 cs = some (D, Pl)) (hw : (D.weights Tryz.prog 67).all (· ≤ reachBytes) = true) :
    ∃ x, StpAt W ad.block ad.off x ∧ ad.spot = none := by
  obtain ⟨bl, o, sp0⟩ := ad
  obtain ⟨xs, m, _, hx, hl, hlen, hf⟩ := DataW.trod_struct Tryz.underlying67 h
  rw [opCells] at hl
  obtain ⟨c0, c1, c2, c3, c4, c5, rfl⟩ := six hl
  match xs, hlen with
  | [y0, y1, y2, y3, y4, y5], _ =>
    have f0 : DataW.trod enc Tryz.prog W 0 sp held m 3 [c0] = some y0 := by simpa [intCells] using hf 0 _ rfl
    have f1 : DataW.trod enc Tryz.prog W 0 sp held m 3 [c1] = some y1 := by simpa [intCells] using hf 1 _ rfl
    have f2 : DataW.trod enc Tryz.prog W 0 sp held m 3 [c2] = some y2 := by simpa [intCells] using hf 2 _ rfl
    have f3 : DataW.trod enc Tryz.prog W 0 sp held m 3 [c3] = some y3 := by simpa [intCells] using hf 3 _ rfl
    have f4 : DataW.trod enc Tryz.prog W 0 sp held m 9 [c4] = some y4 := by simpa [strCells1] using hf 4 _ rfl
    have f5 : DataW.trod enc Tryz.prog W 0 sp held m 9 [c5] = some y5 := by simpa [strCells1] using hf 5 _ rfl
    obtain ⟨k0, e0, -, w0⟩ := DataW.trod_int Tryz.underlying3 f0
    obtain ⟨k1, e1, -, w1⟩ := DataW.trod_int Tryz.underlying3 f1
    obtain ⟨k2, e2, -, w2⟩ := DataW.trod_int Tryz.underlying3 f2
    obtain ⟨k3, e3, -, w3⟩ := DataW.trod_int Tryz.underlying3 f3
    obtain ⟨s4, e4, g4, -⟩ := DataW.trod_string Tryz.underlying9 f4
    obtain ⟨s5, e5, g5, -⟩ := DataW.trod_string Tryz.underlying9 f5
    simp only [List.cons.injEq, and_true] at e0 e1 e2 e3 e4 e5
    subst e0 e1 e2 e3 e4 e5
    simp only [Prod.mk.injEq] at hx
    have hwe : DataW.weights Tryz.prog 67 D = DataW.weightsEach Tryz.prog [3, 3, 3, 3, 9, 9] [y0.1, y1.1, y2.1, y3.1, y4.1, y5.1] := by
      rw [hx.1]
      simp [DataW.weights, Tryz.underlying67]
    rw [hwe] at hw
    have hs4 : s4.size ≤ 140737488351232 := by
      have := List.all_eq_true.1 hw s4.data.toList.length (DataW.weights_mem_each (j := 4) (t := 9) (d := y4.1) rfl rfl _ (by rw [g4]; simp [DataW.weights]))
      rw [Array.length_toList, ByteArray.size_data] at this
      exact of_decide_eq_true this
    have hs5 : s5.size ≤ 140737488351232 := by
      have := List.all_eq_true.1 hw s5.data.toList.length (DataW.weights_mem_each (j := 5) (t := 9) (d := y5.1) rfl rfl _ (by rw [g5]; simp [DataW.weights]))
      rw [Array.length_toList, ByteArray.size_data] at this
      exact of_decide_eq_true this
    have hc : ∀ j, j < 6 → W.cell? (Addr.add ⟨bl, o, sp0⟩ j) = [Value.int .i64 k0, .int .i64 k1, .int .i64 k2, .int .i64 k3, .string s4, .string s5][j]? := by
      intro j hj
      have h6 := hcs
      unfold World.cells? at h6
      rw [if_pos (Nat.zero_le _)] at h6
      have := mapM_some_get h6 j j (List.getElem?_range hj)
      exact this
    have hsp : sp0 = none := by
      have h0 := hc 0 (by omega)
      cases sp0 with
      | none => rfl
      | some q =>
        exfalso
        unfold World.cell? at h0
        split at h0
        · simp [Addr.add] at h0
        · cases h0
    subst hsp
    refine ⟨⟨k0, k1, k2, k3, s4, s5⟩, ⟨?_, ?_, ?_, ?_, ?_, ?_, inR_of w0, inR_of w1, inR_of w2, inR_of w3, hs4, hs5⟩, rfl⟩
    · exact hc 0 (by omega)
    · exact hc 1 (by omega)
    · exact hc 2 (by omega)
    · exact hc 3 (by omega)
    · exact hc 4 (by omega)
    · exact hc 5 (by omega)

/-- The script out of its reading. -/
theorem open_script {fuel : Nat} {v : Value} {d : DataW H} {p : List MemPlace} (h : DataW.trod enc Tryz.prog W 0 sp held fuel 22 v.cells.toList = some (d, p))
    (hv : ∃ ao len cap, v = .slice ao len cap) (hw : (d.weights Tryz.prog 22).all (· ≤ reachBytes) = true) : ∃ l, Scr W v l := by
  obtain ⟨ao, len, cap, rfl⟩ := hv
  rcases open_slice Tryz.underlying22 h with ⟨h0, _⟩ | ⟨a, len', cap', m, n, D, Pl, h0, _, hlc, _, hm, hx, hel⟩
  · simp [Value.cells] at h0
    obtain ⟨rfl, rfl, rfl⟩ := h0
    exact ⟨[], .inl ⟨_, _, rfl, rfl⟩⟩
  · simp [Value.cells] at h0
    obtain ⟨rfl, rfl, rfl⟩ := h0
    simp only [Prod.mk.injEq] at hx
    have hm' : len ≤ m := by rw [hm]; split <;> omega
    have hwe := hw
    rw [hx.1] at hwe
    simp only [DataW.weights, Tryz.underlying22, List.all_cons, List.all_append, Bool.and_eq_true] at hwe
    obtain ⟨bl, off, spt⟩ := a
    have hall : ∀ i, i < len → ((D i).weights Tryz.prog 67).all (· ≤ reachBytes) = true := by
      intro i hi
      refine List.all_eq_true.2 fun n hn => List.all_eq_true.1 hwe.2.1 n ?_
      have hmem : D i ∈ (List.range len).map D := List.mem_map.2 ⟨i, List.mem_range.2 hi, rfl⟩
      generalize (List.range len).map D = L at hmem
      clear hwe hw hx
      induction L with
      | nil => cases hmem
      | cons x r ih =>
        simp only [DataW.weightsAll, List.mem_append]
        rcases List.mem_cons.1 hmem with h1 | h1
        · exact .inl (h1 ▸ hn)
        · exact .inr (ih h1)
    have hone : ∀ i, ∃ x : Stp, i < len → StpAt W bl (off + i * 6) x ∧ (i = 0 → spt = none) := by
      intro i
      by_cases hi : i < len
      · obtain ⟨cs', hc1, hc2⟩ := hel i (by omega)
        rw [opCells] at hc1
        obtain ⟨x, hx1, hx2⟩ := open_stp hc1 hc2 (hall i hi)
        refine ⟨x, fun _ => ⟨?_, fun h0 => ?_⟩⟩
        · have e1 : (Addr.add ⟨bl, off, spt⟩ (i * 6)).block = bl := by unfold Addr.add; split <;> rfl
          have e2 : (Addr.add ⟨bl, off, spt⟩ (i * 6)).off = off + i * 6 := by
            unfold Addr.add
            split
            · rename_i h; rw [h]; rfl
            · rfl
          rw [e1, e2] at hx1
          exact hx1
        · subst h0
          exact hx2
      · exact ⟨⟨0, 0, 0, 0, ByteArray.empty, ByteArray.empty⟩, fun h => absurd h hi⟩
    obtain ⟨X, hX⟩ := Classical.axiomOfChoice hone
    have hlen64 : len ≤ 140737488351232 := by
      have h1 := of_decide_eq_true hwe.1
      rw [opBytes, List.length_map, List.length_range] at h1
      unfold reachBytes at h1
      omega
    by_cases h0 : len = 0
    · subst h0
      exact ⟨[], .inl ⟨_, _, rfl, rfl⟩⟩
    · have hsp : spt = none := (hX 0 (by omega)).2 rfl
      subst hsp
      refine ⟨(List.range len).map X, .inr ⟨bl, off, cap, by simp, by rw [List.length_map, List.length_range]; omega, by simpa using hlen64, fun i hi => ?_⟩⟩
      have hi' : i < len := by simpa using hi
      rw [List.getElem_map, List.getElem_range]
      exact (hX i hi').1
end
end Go.Proofs.YtapijhhmjjplmaaGreatDoor
