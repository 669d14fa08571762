/- OWN TEXT: words laid down as bytes. -/
import Derived.Test.YtapijhhmjjplmaaGreatDoorSched
import Derived.Test.YtapijhhmjjplmaaGreatDoorMix
import Derived.Test.YtapijhhmjjplmaaGreatDoorRowlaw
import Derived.LoopN
namespace Go.Proofs.YtapijhhmjjplmaaGreatDoor
open Go.RowKit

/-- Byte k of words, the high byte first. -/
def byteAt (st : List Nat) (k : Nat) : Nat := st.getD (k / 4) 0 / 256 ^ (3 - k % 4) % 256
def outK (st : List Nat) (n : Nat) : List Nat := (List.range 32).map fun k => if k < n then byteAt st k else 0
theorem outK_length (st : List Nat) (n : Nat) : (outK st n).length = 32 := by simp [outK]
theorem outK_set (st : List Nat) (n : Nat) : (outK st n).set n (byteAt st n) = outK st (n + 1) := by
  apply List.ext_getElem
  · simp [outK]
  · intro k h1 h2
    rw [List.getElem_set]
    simp only [outK, List.getElem_map, List.getElem_range]
    split
    · rename_i e
      subst e
      rw [if_pos (by omega)]
    · rename_i e
      by_cases h : k < n
      · rw [if_pos h, if_pos (by omega)]
      · rw [if_neg h, if_neg (by omega)]
theorem outK_zero (st : List Nat) : outK st 0 = List.replicate 32 0 := by
  apply List.ext_getElem
  · simp [outK]
  · intro k h1 h2
    rw [List.getElem_replicate]
    simp only [outK, List.getElem_map, List.getElem_range]
    rw [if_neg (by omega)]
theorem outK_all (st : List Nat) (h : st.length = 8) : (outK st 32).map UInt8.ofNat = st.flatMap four4 := by
  match st, h with
  | [a, b, c, d, e, f, g, h], _ => simp [outK, byteAt, four4, List.range, List.range.loop]
theorem outK_lt (st : List Nat) (n : Nat) : ∀ d ∈ outK st n, d < 256 := by
  intro d hd
  unfold outK at hd
  obtain ⟨k, _, rfl⟩ := List.mem_map.1 hd
  split
  · exact Nat.mod_lt _ (by decide)
  · decide
theorem u8s_one (l : List Nat) : (u8s l).all (·.oneCell') = true := by
  rw [Array.all_eq_true_iff_forall_mem]
  intro v hv
  unfold u8s at hv
  simp at hv
  obtain ⟨a, _, rfl⟩ := hv
  rfl
def zeros32 : List Nat := List.replicate 32 0

set_option maxRecDepth 100000 in
set_option maxHeartbeats 1000000 in
theorem inBytes_any (st : List Nat) (hl : st.length = 8) (hlt : ∀ d ∈ st, d < w32) (w : World) :
    Calls Tryz.prog 183 #[.agg (u32s st)] w fun e w' =>
      e = .returned (.agg (u8s (outK st 32))) ∧ Below w.heap.size w w' := by
  obtain ⟨c, hc⟩ : ∃ c, c = u32s st := ⟨_, rfl⟩
  rw [← hc]
  have HC : Hid (c = u32s st) := hc
  have hcs : c.size = 8 := by rw [hc]; simp [u32s, hl]
  have HI8 : Hid ((Tryz.prog.info? 302).map (·.size) = some c.size) := by show _ = _; rw [hcs]; kernel_rfl
  have HL : Hid (st.length = 8) := hl
  have HW : Hid (∀ d ∈ st, d < w32) := hlt
  have HIX : Hid (∀ (i : Nat) (w : World), i < 8 → (Instr.index 302 (.agg c) (.int .i64 (i : Int))).run Tryz.prog w = .ok (.int .u32 (st.getD i 0 : Int)) w) := fun i w hi => by
    refine run_index_row w _ 81 8 c i _ Tryz.underlying302 hi (by kernel_rfl) (by kernel_rfl) ?_
    rw [hc]
    simp [u32s, hl, hi]
  clear hc hcs hl hlt
  go_enter Tryz.func183, Tryz.ntmps183
  go_wp2_with (refine wpList_load_row rfl 302 _ rfl w.heap.size rfl 302 c (0, 0) _ (heap_third0 w _ _ _) Tryz.underlying302 rfl HI8.out ?_)
  go_loopw [8] (fun iv_ wr => ∃ i : Nat, i ≤ 8 ∧ iv_ = .int .i64 (i : Int) ∧ Hid (BRow wr (w.heap.size + 1) 131 zeros32) ∧ Hid (BRow wr (w.heap.size + 1 + 1) 131 (outK st (4 * i))) ∧ Hid (Below w.heap.size w wr)) (fun iv_ _ => 8 - (intOf iv_).toNat)
  case atStart =>
    refine ⟨0, by omega, rfl, ?_, ?_, ?_⟩
    · exact heap_third1 w _ _ _
    · show BRow _ _ _ _
      rw [Nat.mul_zero, outK_zero]
      exact heap_third2 w _ _ _
    · exact (((Below.refl _ _).alloc (Nat.le_refl _) _).alloc (by simp) _).alloc (by simp; omega) _
  case round =>
    obtain ⟨i, hi, rfl, HR, HS, HB⟩ := hrel
    have hw3 := HS.out.lt
    by_cases hlt : i < 8
    · obtain ⟨x, hx⟩ : ∃ x, x = st.getD i 0 := ⟨_, rfl⟩
      have hix : ∀ w : World, (Instr.index 302 (.agg c) (.int .i64 (i : Int))).run Tryz.prog w = .ok (.int .u32 (x : Int)) w := fun w => by rw [hx]; exact HIX.out i w hlt
      have lx : (x : Int) ≤ 4294967295 := by
        have := getD_lt HW.out (by decide) i
        rw [← hx] at this
        unfold w32 at this
        omega
      obtain ⟨z0, c0⟩ : ∃ z : Int, wr.cell? ⟨w.heap.size + 1 + 1, 4 * i, none⟩ = some (.int .u8 z) := ⟨_, HS.out.cell (4 * i) (by rw [outK_length]; omega)⟩
      obtain ⟨z1, c1⟩ : ∃ z : Int, wr.cell? ⟨w.heap.size + 1 + 1, 4 * i + 1, none⟩ = some (.int .u8 z) := ⟨_, HS.out.cell (4 * i + 1) (by rw [outK_length]; omega)⟩
      obtain ⟨z2, c2⟩ : ∃ z : Int, wr.cell? ⟨w.heap.size + 1 + 1, 4 * i + 2, none⟩ = some (.int .u8 z) := ⟨_, HS.out.cell (4 * i + 2) (by rw [outK_length]; omega)⟩
      obtain ⟨z3, c3⟩ : ∃ z : Int, wr.cell? ⟨w.heap.size + 1 + 1, 4 * i + 3, none⟩ = some (.int .u8 z) := ⟨_, HS.out.cell (4 * i + 3) (by rw [outK_length]; omega)⟩
      have f0 := HS.out.frozen (4 * i)
      have f1 := HS.out.frozen (4 * i + 1)
      have f2 := HS.out.frozen (4 * i + 2)
      have f3 := HS.out.frozen (4 * i + 3)
      have HX : Hid (x = st.getD i 0) := hx
      clear hx
      go_wp2
      refine wp_loop_rounds 5 ?_
      rw [rounds_succ]
      go_wp2
      rw [rounds_succ]
      go_wp2
      rw [rounds_succ]
      go_wp2
      rw [rounds_succ]
      go_wp2
      rw [rounds_succ]
      go_wp2
      go_roundw
      case rel =>
        refine ⟨i + 1, by omega, by go_num, ?_, ?_, ?_⟩
        · exact (((HR.out.other _ (by show w.heap.size + 1 ≠ w.heap.size + 1 + 1; omega) _).other _ (by show w.heap.size + 1 ≠ w.heap.size + 1 + 1; omega) _).other _ (by show w.heap.size + 1 ≠ w.heap.size + 1 + 1; omega) _).other _ (by show w.heap.size + 1 ≠ w.heap.size + 1 + 1; omega) _
        · have h1 := (((HS.out.set (4 * i) (x / 16777216)).set (4 * i + 1) (x / 65536 % 256)).set (4 * i + 2) (x / 256 % 256)).set (4 * i + 3) (x % 256)
          have b0 : x / 16777216 = byteAt st (4 * i) := by
            unfold byteAt
            rw [show 4 * i / 4 = i by omega, show 4 * i % 4 = 0 by omega, ← HX.out]
            omega
          have b1 : x / 65536 % 256 = byteAt st (4 * i + 1) := by
            unfold byteAt
            rw [show (4 * i + 1) / 4 = i by omega, show (4 * i + 1) % 4 = 1 by omega, ← HX.out]
          have b2 : x / 256 % 256 = byteAt st (4 * i + 2) := by
            unfold byteAt
            rw [show (4 * i + 2) / 4 = i by omega, show (4 * i + 2) % 4 = 2 by omega, ← HX.out]
          have b3 : x % 256 = byteAt st (4 * i + 3) := by
            unfold byteAt
            rw [show (4 * i + 3) / 4 = i by omega, show (4 * i + 3) % 4 = 3 by omega, ← HX.out]
            simp
          have e : ((((outK st (4 * i)).set (4 * i) (x / 16777216)).set (4 * i + 1) (x / 65536 % 256)).set (4 * i + 2) (x / 256 % 256)).set (4 * i + 3) (x % 256) = outK st (4 * (i + 1)) := by
            rw [b0, b1, b2, b3, outK_set st (4 * i), outK_set st (4 * i + 1), show 4 * i + 1 + 1 = 4 * i + 2 from rfl, outK_set st (4 * i + 2), show 4 * i + 2 + 1 = 4 * i + 3 from rfl, outK_set st (4 * i + 3)]
            rfl
          rw [e] at h1
          exact h1
        · exact (((HB.out.setCell (by show w.heap.size ≤ w.heap.size + 1 + 1; omega) _).setCell (by show w.heap.size ≤ w.heap.size + 1 + 1; omega) _).setCell (by show w.heap.size ≤ w.heap.size + 1 + 1; omega) _).setCell (by show w.heap.size ≤ w.heap.size + 1 + 1; omega) _
      case measure => (simp [intOf]; try omega)
    · have hi8 : i = 8 := by omega
      obtain ⟨i1, hi1⟩ : ∃ i1, i1 = i := ⟨_, rfl⟩
      subst hi1
      obtain ⟨R, hR⟩ : ∃ R, R = u8s (outK st 32) := ⟨_, rfl⟩
      obtain ⟨Z, hZ⟩ : ∃ Z, Z = u8s zeros32 := ⟨_, rfl⟩
      have HR1 : Hid (wr.heap[w.heap.size + 1 + 1]? = some (.cells R 131 (0, 0))) := by
        have h1 := HS.out
        rw [hi8] at h1
        rw [hR]
        exact h1
      have HZ1 : Hid (wr.heap[w.heap.size + 1]? = some (.cells Z 131 (0, 0))) := by rw [hZ]; exact HR
      have hsz : R.size = 32 := by rw [hR]; simp [u8s, outK_length]
      have hsz2 : Z.size = R.size := by rw [hsz, hZ]; rfl
      have HI : Hid ((Tryz.prog.info? 131).map (·.size) = some R.size) := by show _ = _; rw [hsz]; kernel_rfl
      have HON : Hid (R.all (·.oneCell') = true) := by show _ = _; rw [hR]; exact u8s_one _
      have HSZ : Hid (Z.size = R.size) := hsz2
      have HRE : Hid (R = u8s (outK st 32)) := hR
      clear hsz hsz2 hR hZ HR HS hi8
      go_wp2_with (first | refine wpList_load_row rfl 131 _ rfl (w.heap.size + 1 + 1) rfl 131 R (0, 0) _ HR1.out Tryz.underlying131 rfl HI.out ?_ | refine wpList_store_row rfl 131 _ _ rfl (w.heap.size + 1) R rfl rfl 131 Z HZ1.out HI.out HSZ.out HON.out ?_)
      refine bodyPost_ret (v := .agg (u8s (outK st 32))) ?_ rfl ⟨rfl, ?_⟩
      · rw [← HRE.out]
        exact results_cell_row (p := 2) (ty := 131) rfl _ _ (w.heap.size + 1) 131 R (0, 0) _ rfl (setRow_heap wr (w.heap.size + 1) Z R 131 _ HZ1.out) Tryz.underlying131 rfl HI.out
      · exact below_setRow HB.out (by omega) _
end Go.Proofs.YtapijhhmjjplmaaGreatDoor
