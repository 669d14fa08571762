/- OWN TEXT: the program's disk: NewDisk. -/
import Derived.Test.YtphhmjcobmnpeaaGreatDoorPD8
namespace Go.Proofs.YtphhmjcobmnpeaaGreatDoor
open Go.RowKit Go.Maps

def Dsk.fresh (n : Nat) : Dsk := ⟨List.replicate n z64, [], 0, false⟩
theorem bcells_z64 : bcells z64.data.toList = List.replicate 64 (.int .u8 0) := by kernel_rfl
theorem secs_fresh (n : Nat) : secs (List.replicate n z64) = List.replicate (n * 64) (.int .u8 0) := by
  induction n with
  | zero => simp [secs]
  | succ n ih =>
    have e : secs (List.replicate (n + 1) z64) = bcells z64.data.toList ++ secs (List.replicate n z64) := by simp [secs, List.replicate_succ]
    rw [e, ih, bcells_z64, List.replicate_append_replicate]
    congr 1
    omega
theorem made_rep (v : Value) (L : List Value) (hL : ∀ x ∈ L, x = v) (h64 : L.length = 64) (N : Nat) : madeCells L.toArray N = (List.replicate N v).toArray := by
  unfold madeCells
  apply Array.ext
  · simp
  · intro i h1 h2
    have hlt : i % 64 < L.length := by rw [h64]; exact Nat.mod_lt _ (by omega)
    rw [Array.getElem_map, Array.getElem_range, List.size_toArray, h64, List.getElem_toArray, List.getElem_replicate, getElem!_pos _ _ (by simpa using hlt), List.getElem_toArray]
    exact hL _ (List.getElem_mem _)
theorem made_secs (n : Nat) : madeCells (secV z64).cells (n * 64) = (secs (List.replicate n z64)).toArray := by
  rw [secs_fresh]
  have hz : (secV z64).cells = (List.replicate 64 (.int .u8 0)).toArray := by show (bcells z64.data.toList).toArray = _; rw [bcells_z64]
  rw [hz]
  exact made_rep (.int .u8 0) _ (fun x hx => List.eq_of_mem_replicate hx) List.length_replicate _
theorem infoSec : ∃ i, Tryz.prog.info? 199 = some i ∧ i.zero = some (secV z64) ∧ i.size = 64 ∧ i.bytes = 64 := by
  have h : (Tryz.prog.info? 199).map (fun i => (i.zero, i.size, i.bytes)) = some (some (secV z64), 64, 64) := by kernel_rfl
  obtain ⟨i, hi, hz0, hz1, hz2⟩ := info_parts h
  exact ⟨i, hi, hz0, hz1, hz2⟩
theorem mk_secs (n : Nat) (hn : n ≤ 4096) (w : World) : (Instr.makeSlice 51 (.int .i64 (n : Int)) (.int .i64 (n : Int))).run Tryz.prog w = .ok (.slice (some ⟨w.heap.size, 0, none⟩) n n) (w.alloc (.cells (secs (List.replicate n z64)).toArray 199)) := by
  obtain ⟨i, hi, hz, hs, hb⟩ := infoSec
  have h := run_make (P := Tryz.prog) w 51 199 i (secV z64) Tryz.underlying51 hi hz .i64 .i64 n n (by omega) (by omega) (by rw [hb]; omega) (by omega)
  rw [hs, Int.toNat_natCast, made_secs] at h
  exact h

theorem new_fin (n : Nat) (C : Array Value) (hC : C = (secs (List.replicate n z64)).toArray) (w w' : World) (hw : w' = ((w.alloc (.cells C 199)).alloc (.map #[] 0)).alloc (.cells (dskRow 0 w.heap.size n (w.heap.size + 1) (.slice none 0 0) 0 false) 62)) :
    DskAt w' (fun g => w.heap.size ≤ g) (w.heap.size + 2) 0 (Dsk.fresh n) ∧ Below w.heap.size w w' := by
  subst hw
  refine ⟨⟨w.heap.size, w.heap.size + 1, .slice none 0 0, ?_, ⟨?_, ?_, ⟨⟨rfl, .inl ⟨rfl, rfl⟩⟩, fun g hg => by cases hg⟩, ?_, ?_, ?_, ?_, ?_, ?_, fun g hg => (by cases hg), ?_, fun x hx => (by cases hx)⟩⟩, ?_⟩
  · have h := heap_alloc_new ((w.alloc (.cells C 199)).alloc (.map #[] 0)) (.cells (dskRow 0 w.heap.size n (w.heap.size + 1) (.slice none 0 0) 0 false) 62)
    show _ = some (Obj.cells (dskRow 0 w.heap.size (List.replicate n z64).length (w.heap.size + 1) (.slice none 0 0) 0 false) 62 (0, 0))
    rw [List.length_replicate]
    simpa using h
  · rw [Below.heap_alloc _ _ _ (by simp; omega), Below.heap_alloc _ _ _ (by simp), heap_alloc_new w _, hC]
    rfl
  · have h := (World.ownsMap_made (w.alloc (.cells C 199)) Tryz.prog 3 heldR).alloc (.cells (dskRow 0 w.heap.size n (w.heap.size + 1) (.slice none 0 0) 0 false) 62)
    have e : (w.alloc (.cells C 199)).heap.size = w.heap.size + 1 := by simp
    rw [e] at h
    exact h
  · show w.heap.size ≤ w.heap.size + 2; omega
  · show w.heap.size ≤ w.heap.size; omega
  · show w.heap.size ≤ w.heap.size + 1; omega
  · show w.heap.size + 2 ≠ w.heap.size; omega
  · show w.heap.size + 2 ≠ w.heap.size + 1; omega
  · show w.heap.size ≠ w.heap.size + 1; omega
  · intro s hs
    rw [List.eq_of_mem_replicate hs]
    exact z64_size
  · exact (((Below.refl _ _).alloc (Nat.le_refl _) _).alloc (by simp) _).alloc (by simp; omega) _

set_option maxRecDepth 100000 in
theorem dsk_new (a : Int) (w : World) :
    Calls Tryz.prog 10 #[.int .i64 a] w fun e w' => ∃ bd, e = .returned (.pointer (some ⟨bd, 0, none⟩)) ∧ DskAt w' (fun g => w.heap.size ≤ g) bd 0 (Dsk.fresh (clampN a)) ∧ Below w.heap.size w w' := by
  obtain ⟨n, hn⟩ : ∃ n, n = clampN a := ⟨_, rfl⟩
  have hb := clampN_bound a
  rw [← hn] at hb ⊢
  obtain ⟨C, hC⟩ : ∃ C, C = (secs (List.replicate n z64)).toArray := ⟨_, rfl⟩
  have hmk : ∀ w, (Instr.makeSlice 51 (.int .i64 (n : Int)) (.int .i64 (n : Int))).run Tryz.prog w = .ok (.slice (some ⟨w.heap.size, 0, none⟩) n n) (w.alloc (.cells C 199)) := fun w => by
    rw [hC]; exact mk_secs n hb.2 w
  have hmm : ∀ w, (Instr.makeMap 52 none).run Tryz.prog w = .ok (.map (some w.heap.size)) (w.alloc (.map #[] 0)) := fun w => run_makeMap _ w
  have HF : Hid (∀ w' : World, w' = ((w.alloc (.cells C 199)).alloc (.map #[] 0)).alloc (.cells (dskRow 0 w.heap.size n (w.heap.size + 1) (.slice none 0 0) 0 false) 62) → DskAt w' (fun g => w.heap.size ≤ g) (w.heap.size + 2) 0 (Dsk.fresh n) ∧ Below w.heap.size w w') := fun w' hw => new_fin n C hC w w' hw
  by_cases h0 : a < 1
  · have hn1 : (n : Int) = 1 := by rw [hn, clampN_low a h0]; rfl
    rw [hn1] at hmk
    clear hn hC hb
    go_enter Tryz.func10, Tryz.ntmps10
    go_wp2
    go_ret
    exact ⟨_, rfl, HF.out _ rfl⟩
  · by_cases h1 : 4096 < a
    · have hn1 : (n : Int) = 4096 := by rw [hn, clampN_high a h1]; rfl
      rw [hn1] at hmk
      clear hn hC hb
      go_enter Tryz.func10, Tryz.ntmps10
      go_wp2
      go_ret
      exact ⟨_, rfl, HF.out _ rfl⟩
    · have hn1 : (n : Int) = a := by rw [hn, clampN_mid a h0 h1]; omega
      rw [hn1] at hmk
      clear hn hC hb
      go_enter Tryz.func10, Tryz.ntmps10
      go_wp2
      go_ret
      exact ⟨_, rfl, HF.out _ rfl⟩
end Go.Proofs.YtphhmjcobmnpeaaGreatDoor
