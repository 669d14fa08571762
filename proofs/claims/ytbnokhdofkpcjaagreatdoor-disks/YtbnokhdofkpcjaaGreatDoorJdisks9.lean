/- OWN TEXT: joined of: RefD5 PMem PD1. -/
import Derived.Maps.OwnSet
import Derived.Maps.OwnOps
import Derived.Deep.MidRow
import Derived.Test.YtbnokhdofkpcjaaGreatDoorJdisks8
namespace Go.Proofs.YtbnokhdofkpcjaaGreatDoor
open Go.RowKit

theorem lt_of_heap' {W : World} {b : Nat} {o : Obj} (h : W.heap[b]? = some o) : b < W.heap.size := (Array.getElem?_eq_some_iff.1 h).1
def z64 : ByteArray := ⟨(List.replicate 64 (0 : UInt8)).toArray⟩
theorem z64_size : z64.size = 64 := by decide
theorem infoStr : (Tryz.prog.info? 9).map (fun i => (i.zero, i.size, i.bytes)) = some (some (.string ⟨#[]⟩), 1, 16) := by kernel_rfl

set_option maxRecDepth 100000 in
theorem zeros_any (w : World) : Calls Tryz.prog 111 #[.int .i64 64] w fun e w' => e = .returned (.string z64) ∧ Below w.heap.size w w' := by
  have hmk : ∀ w, (Instr.makeSlice 134 (.int .i64 64) (.int .i64 64)).run Tryz.prog w = .ok (.slice (some ⟨w.heap.size, 0, none⟩) 64 64) (w.alloc (.cells (madeCells #[.int .u8 0] 64) 5)) := fun w =>
    run_make_row' (P := Tryz.prog) 134 5 (.int .u8 0) 1 Tryz.underlying134 infoByte rfl .i64 .i64 64 (by omega) (by omega) w
  have hcv : (convert 134 9 (.slice (some ⟨w.heap.size, 0, none⟩) 64 64)).run Tryz.prog (w.alloc (.cells (madeCells #[.int .u8 0] 64) 5)) = .ok (.string z64) (w.alloc (.cells (madeCells #[.int .u8 0] 64) 5)) := by
    have h := run_convert_bytes_back (P := Tryz.prog) (w.alloc (.cells (madeCells #[.int .u8 0] 64) 5)) 134 9 5 ⟨w.heap.size, 0, none⟩ 64 (List.replicate 64 0) Tryz.underlying134 Tryz.underlying5 Tryz.underlying9 ?_
    · rw [List.length_replicate] at h
      exact h
    · intro j hj
      rw [List.length_replicate] at hj
      have e1 : (⟨w.heap.size, 0, none⟩ : Addr).add j = ⟨w.heap.size, j, none⟩ := by unfold Addr.add; split <;> simp_all
      rw [e1, cell_of_row _ _ _ _ _ _ (heap_alloc_new w _), List.getElem_replicate]
      simp [madeCells, hj, Nat.mod_one]
  go_enter Tryz.func111, Tryz.ntmps111
  go_wp2
  go_ret
  exact ⟨rfl, (Below.refl _ _).alloc (Nat.le_refl _) _⟩

/-- 'x.f = append(x.f, v)' of the first row. -/
theorem RefV.appSafe {w w3 : World} {S : Nat → Prop} {be g' cap' : Nat} {sv nv wv : Value} {r : RDsk} {O : Obj} (h : RefV w S be sv nv wv r) (x : ByteArray)
    (ho : w3.ownsRow 0 9 1 (.slice (some ⟨g', 0, none⟩) (r.safe.length + 1) cap') (r.safe.length + 1) (strs r.safe ++ [.string x])) (hg : (w.alloc O).grownBy w3 sv.ownBlock) (hat : some g' = sv.ownBlock ∨ some g' = some (w.heap.size + 1)) (hS : ∀ g, w.heap.size ≤ g → S g) :
    RefV (w3.setCell ⟨be, 0, none⟩ (.slice (some ⟨g', 0, none⟩) (r.safe.length + 1) cap')) S be (.slice (some ⟨g', 0, none⟩) (r.safe.length + 1) cap') nv wv { r with safe := r.safe ++ [x] } ∧ Same S w (w3.setCell ⟨be, 0, none⟩ (.slice (some ⟨g', 0, none⟩) (r.safe.length + 1) cap')) := by
  have hlb : be < w.heap.size := (Array.getElem?_eq_some_iff.1 h.blk).1
  have hgb : g' ≠ be := by
    rintro rfl
    rcases hat with e | e
    · exact (h.d1 g' e.symm).1 rfl
    · cases e; omega
  have hold : ∀ g, g < w.heap.size → some g' = some g → sv.ownBlock = some g := fun g hl hg => by
    rcases hat with e | e
    · rw [← e]; exact hg
    · rw [e] at hg; cases hg; omega
  have hkeep : ∀ g, g < w.heap.size → sv.ownBlock ≠ some g → g ≠ be → (w3.setCell ⟨be, 0, none⟩ (.slice (some ⟨g', 0, none⟩) (r.safe.length + 1) cap')).heap[g]? = w.heap[g]? := fun g hl h2 h3 => by
    rw [heap_setCell_other _ _ _ _ h3, hg.block g (by simp; omega) (fun e => h2 e.symm), Below.heap_alloc _ _ _ hl]
  have hbe : w3.heap[be]? = some (.cells (refRow sv nv wv r.left r.lit r.down) 149 (0, 0)) := by
    rw [hg.block be (by simp; omega) (fun e => (h.d1 be e.symm).1 rfl), Below.heap_alloc _ _ _ hlb]
    exact h.blk
  have hz := hg.size
  simp at hz
  refine ⟨⟨?_, h.sb, ?_, ?_, ?_, ?_, ?_, ?_⟩, ?_⟩
  · rw [heap_setCell_same w3 be 0 _ _ _ hbe]; rfl
  · have e : (r.safe ++ [x]).length = r.safe.length + 1 := by simp
    have e2 : strs (r.safe ++ [x]) = strs r.safe ++ [.string x] := by simp [strs]
    refine ⟨?_, fun g hg' => ?_⟩
    · show World.ownsRow _ _ _ _ _ (List.length (r.safe ++ [x])) (strs (r.safe ++ [x]))
      rw [e, e2]
      exact own_heap ho fun g hg' => heap_setCell_other _ _ _ _ (by show g ≠ be; cases hg'; exact hgb)
    · cases hg'
      rcases hat with e | e
      · exact h.safe.2 g' e.symm
      · cases e; exact hS _ (show w.heap.size ≤ w.heap.size + 1 by omega)
  · refine ⟨own_heap h.seen.1 fun g hg' => hkeep g (h.seen.lt hg') (fun e => (h.d1 g e).2.1 hg') (h.d2 g hg').1, h.seen.2⟩
  · refine ⟨own_heap h.wait.1 fun g hg' => hkeep g (h.wait.lt hg') (fun e => (h.d1 g e).2.2 hg') (h.d3 g hg'), h.wait.2⟩
  · intro g hg'
    cases hg'
    refine ⟨hgb, fun e => ?_, fun e => ?_⟩
    · have := h.seen.lt e
      exact (h.d1 g' (hold g' this rfl)).2.1 e
    · have := h.wait.lt e
      exact (h.d1 g' (hold g' this rfl)).2.2 e
  · exact h.d2
  · exact h.d3
  · refine ⟨by rw [show (w3.setCell _ _).os = w3.os from rfl, hg.os]; rfl, by rw [show (w3.setCell _ _).tape = w3.tape from rfl, hg.tape]; rfl, by rw [show (w3.setCell _ _).output = w3.output from rfl, hg.output]; rfl, by simp; omega, fun g hl hn => ?_⟩
    exact hkeep g hl (fun e => hn (h.safe.2 g e)) (by rintro rfl; exact hn h.sb)

/-- The same of the second row. -/
theorem RefV.appSeen {w w3 : World} {S : Nat → Prop} {be g' cap' : Nat} {sv nv wv : Value} {r : RDsk} {O : Obj} (h : RefV w S be sv nv wv r) (x : ByteArray)
    (ho : w3.ownsRow 0 9 1 (.slice (some ⟨g', 0, none⟩) (r.seen.length + 1) cap') (r.seen.length + 1) (strs r.seen ++ [.string x])) (hg : (w.alloc O).grownBy w3 nv.ownBlock) (hat : some g' = nv.ownBlock ∨ some g' = some (w.heap.size + 1)) (hS : ∀ g, w.heap.size ≤ g → S g) :
    RefV (w3.setCell ⟨be, 1, none⟩ (.slice (some ⟨g', 0, none⟩) (r.seen.length + 1) cap')) S be sv (.slice (some ⟨g', 0, none⟩) (r.seen.length + 1) cap') wv { r with seen := r.seen ++ [x] } ∧ Same S w (w3.setCell ⟨be, 1, none⟩ (.slice (some ⟨g', 0, none⟩) (r.seen.length + 1) cap')) := by
  have hlb : be < w.heap.size := (Array.getElem?_eq_some_iff.1 h.blk).1
  have hgb : g' ≠ be := by
    rintro rfl
    rcases hat with e | e
    · exact (h.d2 g' e.symm).1 rfl
    · cases e; omega
  have hold : ∀ g, g < w.heap.size → some g' = some g → nv.ownBlock = some g := fun g hl hg => by
    rcases hat with e | e
    · rw [← e]; exact hg
    · rw [e] at hg; cases hg; omega
  have hkeep : ∀ g, g < w.heap.size → nv.ownBlock ≠ some g → g ≠ be → (w3.setCell ⟨be, 1, none⟩ (.slice (some ⟨g', 0, none⟩) (r.seen.length + 1) cap')).heap[g]? = w.heap[g]? := fun g hl h2 h3 => by
    rw [heap_setCell_other _ _ _ _ h3, hg.block g (by simp; omega) (fun e => h2 e.symm), Below.heap_alloc _ _ _ hl]
  have hbe : w3.heap[be]? = some (.cells (refRow sv nv wv r.left r.lit r.down) 149 (0, 0)) := by
    rw [hg.block be (by simp; omega) (fun e => (h.d2 be e.symm).1 rfl), Below.heap_alloc _ _ _ hlb]
    exact h.blk
  have hz := hg.size
  simp at hz
  refine ⟨⟨?_, h.sb, ?_, ?_, ?_, ?_, ?_, ?_⟩, ?_⟩
  · rw [heap_setCell_same w3 be 1 _ _ _ hbe]; rfl
  · refine ⟨own_heap h.safe.1 fun g hg' => hkeep g (h.safe.lt hg') (fun e => (h.d1 g hg').2.1 e) (h.d1 g hg').1, h.safe.2⟩
  · have e : (r.seen ++ [x]).length = r.seen.length + 1 := by simp
    have e2 : strs (r.seen ++ [x]) = strs r.seen ++ [.string x] := by simp [strs]
    refine ⟨?_, fun g hg' => ?_⟩
    · show World.ownsRow _ _ _ _ _ (List.length (r.seen ++ [x])) (strs (r.seen ++ [x]))
      rw [e, e2]
      exact own_heap ho fun g hg' => heap_setCell_other _ _ _ _ (by show g ≠ be; cases hg'; exact hgb)
    · cases hg'
      rcases hat with e | e
      · exact h.seen.2 g' e.symm
      · cases e; exact hS _ (show w.heap.size ≤ w.heap.size + 1 by omega)
  · refine ⟨own_heap h.wait.1 fun g hg' => hkeep g (h.wait.lt hg') (fun e => (h.d2 g e).2 hg') (h.d3 g hg'), h.wait.2⟩
  · intro g hg'
    refine ⟨(h.d1 g hg').1, fun e => ?_, (h.d1 g hg').2.2⟩
    have := h.safe.lt hg'
    cases e
    exact (h.d1 g' hg').2.1 (hold g' this rfl)
  · intro g hg'
    cases hg'
    refine ⟨hgb, fun e => ?_⟩
    have := h.wait.lt e
    exact (h.d2 g' (hold g' this rfl)).2 e
  · exact h.d3
  · refine ⟨by rw [show (w3.setCell _ _).os = w3.os from rfl, hg.os]; rfl, by rw [show (w3.setCell _ _).tape = w3.tape from rfl, hg.tape]; rfl, by rw [show (w3.setCell _ _).output = w3.output from rfl, hg.output]; rfl, by simp; omega, fun g hl hn => ?_⟩
    exact hkeep g hl (fun e => hn (h.seen.2 g e)) (by rintro rfl; exact hn h.sb)

/-- How many sectors a disk has that is asked for with a. -/
def clampN (a : Int) : Nat := if a < 1 then 1 else if 4096 < a then 4096 else a.toNat
theorem clampN_low (a : Int) (h : a < 1) : clampN a = 1 := by unfold clampN; rw [if_pos h]
theorem clampN_high (a : Int) (h : 4096 < a) : clampN a = 4096 := by unfold clampN; rw [if_neg (by omega), if_pos h]
theorem clampN_mid (a : Int) (h : ¬ a < 1) (h' : ¬ 4096 < a) : clampN a = a.toNat := by unfold clampN; rw [if_neg h, if_neg h']
theorem clampN_bound (a : Int) : 1 ≤ clampN a ∧ clampN a ≤ 4096 := by
  unfold clampN
  split
  · omega
  · split <;> omega
def RDsk.fresh (n : Nat) : RDsk := ⟨List.replicate n z64, List.replicate n z64, [], 0, false, false⟩

set_option maxRecDepth 100000 in
set_option maxHeartbeats 2000000 in
theorem ref_new (a : Int) (w : World) (hr : inR a) :
    Calls Tryz.prog 69 #[.int .i64 a] w fun e w' => ∃ be, e = .returned (.pointer (some ⟨be, 0, none⟩)) ∧ RefAt w' (fun g => w.heap.size ≤ g) be (RDsk.fresh (clampN a)) ∧ Below w.heap.size w w' := by
  obtain ⟨n, hn⟩ : ∃ n, n = clampN a := ⟨_, rfl⟩
  have hb := clampN_bound a
  rw [← hn] at hb ⊢
  obtain ⟨i0, hi0, hz0, hz1, hz2⟩ := info_parts infoStr
  obtain ⟨hb1, hb2⟩ := hb
  have HB0 : Hid (1 ≤ n ∧ n ≤ 4096) := ⟨hb1, hb2⟩
  have HZ : Hid (∀ w, Calls Tryz.prog 111 #[.int .i64 64] w fun e w' => e = .returned (.string z64) ∧ Below w.heap.size w w') := zeros_any
  unfold inR at hr
  obtain ⟨z, hz⟩ : ∃ z, z = z64 := ⟨_, rfl⟩
  rw [← hz] at HZ
  have HZE : Hid (z = z64) := hz
  clear hz
  have HV0 : Hid (∀ w1, Below (w.heap.size + 1) (w.alloc (.cells #[.slice none 0 0, .slice none 0 0, .slice none 0 0, .int .i64 0, .bool false, .bool false] 149)) w1 → RefV w1 (fun g => w.heap.size ≤ g) w.heap.size (.slice none 0 0) (.slice none 0 0) (.slice none 0 0) ⟨[], [], [], 0, false, false⟩) := fun w1 hb1 => by
    refine ⟨?_, Nat.le_refl _, ⟨⟨rfl, .inl ⟨rfl, rfl⟩⟩, fun g hg => by cases hg⟩, ⟨⟨rfl, .inl ⟨rfl, rfl⟩⟩, fun g hg => by cases hg⟩, ⟨⟨rfl, .inl ⟨rfl, rfl⟩⟩, fun g hg => by cases hg⟩, (fun g hg => by cases hg), (fun g hg => by cases hg), (fun g hg => by cases hg)⟩
    rw [hb1.block _ (by omega)]
    exact heap_alloc_new w _
  by_cases h0 : a < 1
  · have hc : (n : Int) = 1 := by have := clampN_low a h0; omega
    clear hn
    go_enter Tryz.func69, Tryz.ntmps69
    go_wp2_with fail
    refine (HZ.out _).mono ?_
    rintro e w1 ⟨rfl, hb1⟩
    have hz1' := hb1.size
    have HV1 : Hid (RefV w1 (fun g => w.heap.size ≤ g) w.heap.size (.slice none 0 0) (.slice none 0 0) (.slice none 0 0) ⟨[], [], [], 0, false, false⟩) := HV0.out w1 (by simpa using hb1)
    have HBL : Hid (Below w.heap.size w w1) := ((Below.refl _ _).alloc (Nat.le_refl _) _).trans (hb1.mono (by simp))
    clear hb1 hz1' HV0
    go_wp2
    go_loopw [5] (fun iv_ wr => ∃ i : Nat, i ≤ n ∧ iv_ = .int .i64 (i : Int) ∧ Hid (∃ sv nv, RefV wr (fun g => w.heap.size ≤ g) w.heap.size sv nv (.slice none 0 0) ⟨List.replicate i z, List.replicate i z, [], 0, false, false⟩) ∧ Hid (Below w.heap.size w wr)) (fun iv_ _ => n - (intOf iv_).toNat)
    case atStart => exact ⟨0, by omega, rfl, ⟨_, _, HV1.out⟩, HBL⟩
    case round =>
      clear HV1 HBL
      obtain ⟨i, hi, rfl, HVE, HBL⟩ := hrel
      obtain ⟨sv, nv, hv⟩ := HVE.out
      have HV : Hid (RefV wr (fun g => w.heap.size ≤ g) w.heap.size sv nv (.slice none 0 0) ⟨List.replicate i z, List.replicate i z, [], 0, false, false⟩) := hv
      clear hv HVE
      by_cases hlt : i < n
      · have hlc : (i : Int) < 1 := by omega
        have c0 : wr.cell? ⟨w.heap.size, 0, none⟩ = some sv := cell_of_row _ _ _ _ _ _ HV.out.blk
        have HO : Hid (wr.ownsRow 0 9 1 sv i (strs (List.replicate i z))) := by
          have h := HV.out.safe.1
          rw [List.length_replicate] at h
          exact h
        go_wp2_with (at_builtin; refine wpList_append_own_at _ rfl _ _ 35 rfl 0 9 i0 (.string ⟨#[]⟩) 1 16 Tryz.underlying35 hi0 hz0 hz1 hz2 rfl (by decide) _ _ _ rfl (World.ownsRow.alloc HO.out _) _ 1 1 [.string z] rfl rfl (cell_one_new _ _ _) ?c2 ?c3 ?c4 ?c5 ?_)
        case c2 => intro u hu; rw [List.mem_singleton] at hu; subst hu; rfl
        case c3 => unfold maxLen; omega
        case c4 => omega
        case c5 => omega
        intro v' w3 hown' hgrow _ hat
        obtain ⟨g', cap', rfl⟩ : ∃ g' cap', v' = .slice (some ⟨g', 0, none⟩) (i + 1) cap' := by
          obtain ⟨-, h2 | ⟨g', cap', cur', hv', -⟩⟩ := hown'
          · omega
          · exact ⟨g', cap', hv'⟩
        have hS : ∀ g, wr.heap.size ≤ g → w.heap.size ≤ g := fun g h => Nat.le_trans HBL.out.size h
        have hap := HV.out.appSafe (O := .cells #[.string z] 9) z (by rw [List.length_replicate]; exact hown') hgrow (by simpa [Value.ownBlock] using hat) hS
        simp only [List.length_replicate] at hap
        obtain ⟨hv1, hs1⟩ := hap
        have hbe : w3.heap[w.heap.size]? = some (.cells (refRow sv nv (.slice none 0 0) 0 false false) 149 (0, 0)) := by
          rw [hgrow.block _ (by simp; have := lt_of_heap' HV.out.blk; omega) (fun e => (HV.out.d1 _ e.symm).1 rfl), Below.heap_alloc _ _ _ (lt_of_heap' HV.out.blk)]
          exact HV.out.blk
        have d0 : w3.cell? ⟨w.heap.size, 0, none⟩ = some sv := cell_of_row _ _ _ _ _ _ hbe
        have f0 := frozen_of_row w3 w.heap.size 0 _ _ hbe
        have HV2 : Hid (RefV (w3.setCell ⟨w.heap.size, 0, none⟩ (.slice (some ⟨g', 0, none⟩) (i + 1) cap')) (fun g => w.heap.size ≤ g) w.heap.size (.slice (some ⟨g', 0, none⟩) (i + 1) cap') nv (.slice none 0 0) ⟨List.replicate i z ++ [z], List.replicate i z, [], 0, false, false⟩) := hv1
        have HS2 : Hid (Same (fun g => w.heap.size ≤ g) wr (w3.setCell ⟨w.heap.size, 0, none⟩ (.slice (some ⟨g', 0, none⟩) (i + 1) cap'))) := hs1
        have d1 : (w3.setCell ⟨w.heap.size, 0, none⟩ (.slice (some ⟨g', 0, none⟩) (i + 1) cap')).cell? ⟨w.heap.size, 1, none⟩ = some nv := cell_of_row _ _ _ _ _ _ HV2.out.blk
        have HO2 : Hid ((w3.setCell ⟨w.heap.size, 0, none⟩ (.slice (some ⟨g', 0, none⟩) (i + 1) cap')).ownsRow 0 9 1 nv i (strs (List.replicate i z))) := by
          have h := HV2.out.seen.1
          rw [List.length_replicate] at h
          exact h
        have HCN : Hid (∀ j u, [Value.string z][j]? = some u → ((w3.setCell ⟨w.heap.size, 0, none⟩ (.slice (some ⟨g', 0, none⟩) (i + 1) cap')).alloc (.cells #[.string z] 9)).cell? ((⟨w3.heap.size, 0, none⟩ : Addr).add j) = some u) := fun j u hj => by
          have h := cell_one_new (w3.setCell ⟨w.heap.size, 0, none⟩ (.slice (some ⟨g', 0, none⟩) (i + 1) cap')) (.string z) 9 j u hj
          have e : (w3.setCell ⟨w.heap.size, 0, none⟩ (.slice (some ⟨g', 0, none⟩) (i + 1) cap')).heap.size = w3.heap.size := by simp
          rw [e] at h
          exact h
        clear hown' hgrow hat hS hv1 hs1 hbe c0 HO
        go_wp2_with (at_builtin; refine wpList_append_own_at _ rfl _ _ 35 rfl 0 9 i0 (.string ⟨#[]⟩) 1 16 Tryz.underlying35 hi0 hz0 hz1 hz2 rfl (by decide) _ _ _ rfl (World.ownsRow.alloc HO2.out _) _ 1 1 [.string z] rfl rfl HCN.out ?e2 ?e3 ?e4 ?e5 ?_)
        case e2 => intro u hu; rw [List.mem_singleton] at hu; subst hu; rfl
        case e3 => unfold maxLen; omega
        case e4 => omega
        case e5 => omega
        intro v2 w5 hown' hgrow _ hat
        obtain ⟨g2, cap2, rfl⟩ : ∃ g2 cap2, v2 = .slice (some ⟨g2, 0, none⟩) (i + 1) cap2 := by
          obtain ⟨-, h2 | ⟨g', cap', cur', hv', -⟩⟩ := hown'
          · omega
          · exact ⟨g', cap', hv'⟩
        have hS : ∀ g, (w3.setCell ⟨w.heap.size, 0, none⟩ (.slice (some ⟨g', 0, none⟩) (i + 1) cap')).heap.size ≤ g → w.heap.size ≤ g := fun g h => Nat.le_trans (Nat.le_trans HBL.out.size HS2.out.size) h
        have hap := HV2.out.appSeen (O := .cells #[.string z] 9) z (by simp only [List.length_replicate]; exact hown') hgrow (by simpa [Value.ownBlock] using hat) hS
        simp only [List.length_replicate] at hap
        obtain ⟨hv1, hs1⟩ := hap
        have hbe : w5.heap[w.heap.size]? = some (.cells (refRow (.slice (some ⟨g', 0, none⟩) (i + 1) cap') nv (.slice none 0 0) 0 false false) 149 (0, 0)) := by
          have hl := lt_of_heap' HV2.out.blk
          rw [hgrow.block _ (by simp at hl ⊢; omega) (fun e => (HV2.out.d2 _ e.symm).1 rfl), Below.heap_alloc _ _ _ hl]
          exact HV2.out.blk
        have d2 : w5.cell? ⟨w.heap.size, 1, none⟩ = some nv := cell_of_row _ _ _ _ _ _ hbe
        have f2 := frozen_of_row w5 w.heap.size 1 _ _ hbe
        have HV3 : Hid (RefV (w5.setCell ⟨w.heap.size, 1, none⟩ (.slice (some ⟨g2, 0, none⟩) (i + 1) cap2)) (fun g => w.heap.size ≤ g) w.heap.size (.slice (some ⟨g', 0, none⟩) (i + 1) cap') (.slice (some ⟨g2, 0, none⟩) (i + 1) cap2) (.slice none 0 0) ⟨List.replicate i z ++ [z], List.replicate i z ++ [z], [], 0, false, false⟩) := hv1
        have HS3 : Hid (Same (fun g => w.heap.size ≤ g) wr (w5.setCell ⟨w.heap.size, 1, none⟩ (.slice (some ⟨g2, 0, none⟩) (i + 1) cap2))) := HS2.out.trans hs1
        clear hown' hgrow hat hS hv1 hs1 hbe HO2 HCN d0 d1 f0
        go_wp2
        go_roundw
        case rel =>
          refine ⟨i + 1, by omega, by go_num, ?_, ?_⟩
          · have e : List.replicate (i + 1) z = List.replicate i z ++ [z] := List.replicate_succ'
            rw [e]
            exact ⟨_, _, HV3.out⟩
          · exact HBL.out.trans (HS3.out.below (B := w.heap.size) (fun g h => h) HBL.out.size)
        case measure => (simp [intOf]; try omega)
      · have hin : i = n := by omega
        have hlc : ¬ (i : Int) < 1 := by omega
        obtain ⟨i1, hi1⟩ : ∃ i1, i1 = i := ⟨_, rfl⟩
        subst hi1
        have HVF : Hid (RefAt wr (fun g => w.heap.size ≤ g) w.heap.size (RDsk.fresh n)) := by
          refine ⟨sv, nv, .slice none 0 0, ?_⟩
          unfold RDsk.fresh
          rw [← hin, ← HZE.out]
          exact HV.out
        clear HV hin
        go_wp2
        go_ret
        exact ⟨w.heap.size, rfl, HVF.out, HBL.out⟩
  · by_cases h1 : 4096 < a
    · have hc : (n : Int) = 4096 := by have := clampN_high a h1; omega
      clear hn
      go_enter Tryz.func69, Tryz.ntmps69
      go_wp2_with fail
      refine (HZ.out _).mono ?_
      rintro e w1 ⟨rfl, hb1⟩
      have hz1' := hb1.size
      have HV1 : Hid (RefV w1 (fun g => w.heap.size ≤ g) w.heap.size (.slice none 0 0) (.slice none 0 0) (.slice none 0 0) ⟨[], [], [], 0, false, false⟩) := HV0.out w1 (by simpa using hb1)
      have HBL : Hid (Below w.heap.size w w1) := ((Below.refl _ _).alloc (Nat.le_refl _) _).trans (hb1.mono (by simp))
      clear hb1 hz1' HV0
      go_wp2
      go_loopw [5] (fun iv_ wr => ∃ i : Nat, i ≤ n ∧ iv_ = .int .i64 (i : Int) ∧ Hid (∃ sv nv, RefV wr (fun g => w.heap.size ≤ g) w.heap.size sv nv (.slice none 0 0) ⟨List.replicate i z, List.replicate i z, [], 0, false, false⟩) ∧ Hid (Below w.heap.size w wr)) (fun iv_ _ => n - (intOf iv_).toNat)
      case atStart => exact ⟨0, by omega, rfl, ⟨_, _, HV1.out⟩, HBL⟩
      case round =>
        clear HV1 HBL
        obtain ⟨i, hi, rfl, HVE, HBL⟩ := hrel
        obtain ⟨sv, nv, hv⟩ := HVE.out
        have HV : Hid (RefV wr (fun g => w.heap.size ≤ g) w.heap.size sv nv (.slice none 0 0) ⟨List.replicate i z, List.replicate i z, [], 0, false, false⟩) := hv
        clear hv HVE
        by_cases hlt : i < n
        · have hlc : (i : Int) < 4096 := by omega
          have c0 : wr.cell? ⟨w.heap.size, 0, none⟩ = some sv := cell_of_row _ _ _ _ _ _ HV.out.blk
          have HO : Hid (wr.ownsRow 0 9 1 sv i (strs (List.replicate i z))) := by
            have h := HV.out.safe.1
            rw [List.length_replicate] at h
            exact h
          go_wp2_with (at_builtin; refine wpList_append_own_at _ rfl _ _ 35 rfl 0 9 i0 (.string ⟨#[]⟩) 1 16 Tryz.underlying35 hi0 hz0 hz1 hz2 rfl (by decide) _ _ _ rfl (World.ownsRow.alloc HO.out _) _ 1 1 [.string z] rfl rfl (cell_one_new _ _ _) ?c2 ?c3 ?c4 ?c5 ?_)
          case c2 => intro u hu; rw [List.mem_singleton] at hu; subst hu; rfl
          case c3 => unfold maxLen; omega
          case c4 => omega
          case c5 => omega
          intro v' w3 hown' hgrow _ hat
          obtain ⟨g', cap', rfl⟩ : ∃ g' cap', v' = .slice (some ⟨g', 0, none⟩) (i + 1) cap' := by
            obtain ⟨-, h2 | ⟨g', cap', cur', hv', -⟩⟩ := hown'
            · omega
            · exact ⟨g', cap', hv'⟩
          have hS : ∀ g, wr.heap.size ≤ g → w.heap.size ≤ g := fun g h => Nat.le_trans HBL.out.size h
          have hap := HV.out.appSafe (O := .cells #[.string z] 9) z (by rw [List.length_replicate]; exact hown') hgrow (by simpa [Value.ownBlock] using hat) hS
          simp only [List.length_replicate] at hap
          obtain ⟨hv1, hs1⟩ := hap
          have hbe : w3.heap[w.heap.size]? = some (.cells (refRow sv nv (.slice none 0 0) 0 false false) 149 (0, 0)) := by
            rw [hgrow.block _ (by simp; have := lt_of_heap' HV.out.blk; omega) (fun e => (HV.out.d1 _ e.symm).1 rfl), Below.heap_alloc _ _ _ (lt_of_heap' HV.out.blk)]
            exact HV.out.blk
          have d0 : w3.cell? ⟨w.heap.size, 0, none⟩ = some sv := cell_of_row _ _ _ _ _ _ hbe
          have f0 := frozen_of_row w3 w.heap.size 0 _ _ hbe
          have HV2 : Hid (RefV (w3.setCell ⟨w.heap.size, 0, none⟩ (.slice (some ⟨g', 0, none⟩) (i + 1) cap')) (fun g => w.heap.size ≤ g) w.heap.size (.slice (some ⟨g', 0, none⟩) (i + 1) cap') nv (.slice none 0 0) ⟨List.replicate i z ++ [z], List.replicate i z, [], 0, false, false⟩) := hv1
          have HS2 : Hid (Same (fun g => w.heap.size ≤ g) wr (w3.setCell ⟨w.heap.size, 0, none⟩ (.slice (some ⟨g', 0, none⟩) (i + 1) cap'))) := hs1
          have d1 : (w3.setCell ⟨w.heap.size, 0, none⟩ (.slice (some ⟨g', 0, none⟩) (i + 1) cap')).cell? ⟨w.heap.size, 1, none⟩ = some nv := cell_of_row _ _ _ _ _ _ HV2.out.blk
          have HO2 : Hid ((w3.setCell ⟨w.heap.size, 0, none⟩ (.slice (some ⟨g', 0, none⟩) (i + 1) cap')).ownsRow 0 9 1 nv i (strs (List.replicate i z))) := by
            have h := HV2.out.seen.1
            rw [List.length_replicate] at h
            exact h
          have HCN : Hid (∀ j u, [Value.string z][j]? = some u → ((w3.setCell ⟨w.heap.size, 0, none⟩ (.slice (some ⟨g', 0, none⟩) (i + 1) cap')).alloc (.cells #[.string z] 9)).cell? ((⟨w3.heap.size, 0, none⟩ : Addr).add j) = some u) := fun j u hj => by
            have h := cell_one_new (w3.setCell ⟨w.heap.size, 0, none⟩ (.slice (some ⟨g', 0, none⟩) (i + 1) cap')) (.string z) 9 j u hj
            have e : (w3.setCell ⟨w.heap.size, 0, none⟩ (.slice (some ⟨g', 0, none⟩) (i + 1) cap')).heap.size = w3.heap.size := by simp
            rw [e] at h
            exact h
          clear hown' hgrow hat hS hv1 hs1 hbe c0 HO
          go_wp2_with (at_builtin; refine wpList_append_own_at _ rfl _ _ 35 rfl 0 9 i0 (.string ⟨#[]⟩) 1 16 Tryz.underlying35 hi0 hz0 hz1 hz2 rfl (by decide) _ _ _ rfl (World.ownsRow.alloc HO2.out _) _ 1 1 [.string z] rfl rfl HCN.out ?e2 ?e3 ?e4 ?e5 ?_)
          case e2 => intro u hu; rw [List.mem_singleton] at hu; subst hu; rfl
          case e3 => unfold maxLen; omega
          case e4 => omega
          case e5 => omega
          intro v2 w5 hown' hgrow _ hat
          obtain ⟨g2, cap2, rfl⟩ : ∃ g2 cap2, v2 = .slice (some ⟨g2, 0, none⟩) (i + 1) cap2 := by
            obtain ⟨-, h2 | ⟨g', cap', cur', hv', -⟩⟩ := hown'
            · omega
            · exact ⟨g', cap', hv'⟩
          have hS : ∀ g, (w3.setCell ⟨w.heap.size, 0, none⟩ (.slice (some ⟨g', 0, none⟩) (i + 1) cap')).heap.size ≤ g → w.heap.size ≤ g := fun g h => Nat.le_trans (Nat.le_trans HBL.out.size HS2.out.size) h
          have hap := HV2.out.appSeen (O := .cells #[.string z] 9) z (by simp only [List.length_replicate]; exact hown') hgrow (by simpa [Value.ownBlock] using hat) hS
          simp only [List.length_replicate] at hap
          obtain ⟨hv1, hs1⟩ := hap
          have hbe : w5.heap[w.heap.size]? = some (.cells (refRow (.slice (some ⟨g', 0, none⟩) (i + 1) cap') nv (.slice none 0 0) 0 false false) 149 (0, 0)) := by
            have hl := lt_of_heap' HV2.out.blk
            rw [hgrow.block _ (by simp at hl ⊢; omega) (fun e => (HV2.out.d2 _ e.symm).1 rfl), Below.heap_alloc _ _ _ hl]
            exact HV2.out.blk
          have d2 : w5.cell? ⟨w.heap.size, 1, none⟩ = some nv := cell_of_row _ _ _ _ _ _ hbe
          have f2 := frozen_of_row w5 w.heap.size 1 _ _ hbe
          have HV3 : Hid (RefV (w5.setCell ⟨w.heap.size, 1, none⟩ (.slice (some ⟨g2, 0, none⟩) (i + 1) cap2)) (fun g => w.heap.size ≤ g) w.heap.size (.slice (some ⟨g', 0, none⟩) (i + 1) cap') (.slice (some ⟨g2, 0, none⟩) (i + 1) cap2) (.slice none 0 0) ⟨List.replicate i z ++ [z], List.replicate i z ++ [z], [], 0, false, false⟩) := hv1
          have HS3 : Hid (Same (fun g => w.heap.size ≤ g) wr (w5.setCell ⟨w.heap.size, 1, none⟩ (.slice (some ⟨g2, 0, none⟩) (i + 1) cap2))) := HS2.out.trans hs1
          clear hown' hgrow hat hS hv1 hs1 hbe HO2 HCN d0 d1 f0
          go_wp2
          go_roundw
          case rel =>
            refine ⟨i + 1, by omega, by go_num, ?_, ?_⟩
            · have e : List.replicate (i + 1) z = List.replicate i z ++ [z] := List.replicate_succ'
              rw [e]
              exact ⟨_, _, HV3.out⟩
            · exact HBL.out.trans (HS3.out.below (B := w.heap.size) (fun g h => h) HBL.out.size)
          case measure => (simp [intOf]; try omega)
        · have hin : i = n := by omega
          have hlc : ¬ (i : Int) < 4096 := by omega
          obtain ⟨i1, hi1⟩ : ∃ i1, i1 = i := ⟨_, rfl⟩
          subst hi1
          have HVF : Hid (RefAt wr (fun g => w.heap.size ≤ g) w.heap.size (RDsk.fresh n)) := by
            refine ⟨sv, nv, .slice none 0 0, ?_⟩
            unfold RDsk.fresh
            rw [← hin, ← HZE.out]
            exact HV.out
          clear HV hin
          go_wp2
          go_ret
          exact ⟨w.heap.size, rfl, HVF.out, HBL.out⟩
    · have hc : (n : Int) = a := by have := clampN_mid a h0 h1; omega
      clear hn
      go_enter Tryz.func69, Tryz.ntmps69
      go_wp2_with fail
      refine (HZ.out _).mono ?_
      rintro e w1 ⟨rfl, hb1⟩
      have hz1' := hb1.size
      have HV1 : Hid (RefV w1 (fun g => w.heap.size ≤ g) w.heap.size (.slice none 0 0) (.slice none 0 0) (.slice none 0 0) ⟨[], [], [], 0, false, false⟩) := HV0.out w1 (by simpa using hb1)
      have HBL : Hid (Below w.heap.size w w1) := ((Below.refl _ _).alloc (Nat.le_refl _) _).trans (hb1.mono (by simp))
      clear hb1 hz1' HV0
      go_wp2
      go_loopw [5] (fun iv_ wr => ∃ i : Nat, i ≤ n ∧ iv_ = .int .i64 (i : Int) ∧ Hid (∃ sv nv, RefV wr (fun g => w.heap.size ≤ g) w.heap.size sv nv (.slice none 0 0) ⟨List.replicate i z, List.replicate i z, [], 0, false, false⟩) ∧ Hid (Below w.heap.size w wr)) (fun iv_ _ => n - (intOf iv_).toNat)
      case atStart => exact ⟨0, by omega, rfl, ⟨_, _, HV1.out⟩, HBL⟩
      case round =>
        clear HV1 HBL
        obtain ⟨i, hi, rfl, HVE, HBL⟩ := hrel
        obtain ⟨sv, nv, hv⟩ := HVE.out
        have HV : Hid (RefV wr (fun g => w.heap.size ≤ g) w.heap.size sv nv (.slice none 0 0) ⟨List.replicate i z, List.replicate i z, [], 0, false, false⟩) := hv
        clear hv HVE
        by_cases hlt : i < n
        · have hlc : (i : Int) < a := by omega
          have c0 : wr.cell? ⟨w.heap.size, 0, none⟩ = some sv := cell_of_row _ _ _ _ _ _ HV.out.blk
          have HO : Hid (wr.ownsRow 0 9 1 sv i (strs (List.replicate i z))) := by
            have h := HV.out.safe.1
            rw [List.length_replicate] at h
            exact h
          go_wp2_with (at_builtin; refine wpList_append_own_at _ rfl _ _ 35 rfl 0 9 i0 (.string ⟨#[]⟩) 1 16 Tryz.underlying35 hi0 hz0 hz1 hz2 rfl (by decide) _ _ _ rfl (World.ownsRow.alloc HO.out _) _ 1 1 [.string z] rfl rfl (cell_one_new _ _ _) ?c2 ?c3 ?c4 ?c5 ?_)
          case c2 => intro u hu; rw [List.mem_singleton] at hu; subst hu; rfl
          case c3 => unfold maxLen; omega
          case c4 => omega
          case c5 => omega
          intro v' w3 hown' hgrow _ hat
          obtain ⟨g', cap', rfl⟩ : ∃ g' cap', v' = .slice (some ⟨g', 0, none⟩) (i + 1) cap' := by
            obtain ⟨-, h2 | ⟨g', cap', cur', hv', -⟩⟩ := hown'
            · omega
            · exact ⟨g', cap', hv'⟩
          have hS : ∀ g, wr.heap.size ≤ g → w.heap.size ≤ g := fun g h => Nat.le_trans HBL.out.size h
          have hap := HV.out.appSafe (O := .cells #[.string z] 9) z (by rw [List.length_replicate]; exact hown') hgrow (by simpa [Value.ownBlock] using hat) hS
          simp only [List.length_replicate] at hap
          obtain ⟨hv1, hs1⟩ := hap
          have hbe : w3.heap[w.heap.size]? = some (.cells (refRow sv nv (.slice none 0 0) 0 false false) 149 (0, 0)) := by
            rw [hgrow.block _ (by simp; have := lt_of_heap' HV.out.blk; omega) (fun e => (HV.out.d1 _ e.symm).1 rfl), Below.heap_alloc _ _ _ (lt_of_heap' HV.out.blk)]
            exact HV.out.blk
          have d0 : w3.cell? ⟨w.heap.size, 0, none⟩ = some sv := cell_of_row _ _ _ _ _ _ hbe
          have f0 := frozen_of_row w3 w.heap.size 0 _ _ hbe
          have HV2 : Hid (RefV (w3.setCell ⟨w.heap.size, 0, none⟩ (.slice (some ⟨g', 0, none⟩) (i + 1) cap')) (fun g => w.heap.size ≤ g) w.heap.size (.slice (some ⟨g', 0, none⟩) (i + 1) cap') nv (.slice none 0 0) ⟨List.replicate i z ++ [z], List.replicate i z, [], 0, false, false⟩) := hv1
          have HS2 : Hid (Same (fun g => w.heap.size ≤ g) wr (w3.setCell ⟨w.heap.size, 0, none⟩ (.slice (some ⟨g', 0, none⟩) (i + 1) cap'))) := hs1
          have d1 : (w3.setCell ⟨w.heap.size, 0, none⟩ (.slice (some ⟨g', 0, none⟩) (i + 1) cap')).cell? ⟨w.heap.size, 1, none⟩ = some nv := cell_of_row _ _ _ _ _ _ HV2.out.blk
          have HO2 : Hid ((w3.setCell ⟨w.heap.size, 0, none⟩ (.slice (some ⟨g', 0, none⟩) (i + 1) cap')).ownsRow 0 9 1 nv i (strs (List.replicate i z))) := by
            have h := HV2.out.seen.1
            rw [List.length_replicate] at h
            exact h
          have HCN : Hid (∀ j u, [Value.string z][j]? = some u → ((w3.setCell ⟨w.heap.size, 0, none⟩ (.slice (some ⟨g', 0, none⟩) (i + 1) cap')).alloc (.cells #[.string z] 9)).cell? ((⟨w3.heap.size, 0, none⟩ : Addr).add j) = some u) := fun j u hj => by
            have h := cell_one_new (w3.setCell ⟨w.heap.size, 0, none⟩ (.slice (some ⟨g', 0, none⟩) (i + 1) cap')) (.string z) 9 j u hj
            have e : (w3.setCell ⟨w.heap.size, 0, none⟩ (.slice (some ⟨g', 0, none⟩) (i + 1) cap')).heap.size = w3.heap.size := by simp
            rw [e] at h
            exact h
          clear hown' hgrow hat hS hv1 hs1 hbe c0 HO
          go_wp2_with (at_builtin; refine wpList_append_own_at _ rfl _ _ 35 rfl 0 9 i0 (.string ⟨#[]⟩) 1 16 Tryz.underlying35 hi0 hz0 hz1 hz2 rfl (by decide) _ _ _ rfl (World.ownsRow.alloc HO2.out _) _ 1 1 [.string z] rfl rfl HCN.out ?e2 ?e3 ?e4 ?e5 ?_)
          case e2 => intro u hu; rw [List.mem_singleton] at hu; subst hu; rfl
          case e3 => unfold maxLen; omega
          case e4 => omega
          case e5 => omega
          intro v2 w5 hown' hgrow _ hat
          obtain ⟨g2, cap2, rfl⟩ : ∃ g2 cap2, v2 = .slice (some ⟨g2, 0, none⟩) (i + 1) cap2 := by
            obtain ⟨-, h2 | ⟨g', cap', cur', hv', -⟩⟩ := hown'
            · omega
            · exact ⟨g', cap', hv'⟩
          have hS : ∀ g, (w3.setCell ⟨w.heap.size, 0, none⟩ (.slice (some ⟨g', 0, none⟩) (i + 1) cap')).heap.size ≤ g → w.heap.size ≤ g := fun g h => Nat.le_trans (Nat.le_trans HBL.out.size HS2.out.size) h
          have hap := HV2.out.appSeen (O := .cells #[.string z] 9) z (by simp only [List.length_replicate]; exact hown') hgrow (by simpa [Value.ownBlock] using hat) hS
          simp only [List.length_replicate] at hap
          obtain ⟨hv1, hs1⟩ := hap
          have hbe : w5.heap[w.heap.size]? = some (.cells (refRow (.slice (some ⟨g', 0, none⟩) (i + 1) cap') nv (.slice none 0 0) 0 false false) 149 (0, 0)) := by
            have hl := lt_of_heap' HV2.out.blk
            rw [hgrow.block _ (by simp at hl ⊢; omega) (fun e => (HV2.out.d2 _ e.symm).1 rfl), Below.heap_alloc _ _ _ hl]
            exact HV2.out.blk
          have d2 : w5.cell? ⟨w.heap.size, 1, none⟩ = some nv := cell_of_row _ _ _ _ _ _ hbe
          have f2 := frozen_of_row w5 w.heap.size 1 _ _ hbe
          have HV3 : Hid (RefV (w5.setCell ⟨w.heap.size, 1, none⟩ (.slice (some ⟨g2, 0, none⟩) (i + 1) cap2)) (fun g => w.heap.size ≤ g) w.heap.size (.slice (some ⟨g', 0, none⟩) (i + 1) cap') (.slice (some ⟨g2, 0, none⟩) (i + 1) cap2) (.slice none 0 0) ⟨List.replicate i z ++ [z], List.replicate i z ++ [z], [], 0, false, false⟩) := hv1
          have HS3 : Hid (Same (fun g => w.heap.size ≤ g) wr (w5.setCell ⟨w.heap.size, 1, none⟩ (.slice (some ⟨g2, 0, none⟩) (i + 1) cap2))) := HS2.out.trans hs1
          clear hown' hgrow hat hS hv1 hs1 hbe HO2 HCN d0 d1 f0
          go_wp2
          go_roundw
          case rel =>
            refine ⟨i + 1, by omega, by go_num, ?_, ?_⟩
            · have e : List.replicate (i + 1) z = List.replicate i z ++ [z] := List.replicate_succ'
              rw [e]
              exact ⟨_, _, HV3.out⟩
            · exact HBL.out.trans (HS3.out.below (B := w.heap.size) (fun g h => h) HBL.out.size)
          case measure => (simp [intOf]; try omega)
        · have hin : i = n := by omega
          have hlc : ¬ (i : Int) < a := by omega
          obtain ⟨i1, hi1⟩ : ∃ i1, i1 = i := ⟨_, rfl⟩
          subst hi1
          have HVF : Hid (RefAt wr (fun g => w.heap.size ≤ g) w.heap.size (RDsk.fresh n)) := by
            refine ⟨sv, nv, .slice none 0 0, ?_⟩
            unfold RDsk.fresh
            rw [← hin, ← HZE.out]
            exact HV.out
          clear HV hin
          go_wp2
          go_ret
          exact ⟨w.heap.size, rfl, HVF.out, HBL.out⟩
end Go.Proofs.YtbnokhdofkpcjaaGreatDoor
namespace Go.Proofs.YtbnokhdofkpcjaaGreatDoor
open Go.RowKit Go.Maps

/-- How an element of a map is held: as it is. -/
def heldR (v : Value) : Option (DataW Value × List MemPlace) := some (.held v, [])
def secs (l : List ByteArray) : List Value := l.flatMap fun s => bcells s.data.toList
def wrs (l : List (Nat × ByteArray)) : List Value := l.flatMap fun x => .int .i64 (x.1 : Int) :: bcells x.2.data.toList
def secV (s : ByteArray) : Value := .agg (bcells s.data.toList).toArray
/-- The map of the sectors for which a write waits. -/
def mapD (l : List (Nat × ByteArray)) : DataW Value := l.foldl (fun D x => D.put (.int .i64 (x.1 : Int)) (.held (secV x.2))) (.map [])
/-- What was written last at a place, if something waits there. -/
def lastW (l : List (Nat × ByteArray)) (k : Nat) : Option ByteArray := l.foldl (fun o x => if x.1 = k then some x.2 else o) none
theorem mapD_snoc (l : List (Nat × ByteArray)) (k : Nat) (s : ByteArray) : mapD (l ++ [(k, s)]) = (mapD l).put (.int .i64 (k : Int)) (.held (secV s)) := by simp [mapD, List.foldl_append]
theorem lastW_snoc (l : List (Nat × ByteArray)) (k j : Nat) (s : ByteArray) : lastW (l ++ [(k, s)]) j = if k = j then some s else lastW l j := by simp [lastW, List.foldl_append]
theorem mapD_isMap (l : List (Nat × ByteArray)) : IsMap (mapD l) := by
  have : ∀ (l : List (Nat × ByteArray)) (D : DataW Value), IsMap D → IsMap (l.foldl (fun D x => D.put (.int .i64 (x.1 : Int)) (.held (secV x.2))) D) := by
    intro l
    induction l with
    | nil => exact fun _ h => h
    | cons x r ih => exact fun D h => ih _ (h.put _ _)
  exact this l _ isMap_empty
theorem snoc_ind {α : Type} {P : List α → Prop} (h0 : P []) (hs : ∀ l x, P l → P (l ++ [x])) (l : List α) : P l := by
  have h : ∀ l : List α, P l.reverse := by
    intro l
    induction l with
    | nil => exact h0
    | cons x r ih => rw [List.reverse_cons]; exact hs _ _ ih
  have h1 := h l.reverse
  rw [List.reverse_reverse] at h1
  exact h1
theorem key_ne {k j : Nat} (h : k ≠ j) : (Lit.int .i64 (j : Int)) ≠ .int .i64 (k : Int) := by
  intro e
  cases e
  exact h rfl
theorem mapD_at (l : List (Nat × ByteArray)) (k : Nat) (z : DataW Value) : (mapD l).atKey (.int .i64 (k : Int)) z = (match lastW l k with | some s => .held (secV s) | none => z) ∧ Maps.has (mapD l) (.int .i64 (k : Int)) = (lastW l k).isSome := by
  refine snoc_ind (P := fun l => (mapD l).atKey (.int .i64 (k : Int)) z = (match lastW l k with | some s => .held (secV s) | none => z) ∧ Maps.has (mapD l) (.int .i64 (k : Int)) = (lastW l k).isSome) ⟨rfl, rfl⟩ (fun l x ih => ?_) l
  obtain ⟨j, s⟩ := x
  rw [mapD_snoc, lastW_snoc]
  by_cases h : j = k
  · subst h
    rw [if_pos rfl]
    have hk : WideAt.IsKeyLit (.int .i64 (j : Int)) := trivial
    exact ⟨atKey_put_same (mapD_isMap l) hk _ _, has_put_same (mapD_isMap l) hk _⟩
  · rw [if_neg h, atKey_put_other (key_ne h), has_put_other (key_ne h)]
    exact ih

/-- The program's disk. -/
structure Dsk where
  safe : List ByteArray
  wait : List (Nat × ByteArray)
  fuse : Int
  down : Bool

def dskRow (lk : Int) (gs n bm : Nat) (wv : Value) (fuse : Int) (down : Bool) : Array Value := #[.int .i32 lk, .int .u32 0, .slice (some ⟨gs, 0, none⟩) n n, .map (some bm), wv, .int .i64 fuse, .bool down]
/-- What is behind the disk's own block. -/
structure DskB (w : World) (S : Nat → Prop) (bd gs bm m : Nat) (wv : Value) (d : Dsk) : Prop where
  sec : w.heap[gs]? = some (.cells (secs d.safe).toArray 193 (0, 0))
  map : w.ownsMap Tryz.prog 3 heldR bm m (mapD d.wait)
  wait : OwnS w S 195 65 wv d.wait.length (wrs d.wait)
  sb : S bd
  ss : S gs
  sm : S bm
  n1 : bd ≠ gs
  n2 : bd ≠ bm
  n3 : gs ≠ bm
  d1 : ∀ g, wv.ownBlock = some g → g ≠ bd ∧ g ≠ gs ∧ g ≠ bm
  v1 : ∀ s ∈ d.safe, s.size = 64
  v2 : ∀ x ∈ d.wait, x.1 < d.safe.length ∧ x.2.size = 64
structure DskV (w : World) (S : Nat → Prop) (lk : Int) (bd gs bm m : Nat) (wv : Value) (d : Dsk) : Prop where
  blk : w.heap[bd]? = some (.cells (dskRow lk gs d.safe.length bm wv d.fuse d.down) 88 (0, 0))
  rest : DskB w S bd gs bm m wv d
def DskAt (w : World) (S : Nat → Prop) (bd m : Nat) (d : Dsk) : Prop := ∃ gs bm wv, DskV w S 0 bd gs bm m wv d
theorem ownsMap_heap {w w' : World} {k : TypeId} {b n : Nat} {D : DataW Value} (h : w.ownsMap Tryz.prog k heldR b n D) (e : w'.heap[b]? = w.heap[b]?) : w'.ownsMap Tryz.prog k heldR b n D := by
  obtain ⟨es, clock, h1, h2⟩ := h
  exact ⟨es, clock, by rw [e]; exact h1, h2⟩
theorem ownsMap_lt {w : World} {k : TypeId} {b n : Nat} {D : DataW Value} (h : w.ownsMap Tryz.prog k heldR b n D) : b < w.heap.size := by
  obtain ⟨es, clock, h1, h2⟩ := h
  exact (Array.getElem?_eq_some_iff.1 h1).1
theorem DskB.on {w w' : World} {S T : Nat → Prop} {bd gs bm m : Nat} {wv : Value} {d : Dsk} (h : DskB w S bd gs bm m wv d) (hs : Same T w w') (h1 : ¬ T gs) (h2 : ¬ T bm) (h3 : ∀ g, wv.ownBlock = some g → ¬ T g) : DskB w' S bd gs bm m wv d :=
  ⟨by rw [hs.block gs (lt_of_heap' h.sec) h1]; exact h.sec, ownsMap_heap h.map (hs.block bm (ownsMap_lt h.map) h2), h.wait.on hs h3, h.sb, h.ss, h.sm, h.n1, h.n2, h.n3, h.d1, h.v1, h.v2⟩
theorem DskB.own {w w' : World} {S : Nat → Prop} {bd gs bm m : Nat} {wv : Value} {d : Dsk} (h : DskB w S bd gs bm m wv d) (hs : Same (· = bd) w w') : DskB w' S bd gs bm m wv d :=
  h.on hs (fun e => h.n1 e.symm) (fun e => h.n2 e.symm) (fun g hg => (h.d1 g hg).1)
theorem DskB.flags {w : World} {S : Nat → Prop} {bd gs bm m : Nat} {wv : Value} {d : Dsk} (h : DskB w S bd gs bm m wv d) (fuse : Int) (down : Bool) : DskB w S bd gs bm m wv { d with fuse := fuse, down := down } :=
  ⟨h.sec, h.map, h.wait, h.sb, h.ss, h.sm, h.n1, h.n2, h.n3, h.d1, h.v1, h.v2⟩
theorem DskAt.on {w w' : World} {S T : Nat → Prop} {bd m : Nat} {d : Dsk} (h : DskAt w S bd m d) (hs : Same T w w') (hd : ∀ g, S g → ¬ T g) : DskAt w' S bd m d := by
  obtain ⟨gs, bm, wv, h⟩ := h
  refine ⟨gs, bm, wv, ?_, h.rest.on hs (hd _ h.rest.ss) (hd _ h.rest.sm) (fun g hg => hd g (h.rest.wait.2 g hg))⟩
  rw [hs.block bd (lt_of_heap' h.blk) (hd bd h.rest.sb)]
  exact h.blk
theorem DskB.mono {w : World} {S T : Nat → Prop} {bd gs bm m : Nat} {wv : Value} {d : Dsk} (h : DskB w S bd gs bm m wv d) (hd : ∀ g, S g → T g) : DskB w T bd gs bm m wv d :=
  ⟨h.sec, h.map, h.wait.mono hd, hd _ h.sb, hd _ h.ss, hd _ h.sm, h.n1, h.n2, h.n3, h.d1, h.v1, h.v2⟩
theorem DskAt.mono {w : World} {S T : Nat → Prop} {bd m : Nat} {d : Dsk} (h : DskAt w S bd m d) (hd : ∀ g, S g → T g) : DskAt w T bd m d := by
  obtain ⟨gs, bm, wv, h⟩ := h
  exact ⟨gs, bm, wv, h.blk, h.rest.mono hd⟩
/-- The disk's own block is written: the lock, the fuse, the flag. -/
theorem DskV.turn {w w' : World} {S : Nat → Prop} {lk : Int} {bd gs bm m : Nat} {wv : Value} {d : Dsk} (h : DskV w S lk bd gs bm m wv d) (hs : Same (· = bd) w w') (lk' fuse : Int) (down : Bool)
    (hb : w'.heap[bd]? = some (.cells (dskRow lk' gs d.safe.length bm wv fuse down) 88 (0, 0))) : DskV w' S lk' bd gs bm m wv { d with fuse := fuse, down := down } :=
  ⟨hb, (h.rest.own hs).flags fuse down⟩
theorem DskV.lockTo {w : World} {S : Nat → Prop} {lk : Int} {bd gs bm m : Nat} {wv : Value} {d : Dsk} (h : DskV w S lk bd gs bm m wv d) (lk' : Int) : DskV (w.setCell ⟨bd, 0, none⟩ (.int .i32 lk')) S lk' bd gs bm m wv d ∧ Same S w (w.setCell ⟨bd, 0, none⟩ (.int .i32 lk')) := by
  have hs : Same (· = bd) w (w.setCell ⟨bd, 0, none⟩ (.int .i32 lk')) := Same.setCell (S := (· = bd)) (Same.refl _ w) ⟨bd, 0, none⟩ rfl _
  refine ⟨h.turn hs lk' d.fuse d.down ?_, hs.weak (by rintro g rfl; exact h.rest.sb)⟩
  rw [heap_setCell_same w bd 0 _ _ _ h.blk]
  rfl

theorem dsk_has (bd m : Nat) (S : Nat → Prop) (d : Dsk) (at_ : Int) (w : World) (h : DskAt w S bd m d) :
    Calls Tryz.prog 180 #[.pointer (some ⟨bd, 0, none⟩), .int .i64 at_] w fun e w' => e = .returned (.bool (decide (0 ≤ at_) && decide (at_ < d.safe.length))) ∧ w = w' := by
  obtain ⟨gs, bm, wv, h⟩ := h
  have c2 : w.cell? ⟨bd, 2, none⟩ = some (.slice (some ⟨gs, 0, none⟩) d.safe.length d.safe.length) := cell_of_row _ _ _ _ _ _ h.blk
  clear h
  by_cases h0 : 0 ≤ at_
  · rw [decide_eq_true h0, Bool.true_and]
    go_enter Tryz.func180, Tryz.ntmps180
    go_wp2
    go_ret
    exact ⟨rfl, rfl⟩
  · rw [decide_eq_false h0, Bool.false_and]
    go_enter Tryz.func180, Tryz.ntmps180
    go_wp2
    go_ret
    exact ⟨rfl, rfl⟩
theorem dsk_sectors (bd m : Nat) (S : Nat → Prop) (d : Dsk) (w : World) (h : DskAt w S bd m d) :
    Calls Tryz.prog 62 #[.pointer (some ⟨bd, 0, none⟩)] w fun e w' => e = .returned (.int .i64 (d.safe.length : Int)) ∧ w = w' := by
  obtain ⟨gs, bm, wv, h⟩ := h
  have c2 : w.cell? ⟨bd, 2, none⟩ = some (.slice (some ⟨gs, 0, none⟩) d.safe.length d.safe.length) := cell_of_row _ _ _ _ _ _ h.blk
  clear h
  go_enter Tryz.func62, Tryz.ntmps62
  go_wp2
  go_ret
  exact ⟨rfl, rfl⟩

set_option maxRecDepth 100000 in
theorem dsk_waiting (bd m : Nat) (S : Nat → Prop) (d : Dsk) (w : World) (h : DskAt w S bd m d) :
    Calls Tryz.prog 53 #[.pointer (some ⟨bd, 0, none⟩)] w fun e w' => e = .returned (.int .i64 (d.wait.length : Int)) ∧ DskAt w' S bd m d ∧ Same S w w' := by
  obtain ⟨gs, bm, wv, h⟩ := h
  obtain ⟨ao, cw, rfl⟩ : ∃ ao cw, wv = .slice ao d.wait.length cw := by
    obtain ⟨-, h2 | ⟨g, cap, cur, hv, -⟩⟩ := h.rest.wait.1
    · exact ⟨none, 0, by rw [h2.2, h2.1]⟩
    · exact ⟨_, cap, hv⟩
  have c0 : w.cell? ⟨bd, 0, none⟩ = some (.int .i32 0) := cell_of_row _ _ _ _ _ _ h.blk
  have f0 := frozen_of_row w bd 0 _ _ h.blk
  obtain ⟨h1, s1⟩ := h.lockTo 1
  have c4 : (w.setCell ⟨bd, 0, none⟩ (.int .i32 1)).cell? ⟨bd, 4, none⟩ = some (.slice ao d.wait.length cw) := cell_of_row _ _ _ _ _ _ h1.blk
  have HV : Hid (DskV (w.setCell ⟨bd, 0, none⟩ (.int .i32 1)) S 1 bd gs bm m (.slice ao d.wait.length cw) d) := h1
  have HS : Hid (Same S w (w.setCell ⟨bd, 0, none⟩ (.int .i32 1))) := s1
  clear h h1 s1
  go_enter_defers Tryz.func53, Tryz.ntmps53
  go_wp2_with (go_at_call 57; refine (lock_free ⟨bd, 0, none⟩ _ c0 f0).mono ?_; rintro e w' ⟨rfl, rfl⟩)
  refine leaves_cons (f := 58) (args := #[.pointer (some ⟨bd, 0, none⟩)]) (by simp) (by simp [go_sem]) ?_
  refine (unlock_deferred ⟨bd, 0, none⟩ .returning _ (cell_of_row _ _ _ _ _ _ HV.out.blk) (frozen_of_row _ _ _ _ _ HV.out.blk)).mono ?_
  rintro e u' w'' ⟨rfl, rfl, hw⟩
  obtain ⟨h2, s2⟩ := HV.out.lockTo 0
  rw [← hw] at h2 s2
  exact ⟨_, results_tmp rfl _ _ _, rfl, ⟨_, _, _, h2⟩, HS.out.trans s2⟩
end Go.Proofs.YtbnokhdofkpcjaaGreatDoor
namespace Go.Proofs.YtbnokhdofkpcjaaGreatDoor
open Go.RowKit Go.Maps

theorem DskV.setFuse {w : World} {S : Nat → Prop} {lk : Int} {bd gs bm m : Nat} {wv : Value} {d : Dsk} (h : DskV w S lk bd gs bm m wv d) (x : Int) : DskV (w.setCell ⟨bd, 5, none⟩ (.int .i64 x)) S lk bd gs bm m wv { d with fuse := x } ∧ Same S w (w.setCell ⟨bd, 5, none⟩ (.int .i64 x)) := by
  have hs : Same (· = bd) w (w.setCell ⟨bd, 5, none⟩ (.int .i64 x)) := Same.setCell (S := (· = bd)) (Same.refl _ w) ⟨bd, 5, none⟩ rfl _
  refine ⟨h.turn hs lk x d.down ?_, hs.weak (by rintro g rfl; exact h.rest.sb)⟩
  rw [heap_setCell_same w bd 5 _ _ _ h.blk]
  rfl
theorem DskV.setDown {w : World} {S : Nat → Prop} {lk : Int} {bd gs bm m : Nat} {wv : Value} {d : Dsk} (h : DskV w S lk bd gs bm m wv d) (x : Bool) : DskV (w.setCell ⟨bd, 6, none⟩ (.bool x)) S lk bd gs bm m wv { d with down := x } ∧ Same S w (w.setCell ⟨bd, 6, none⟩ (.bool x)) := by
  have hs : Same (· = bd) w (w.setCell ⟨bd, 6, none⟩ (.bool x)) := Same.setCell (S := (· = bd)) (Same.refl _ w) ⟨bd, 6, none⟩ rfl _
  refine ⟨h.turn hs lk d.fuse x ?_, hs.weak (by rintro g rfl; exact h.rest.sb)⟩
  rw [heap_setCell_same w bd 6 _ _ _ h.blk]
  rfl

set_option maxRecDepth 100000 in
theorem dsk_fuse (bd m : Nat) (S : Nat → Prop) (d : Dsk) (n : Int) (w : World) (h : DskAt w S bd m d) :
    Calls Tryz.prog 32 #[.pointer (some ⟨bd, 0, none⟩), .int .i64 n] w fun e w' => e = .returned (.tuple #[]) ∧ DskAt w' S bd m { d with fuse := max n 0 } ∧ Same S w w' := by
  obtain ⟨gs, bm, wv, h⟩ := h
  have c0 : w.cell? ⟨bd, 0, none⟩ = some (.int .i32 0) := cell_of_row _ _ _ _ _ _ h.blk
  have f0 := frozen_of_row w bd 0 _ _ h.blk
  obtain ⟨h1, s1⟩ := h.lockTo 1
  have c5 : (w.setCell ⟨bd, 0, none⟩ (.int .i32 1)).cell? ⟨bd, 5, none⟩ = some (.int .i64 d.fuse) := cell_of_row _ _ _ _ _ _ h1.blk
  have f5 := frozen_of_row _ bd 5 _ _ h1.blk
  have HV : Hid (DskV (w.setCell ⟨bd, 0, none⟩ (.int .i32 1)) S 1 bd gs bm m wv d) := h1
  have HS : Hid (Same S w (w.setCell ⟨bd, 0, none⟩ (.int .i32 1))) := s1
  clear h h1 s1
  go_enter_defers Tryz.func32, Tryz.ntmps32
  go_wp2_with (go_at_call 57; refine (lock_free ⟨bd, 0, none⟩ _ c0 f0).mono ?_; rintro e w' ⟨rfl, rfl⟩)
  case inl =>
    obtain ⟨h1, s1⟩ := HV.out.setFuse 0
    refine leaves_cons (f := 58) (args := #[.pointer (some ⟨bd, 0, none⟩)]) (by simp) (by simp [go_sem]) ?_
    refine (unlock_deferred ⟨bd, 0, none⟩ .returning _ (cell_of_row _ _ _ _ _ _ h1.blk) (frozen_of_row _ _ _ _ _ h1.blk)).mono ?_
    rintro e u' w'' ⟨rfl, rfl, hw⟩
    obtain ⟨h2, s2⟩ := h1.lockTo 0
    rw [← hw] at h2 s2
    have hm : max n 0 = 0 := by omega
    rw [hm]
    exact ⟨_, results_none rfl _ _ _, rfl, ⟨_, _, _, h2⟩, HS.out.trans (s1.trans s2)⟩
  case inr =>
    obtain ⟨h1, s1⟩ := HV.out.setFuse n
    refine leaves_cons (f := 58) (args := #[.pointer (some ⟨bd, 0, none⟩)]) (by simp) (by simp [go_sem]) ?_
    refine (unlock_deferred ⟨bd, 0, none⟩ .returning _ (cell_of_row _ _ _ _ _ _ h1.blk) (frozen_of_row _ _ _ _ _ h1.blk)).mono ?_
    rintro e u' w'' ⟨rfl, rfl, hw⟩
    obtain ⟨h2, s2⟩ := h1.lockTo 0
    rw [← hw] at h2 s2
    have hm : max n 0 = n := by omega
    rw [hm]
    exact ⟨_, results_none rfl _ _ _, rfl, ⟨_, _, _, h2⟩, HS.out.trans (s1.trans s2)⟩

theorem zero_sec : ∀ w, (zeroValue 193).run Tryz.prog w = .ok (secV z64) w := fun _ => by kernel_rfl
theorem intKey : Keyed Tryz.prog 3 := int_keyed Tryz.underlying3
theorem key_wf (k : Nat) (h : k ≤ 4096) : (Lit.int .i64 (k : Int)).wf = true := by
  simp [Lit.wf, IntKind.min, IntKind.max, IntKind.signed, IntKind.bits]
  omega
/-- 's, ok := d.seen[at]'. -/
theorem wpList_lookup_sec {w : World} {ops : Array Oper} {rest : List Oper} {o : Oper} {a : Act} {Q : Exit → Act → World → Prop} (hg : o.guard = none) (mo x : Operand) (hop : o.op = Op.lookup 78 mo x true)
    (b n : Nat) (l : List (Nat × ByteArray)) (hm : a.eval mo = .map (some b)) (hown : w.ownsMap Tryz.prog 3 heldR b n (mapD l)) (k : Nat) (hx : a.eval x = .int .i64 (k : Int)) (hk : k ≤ 4096)
    (A : Array Value) (hA : secV ((lastW l k).getD z64) = .agg A) (ok : Bool) (hok : (lastW l k).isSome = ok)
    (hK : wpList Tryz.prog ops Q rest (a.put o.dst (.tuple #[.agg A, .bool ok])) w) : wpList Tryz.prog ops Q (o :: rest) a w := by
  refine wpList_lookup_own_ok w hg mo x 78 hop 3 193 intKey Tryz.underlying78 heldR (zero_sec w) (.held (secV z64)) [] rfl b n (mapD l) hm hown _ _ hx (keyOf_int_mk Tryz.underlying3 (key_wf k hk)) (fun v ps hv => ?_)
  obtain ⟨h1, h2⟩ := mapD_at l k (.held (secV z64))
  have hv' : (DataW.held v : DataW Value) = (mapD l).atKey (.int .i64 (k : Int)) (.held (secV z64)) := by
    unfold heldR at hv
    exact (Prod.mk.inj (Option.some.inj hv)).1
  have e : v = .agg A := by
    rw [← hA]
    rw [h1] at hv'
    cases hl : lastW l k with
    | none => rw [hl] at hv'; exact DataW.held.inj hv'
    | some s => rw [hl] at hv'; exact DataW.held.inj hv'
  rw [e, h2, hok]
  exact hK
end Go.Proofs.YtbnokhdofkpcjaaGreatDoor
