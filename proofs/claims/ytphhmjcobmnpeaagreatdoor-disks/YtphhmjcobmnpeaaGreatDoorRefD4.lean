/- OWN TEXT: the reference's disk: Crash. -/
import Derived.Test.YtphhmjcobmnpeaaGreatDoorRefD3
namespace Go.Proofs.YtphhmjcobmnpeaaGreatDoor
open Go.RowKit

/-- A list of ints as an argument, in memory that no disk owns. -/
def KeepAt (w : World) (S : Nat → Prop) (kv : Value) (ks : List Int) : Prop :=
  (∃ ao cap, kv = .slice ao 0 cap ∧ ks = []) ∨ ∃ gk cap, kv = .slice (some ⟨gk, 0, none⟩) ks.length cap ∧ 0 < ks.length ∧ ¬ S gk ∧ ∀ j (h : j < ks.length), w.cell? ⟨gk, j, none⟩ = some (.int .i64 ks[j])
/-- One write that a crash keeps. -/
def keep1 (wait : List (Nat × ByteArray)) (safe : List ByteArray) (k : Int) : List ByteArray := if h : 0 ≤ k ∧ k < wait.length then safe.set (wait[k.toNat]'(by omega)).1 (wait[k.toNat]'(by omega)).2 else safe
def keepAll (wait : List (Nat × ByteArray)) (safe : List ByteArray) (ks : List Int) : List ByteArray := ks.foldl (keep1 wait) safe
theorem keep1_length (wait : List (Nat × ByteArray)) (safe : List ByteArray) (k : Int) : (keep1 wait safe k).length = safe.length := by
  unfold keep1; split
  · exact List.length_set
  · rfl
theorem keepAll_length (wait : List (Nat × ByteArray)) : ∀ (ks : List Int) (safe : List ByteArray), (keepAll wait safe ks).length = safe.length
  | [], _ => rfl
  | k :: r, safe => by
    show (keepAll wait (keep1 wait safe k) r).length = _
    rw [keepAll_length wait r, keep1_length]
theorem keepAll_snoc (wait : List (Nat × ByteArray)) (safe : List ByteArray) (ks : List Int) (i : Nat) (h : i < ks.length) : keepAll wait safe (ks.take (i + 1)) = keep1 wait (keepAll wait safe (ks.take i)) ks[i] := by
  unfold keepAll
  rw [List.take_succ_eq_append_getElem h, List.foldl_append]
  rfl
def RDsk.crash (r : RDsk) (ks : List Int) : RDsk := { r with safe := keepAll r.wait r.safe ks, seen := keepAll r.wait r.safe ks, wait := [], lit := false, down := false }

theorem wrefs_at (l : List (Nat × ByteArray)) : ∀ k (h : k < l.length), (wrefs l)[2 * k]? = some (.int .i64 (l[k].1 : Int)) ∧ (wrefs l)[2 * k + 1]? = some (.string l[k].2) := by
  induction l with
  | nil => intro k h; cases h
  | cons x r ih =>
    intro k h
    match k, h with
    | 0, _ => exact ⟨rfl, rfl⟩
    | k + 1, h =>
      have := ih k (by simpa using h)
      have e1 : wrefs (x :: r) = [.int .i64 (x.1 : Int), .string x.2] ++ wrefs r := rfl
      rw [e1, show 2 * (k + 1) = 2 * k + 2 by omega]
      exact this

set_option maxRecDepth 100000 in
set_option maxHeartbeats 1000000 in
theorem ref_crash (be : Nat) (S : Nat → Prop) (r : RDsk) (kv : Value) (ks : List Int) (w : World) (h : RefAt w S be r) (hK : KeepAt w S kv ks) (hn : 0 < r.safe.length) (he : r.seen.length = r.safe.length) (hb : r.safe.length ≤ 4096)
    (hw : ∀ x ∈ r.wait, x.1 < r.safe.length) (hwl : r.wait.length ≤ 1000000) (hkl : ks.length ≤ 1000000) :
    Calls Tryz.prog 69 #[.pointer (some ⟨be, 0, none⟩), kv] w fun e w' => e = .returned (.tuple #[]) ∧ RefAt w' S be (r.crash ks) ∧ Same S w w' := by
  obtain ⟨sv, nv, wv, h1⟩ := h
  obtain ⟨n, hn'⟩ : ∃ n, n = r.safe.length := ⟨_, rfl⟩
  have hns : n = r.seen.length := by rw [hn', he]
  obtain ⟨gs, cs, rfl, hgs, -, -⟩ := h1.safe.open (by omega)
  obtain ⟨gn, cn, rfl, hgn, -, -⟩ := h1.seen.open (by omega)
  rw [← hn', ← hns] at h1
  obtain ⟨m, hm⟩ : ∃ m, m = r.wait.length := ⟨_, rfl⟩
  have HW : Hid (∀ (wr : World) (k : Nat), RefV wr S be (.slice (some ⟨gs, 0, none⟩) n cs) (.slice (some ⟨gn, 0, none⟩) n cn) wv { r with safe := keepAll r.wait r.safe ks } → True) := fun _ _ _ => trivial
  have HV0 : Hid (RefV w S be (.slice (some ⟨gs, 0, none⟩) n cs) (.slice (some ⟨gn, 0, none⟩) n cn) wv { r with safe := keepAll r.wait r.safe (ks.take 0) }) := h1
  have HN : Hid (n = r.safe.length) := hn'
  have HNS : Hid (n = r.seen.length) := hns
  have HM : Hid (m = r.wait.length) := hm
  have HGS : Hid (S gs) := hgs
  have HGN : Hid (S gn) := hgn
  have HWT : Hid (∀ x ∈ r.wait, x.1 < r.safe.length) := hw
  have hnbi : (n : Int) ≤ 4096 := by omega
  have hmi : (m : Int) ≤ 1000000 := by omega
  -- how the list of waiting writes stands
  have hwv : ∃ ao cw, wv = .slice ao m cw ∧ (0 < m → ∃ gw, ao = some ⟨gw, 0, none⟩ ∧ gw ≠ gs ∧ gw ≠ gn) := by
    obtain ⟨-, h2 | ⟨g, cap, cur, hv, -⟩⟩ := h1.wait.1
    · exact ⟨none, 0, by rw [hm, h2.2, h2.1], fun h => by omega⟩
    · exact ⟨_, cap, by rw [hm, hv], fun _ => ⟨g, rfl, by rintro rfl; exact (h1.d1 g rfl).2.2 (by rw [hv]; rfl), by rintro rfl; exact (h1.d2 g rfl).2 (by rw [hv]; rfl)⟩⟩
  obtain ⟨ao, cw, rfl, hao⟩ := hwv
  obtain ⟨q, hq⟩ : ∃ q, q = ks.length := ⟨_, rfl⟩
  have hqi : (q : Int) ≤ 1000000 := by omega
  have hkv : ∃ ak ck, kv = .slice ak q ck ∧ (0 < q → ∃ gk, ak = some ⟨gk, 0, none⟩ ∧ ¬ S gk ∧ ∀ j (h : j < ks.length), w.cell? ⟨gk, j, none⟩ = some (.int .i64 ks[j])) := by
    rcases hK with ⟨ak, ck, rfl, e⟩ | ⟨gk, ck, rfl, -, h3, h4⟩
    · exact ⟨ak, ck, by rw [hq, e]; rfl, fun h => by rw [hq, e] at h; cases h⟩
    · exact ⟨_, ck, by rw [hq], fun _ => ⟨gk, rfl, h3, h4⟩⟩
  obtain ⟨ak, ck, rfl, hak⟩ := hkv
  have HAK : Hid (0 < q → ∃ gk, ak = some ⟨gk, 0, none⟩ ∧ ¬ S gk ∧ ∀ j (h : j < ks.length), w.cell? ⟨gk, j, none⟩ = some (.int .i64 ks[j])) := hak
  have HAO : Hid (0 < m → ∃ gw, ao = some ⟨gw, 0, none⟩ ∧ gw ≠ gs ∧ gw ≠ gn) := hao
  have HQ : Hid (q = ks.length) := hq
  clear h1 hn' hns hm hgs hgn hw hn he hb hwl hkl hK hak hao hq HW
  go_enter Tryz.func69, Tryz.ntmps69
  go_wp2
  go_loopw [4] (fun iv_ wr => ∃ i : Nat, i ≤ q ∧ iv_ = .int .i64 (i : Int) ∧ Hid (RefV wr S be (.slice (some ⟨gs, 0, none⟩) n cs) (.slice (some ⟨gn, 0, none⟩) n cn) (.slice ao m cw) { r with safe := keepAll r.wait r.safe (ks.take i) }) ∧ Hid (Same S w wr)) (fun iv_ _ => q - (intOf iv_).toNat)
  case atStart => exact ⟨0, by omega, rfl, HV0, Same.refl _ _⟩
  case round =>
    clear HV0
    obtain ⟨i, hi, rfl, HV, HS⟩ := hrel
    have c0 : wr.cell? ⟨be, 0, none⟩ = some (.slice (some ⟨gs, 0, none⟩) n cs) := cell_of_row _ _ _ _ _ _ HV.out.blk
    have c1 : wr.cell? ⟨be, 1, none⟩ = some (.slice (some ⟨gn, 0, none⟩) n cn) := cell_of_row _ _ _ _ _ _ HV.out.blk
    have c2 : wr.cell? ⟨be, 2, none⟩ = some (.slice ao m cw) := cell_of_row _ _ _ _ _ _ HV.out.blk
    by_cases hlt : i < q
    · obtain ⟨gk, rfl, hSk, hck⟩ := HAK.out (by omega)
      have hik : i < ks.length := by rw [← HQ.out]; exact hlt
      obtain ⟨k, hk⟩ : ∃ k, k = ks[i] := ⟨_, rfl⟩
      have ck' : wr.cell? ⟨gk, i, none⟩ = some (.int .i64 k) := by rw [hk]; exact HS.out.cell hSk (hck i hik)
      have HK1 : Hid (keepAll r.wait r.safe (ks.take (i + 1)) = keep1 r.wait (keepAll r.wait r.safe (ks.take i)) k) := by rw [hk]; exact keepAll_snoc _ _ _ i hik
      clear hk hck
      by_cases hk0 : 0 ≤ k
      · by_cases hkm : k < m
        · obtain ⟨k, rfl⟩ : ∃ k' : Nat, k = k' := ⟨k.toNat, by omega⟩
          have hkw : k < r.wait.length := by rw [← HM.out]; omega
          obtain ⟨gw, rfl, hws, hwn⟩ := HAO.out (by omega)
          obtain ⟨x, hx⟩ : ∃ x, x = r.wait[k] := ⟨_, rfl⟩
          have hxl : x.1 < n := by rw [HN.out, hx]; exact HWT.out _ (List.getElem_mem _)
          obtain ⟨hc1, hc2⟩ := wrefs_at r.wait k hkw
          have hcw : ∀ j (hj : j < (wrefs r.wait).length), wr.cell? ⟨gw, j, none⟩ = some (wrefs r.wait)[j] := by
            obtain ⟨g', c', e, -, hc, -⟩ := HV.out.wait.open (by show 0 < r.wait.length; omega)
            cases e
            exact hc
          have cw1 : wr.cell? ⟨gw, k * 2, none⟩ = some (.int .i64 (x.1 : Int)) := by
            have hl : 2 * k < (wrefs r.wait).length := by rw [wrefs_length]; omega
            rw [Nat.mul_comm k 2, hcw _ hl, ← List.getElem?_eq_getElem hl, hc1, hx]
          have cw2 : wr.cell? ⟨gw, k * 2 + 1, none⟩ = some (.string x.2) := by
            have hl : 2 * k + 1 < (wrefs r.wait).length := by rw [wrefs_length]; omega
            rw [Nat.mul_comm k 2, hcw _ hl, ← List.getElem?_eq_getElem hl, hc2, hx]
          have hkal : (keepAll r.wait r.safe (ks.take i)).length = n := by rw [keepAll_length, ← HN.out]
          obtain ⟨z, cz, fz⟩ : ∃ z, wr.cell? ⟨gs, x.1, none⟩ = some z ∧ wr.frozen? ⟨gs, x.1, none⟩ = false := by
            obtain ⟨g', c', e, -, hc, hf⟩ := HV.out.safe.open (by show 0 < List.length (keepAll r.wait r.safe (ks.take i)); omega)
            cases e
            exact ⟨_, hc x.1 (by rw [strs_length]; show x.1 < List.length (keepAll r.wait r.safe (ks.take i)); omega), hf _⟩
          have HK2 : Hid (keepAll r.wait r.safe (ks.take (i + 1)) = (keepAll r.wait r.safe (ks.take i)).set x.1 x.2) := by
            show _ = _
            rw [HK1.out]
            unfold keep1
            rw [dif_pos ⟨by omega, by rw [← HM.out]; exact hkm⟩, hx]
            rfl
          have HKL : Hid (n = (keepAll r.wait r.safe (ks.take i)).length) := hkal.symm
          obtain ⟨xa, xs⟩ := x
          simp only at hxl cw1 cw2 cz fz HK2
          clear hx hc1 hc2 hcw hkal HK1
          go_wp2
          go_region
          all_goals
            go_wp2
            go_roundw
            case rel =>
              refine ⟨i + 1, by omega, by go_num, ?_, ?_⟩
              · have h1 := HV.out.setSafe HKL.out xa xs
                have h2 : RefV (wr.setCell ⟨gs, xa, none⟩ (.string xs)) S be (.slice (some ⟨gs, 0, none⟩) n cs) (.slice (some ⟨gn, 0, none⟩) n cn) (.slice (some ⟨gw, 0, none⟩) m cw) { r with safe := keepAll r.wait r.safe (ks.take (i + 1)) } := by rw [HK2.out]; exact h1
                exact ⟨h2.blk, h2.sb, h2.safe, h2.seen, h2.wait, h2.d1, h2.d2, h2.d3⟩
              · exact (HS.out.setCell ⟨gs, xa, none⟩ HGS.out _).drew
            case measure => (simp [intOf]; try omega)
        · have HK2 : Hid (keepAll r.wait r.safe (ks.take (i + 1)) = keepAll r.wait r.safe (ks.take i)) := by
            show _ = _
            rw [HK1.out]
            unfold keep1
            rw [dif_neg (by rw [← HM.out]; omega)]
          clear HK1
          go_wp2
          go_roundw
          case rel => exact ⟨i + 1, by omega, by go_num, by rw [HK2.out]; exact HV, HS⟩
          case measure => (simp [intOf]; try omega)
      · have HK2 : Hid (keepAll r.wait r.safe (ks.take (i + 1)) = keepAll r.wait r.safe (ks.take i)) := by
          show _ = _
          rw [HK1.out]
          unfold keep1
          rw [dif_neg (by omega)]
        clear HK1
        go_wp2
        go_roundw
        case rel => exact ⟨i + 1, by omega, by go_num, by rw [HK2.out]; exact HV, HS⟩
        case measure => (simp [intOf]; try omega)
    · obtain ⟨i1, hi1⟩ : ∃ i1, i1 = i := ⟨_, rfl⟩
      subst hi1
      obtain ⟨A, hA⟩ : ∃ A, A = keepAll r.wait r.safe ks := ⟨_, rfl⟩
      have HAL : Hid (n = A.length) := by rw [hA, keepAll_length]; exact HN
      have HV1 : Hid (RefV wr S be (.slice (some ⟨gs, 0, none⟩) n cs) (.slice (some ⟨gn, 0, none⟩) n cn) (.slice ao m cw) { r with safe := A, seen := A.take 0 ++ r.seen.drop 0 }) := by
        have h1 := HV.out
        rw [List.take_of_length_le (by rw [← HQ.out]; omega), ← hA] at h1
        exact h1
      have HA : Hid (A = keepAll r.wait r.safe ks) := hA
      clear HV hA c0 c1 c2
      have c0 : wr.cell? ⟨be, 0, none⟩ = some (.slice (some ⟨gs, 0, none⟩) n cs) := cell_of_row _ _ _ _ _ _ HV1.out.blk
      go_wp2
      clear c0
      rename ¬ i1 < q => h9
      clear h9
      go_loopw [6] (fun iv_ wr => ∃ i : Nat, i ≤ n ∧ iv_ = .int .i64 (i : Int) ∧ Hid (RefV wr S be (.slice (some ⟨gs, 0, none⟩) n cs) (.slice (some ⟨gn, 0, none⟩) n cn) (.slice ao m cw) { r with safe := A, seen := A.take i ++ r.seen.drop i }) ∧ Hid (Same S w wr)) (fun iv_ _ => n - (intOf iv_).toNat)
      case atStart => exact ⟨0, by omega, rfl, HV1, HS⟩
      case round =>
        clear HV1 HS
        obtain ⟨i, hi, rfl, HV, HS⟩ := hrel
        have c0 : wr.cell? ⟨be, 0, none⟩ = some (.slice (some ⟨gs, 0, none⟩) n cs) := cell_of_row _ _ _ _ _ _ HV.out.blk
        have c1 : wr.cell? ⟨be, 1, none⟩ = some (.slice (some ⟨gn, 0, none⟩) n cn) := cell_of_row _ _ _ _ _ _ HV.out.blk
        by_cases hlt : i < n
        · have hl : (A.take i ++ r.seen.drop i).length = n := by rw [addTo_len _ _ _ (by rw [← HAL.out, ← HNS.out]) (by rw [← HNS.out]; exact hi), ← HNS.out]
          obtain ⟨x, hx⟩ : ∃ x, x = A[i]'(by rw [← HAL.out]; exact hlt) := ⟨_, rfl⟩
          have cx : wr.cell? ⟨gs, i, none⟩ = some (.string x) := by
            obtain ⟨g', c', e, -, hc, -⟩ := HV.out.safe.open (by show 0 < A.length; rw [← HAL.out]; omega)
            cases e
            rw [hc i (by rw [strs_length]; show i < A.length; rw [← HAL.out]; exact hlt), hx]
            simp [strs]
          obtain ⟨z, cz, fz⟩ : ∃ z, wr.cell? ⟨gn, i, none⟩ = some z ∧ wr.frozen? ⟨gn, i, none⟩ = false := by
            obtain ⟨g', c', e, -, hc, hf⟩ := HV.out.seen.open (by show 0 < List.length (A.take i ++ r.seen.drop i); omega)
            cases e
            exact ⟨_, hc i (by rw [strs_length]; show i < List.length (A.take i ++ r.seen.drop i); omega), hf i⟩
          have HX : Hid (x = A[i]'(by rw [← HAL.out]; exact hlt)) := hx
          have HL : Hid ((A.take i ++ r.seen.drop i).length = n) := hl
          clear hx hl
          go_wp2
          go_region
          all_goals
            go_wp2
            go_roundw
            case rel =>
              refine ⟨i + 1, by omega, by go_num, ?_, ?_⟩
              · have h1 := HV.out.setSeen HL.out.symm i x
                have e : (A.take i ++ r.seen.drop i).set i x = A.take (i + 1) ++ r.seen.drop (i + 1) := by
                  rw [HX.out]
                  exact addTo_setG _ _ i (by rw [← HAL.out, ← HNS.out]) (by rw [← HNS.out]; exact hlt)
                have h2 : RefV (wr.setCell ⟨gn, i, none⟩ (.string x)) S be (.slice (some ⟨gs, 0, none⟩) n cs) (.slice (some ⟨gn, 0, none⟩) n cn) (.slice ao m cw) { r with safe := A, seen := A.take (i + 1) ++ r.seen.drop (i + 1) } := by rw [← e]; exact h1
                exact ⟨h2.blk, h2.sb, h2.safe, h2.seen, h2.wait, h2.d1, h2.d2, h2.d3⟩
              · exact (HS.out.setCell ⟨gn, i, none⟩ HGN.out _).drew
            case measure => (simp [intOf]; try omega)
        · have hin : i = n := by omega
          obtain ⟨i1, hi1⟩ : ∃ i1, i1 = i := ⟨_, rfl⟩
          subst hi1
          have HV1 : Hid (RefV wr S be (.slice (some ⟨gs, 0, none⟩) n cs) (.slice (some ⟨gn, 0, none⟩) n cn) (.slice ao m cw) { r with safe := A, seen := A }) := by
            have h1 := HV.out
            have e : A.take i1 ++ r.seen.drop i1 = A := by
              rw [hin, List.take_of_length_le (by rw [← HAL.out]; exact Nat.le_refl _), List.drop_eq_nil_of_le (by rw [← HNS.out]; exact Nat.le_refl _), List.append_nil]
            rw [e] at h1
            exact h1
          have hbk := HV1.out.blk
          have c2 : wr.cell? ⟨be, 2, none⟩ = some (.slice ao m cw) := cell_of_row _ _ _ _ _ _ hbk
          have c4 : wr.cell? ⟨be, 4, none⟩ = some (.bool r.lit) := cell_of_row _ _ _ _ _ _ hbk
          have c5 : wr.cell? ⟨be, 5, none⟩ = some (.bool r.down) := cell_of_row _ _ _ _ _ _ hbk
          have f2 := frozen_of_row wr be 2 _ _ hbk
          have f4 := frozen_of_row wr be 4 _ _ hbk
          have f5 := frozen_of_row wr be 5 _ _ hbk
          clear HV hin hbk
          go_wp2
          go_end0
          have h1 := HV1.out.noWait
          have h2 := heap_setCell_same _ be 4 _ _ (.bool false) h1.blk
          have s2 : Same (· = be) (wr.setCell ⟨be, 2, none⟩ (.slice none 0 0)) (((wr.setCell ⟨be, 2, none⟩ (.slice none 0 0)).setCell ⟨be, 4, none⟩ (.bool false)).setCell ⟨be, 5, none⟩ (.bool false)) := Same.setCell (S := (· = be)) (Same.setCell (S := (· = be)) (Same.refl _ _) ⟨be, 4, none⟩ rfl _) ⟨be, 5, none⟩ rfl _
          have h3 := heap_setCell_same _ be 5 _ _ (.bool false) h2
          have h4 := h1.turn s2 r.left false false (by rw [h3]; rfl)
          have ec : r.crash ks = { r with safe := A, seen := A, wait := [], lit := false, down := false } := by unfold RDsk.crash; rw [← HA.out]
          refine ⟨rfl, ?_, (HS.out.setCell ⟨be, 2, none⟩ HV1.out.sb _).trans (s2.weak (by rintro g rfl; exact HV1.out.sb))⟩
          rw [ec]
          exact ⟨_, _, _, h4⟩
end Go.Proofs.YtphhmjcobmnpeaaGreatDoor
