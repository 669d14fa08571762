/- OWN TEXT: the program's mix. -/
import Derived.Test.YtapijhhmjjplmaaGreatDoorSched
import Derived.Deep.RegionWith
namespace Go.Proofs.YtapijhhmjjplmaaGreatDoor
open Go.RowKit

def zeros8 : List Nat := List.replicate 8 0

/-- Eight words, one by one, into block b. -/
abbrev put8 (w : World) (b : Nat) (x0 x1 x2 x3 x4 x5 x6 x7 : Nat) : World := ((((((((w.setCell ⟨b, 0, none⟩ (.int .u32 (x0 : Int))).setCell ⟨b, 1, none⟩ (.int .u32 (x1 : Int))).setCell ⟨b, 2, none⟩ (.int .u32 (x2 : Int))).setCell ⟨b, 3, none⟩ (.int .u32 (x3 : Int))).setCell ⟨b, 4, none⟩ (.int .u32 (x4 : Int))).setCell ⟨b, 5, none⟩ (.int .u32 (x5 : Int))).setCell ⟨b, 6, none⟩ (.int .u32 (x6 : Int))).setCell ⟨b, 7, none⟩ (.int .u32 (x7 : Int)))
theorem put8_row {w : World} {b : Nat} {t : TypeId} {l : List Nat} (hl : l.length = 8) (h : URow w b t l) (x0 x1 x2 x3 x4 x5 x6 x7 : Nat) : URow (put8 w b x0 x1 x2 x3 x4 x5 x6 x7) b t [x0, x1, x2, x3, x4, x5, x6, x7] := by
  have h1 := (((((((h.set 0 x0).set 1 x1).set 2 x2).set 3 x3).set 4 x4).set 5 x5).set 6 x6).set 7 x7
  match l, hl with
  | [_, _, _, _, _, _, _, _], _ => exact h1
theorem put8_other {w : World} {b c : Nat} {t : TypeId} {l : List Nat} (h : URow w c t l) (hc : c ≠ b) (x0 x1 x2 x3 x4 x5 x6 x7 : Nat) : URow (put8 w b x0 x1 x2 x3 x4 x5 x6 x7) c t l :=
  (((((((h.other _ hc _).other _ hc _).other _ hc _).other _ hc _).other _ hc _).other _ hc _).other _ hc _).other _ hc _
theorem put8_below {B : Nat} {a w : World} (h : Below B a w) {b : Nat} (hb : B ≤ b) (x0 x1 x2 x3 x4 x5 x6 x7 : Nat) : Below B a (put8 w b x0 x1 x2 x3 x4 x5 x6 x7) :=
  (((((((h.setCell hb _).setCell hb _).setCell hb _).setCell hb _).setCell hb _).setCell hb _).setCell hb _).setCell hb _
theorem below_undrew {B : Nat} {w w' : World} (h : Below B w.drew w') : Below B w w' := ⟨h.os, h.tape, h.output, h.size, h.block⟩
theorem URow.on {B : Nat} {w w' : World} {b : Nat} {t : TypeId} {l : List Nat} (h : URow w b t l) (hb : Below B w w') (hB : w.heap.size ≤ B) : URow w' b t l := (hb.block b (Nat.lt_of_lt_of_le h.lt hB)).trans h
theorem wrap_u32 (v : Int) : IntKind.u32.wrap v = v % 4294967296 := by
  simp [IntKind.wrap, IntKind.bits, IntKind.signed]
/-- A round, at the sum of its word and its constant. -/
theorem rnd_sum (v : List Nat) (k x : Nat) : rndW v ((x + k) % 4294967296) = rnd v k x := by
  unfold rndW rnd tOf
  congr 1
  · omega
  · congr 4
    omega

set_option maxRecDepth 100000 in
set_option maxHeartbeats 1000000 in
theorem mix_any (h p ks : List Nat) (hhl : h.length = 8) (hhw : ∀ d ∈ h, d < w32) (hpl : p.length = 64) (hpb : ∀ d ∈ p, d < 256) (hkw : ∀ d ∈ ks, d < w32) (w : World)
    (hK : ∀ i, i < 64 → w.cell? ⟨14, i, none⟩ = some (.int .u32 (ks.getD i 0 : Int))) :
    Calls Tryz.prog 182 #[.agg (u32s h), .agg (u8s p)] w fun e w' =>
      e = .returned (.agg (u32s (mixN ks h p))) ∧ Below w.heap.size w w' := by
  have hG : 14 < w.heap.size := block_lt_of_cell (hK 0 (by omega))
  obtain ⟨A8, hA⟩ : ∃ c, c = u32s h := ⟨_, rfl⟩
  obtain ⟨P64, hP⟩ : ∃ c, c = u8s p := ⟨_, rfl⟩
  rw [← hA, ← hP]
  have HA : Hid (A8 = u32s h) := hA
  have HP : Hid (P64 = u8s p) := hP
  have hAs : A8.size = 8 := by rw [hA]; simp [u32s, hhl]
  have hPs : P64.size = 64 := by rw [hP]; simp [u8s, hpl]
  have HIA : Hid ((Tryz.prog.info? 302).map (·.size) = some A8.size) := by show _ = _; rw [hAs]; kernel_rfl
  have HIP : Hid ((Tryz.prog.info? 192).map (·.size) = some P64.size) := by show _ = _; rw [hPs]; kernel_rfl
  have HOA : Hid (A8.all (·.oneCell') = true) := by show _ = _; rw [hA]; exact u32s_one _
  have HAS : Hid (A8.size = 8) := hAs
  have HK : Hid (∀ i, i < 64 → w.cell? ⟨14, i, none⟩ = some (.int .u32 (ks.getD i 0 : Int))) := hK
  have HHL : Hid (h.length = 8) := hhl
  have HHW : Hid (∀ d ∈ h, d < w32) := hhw
  have HKW : Hid (∀ d ∈ ks, d < w32) := hkw
  have HPL : Hid (p.length = 64) := hpl
  have HPB : Hid (∀ d ∈ p, d < 256) := hpb
  clear hA hP hAs hPs hK hhl hhw hkw hpl hpb
  go_enter Tryz.func182, Tryz.ntmps182
  go_wp2_with (refine wpList_load_row rfl 192 _ rfl (w.heap.size + 1) rfl 192 P64 (0, 0) _ (heap_third1 w _ _ _) Tryz.underlying192 rfl HIP.out ?_)
  have hs := sched_any p HPL.out HPB.out (((w.alloc (.cells A8 302)).alloc (.cells P64 192)).alloc (.cells (u32s zeros8) 302))
  rw [← HP.out] at hs
  refine hs.mono ?_
  rintro e w1 ⟨rfl, hb1⟩
  clear hs
  have hz1 := hb1.size
  simp at hz1
  have HR0 : Hid (w1.heap[w.heap.size]? = some (.cells A8 302 (0, 0))) := by
    show _ = _
    rw [hb1.block _ (by simp; omega)]
    exact heap_third0 w _ _ _
  have HR2 : Hid (w1.heap[w.heap.size + 1 + 1]? = some (.cells (u32s zeros8) 302 (0, 0))) := by
    show _ = _
    rw [hb1.block _ (by simp)]
    exact heap_third2 w _ _ _
  have HB1 : Hid (Below w.heap.size w w1) := ((((Below.refl w.heap.size w).alloc (Nat.le_refl _) _).alloc (by simp) _).alloc (by simp; omega) _).trans (hb1.mono (by simp; omega))
  clear hb1
  obtain ⟨S, hS⟩ : ∃ S, S = u32s (schedTo p 64) := ⟨_, rfl⟩
  rw [← hS]
  have hsz : S.size = 64 := by rw [hS]; simp [u32s, schedTo_length]
  have HI64 : Hid ((Tryz.prog.info? 394).map (·.size) = some S.size) := by
    show _ = _
    rw [hsz]
    kernel_rfl
  have HS64 : Hid (S.size = 64) := hsz
  have HON : Hid (S.all (·.oneCell') = true) := by show _ = _; rw [hS]; exact u32s_one _
  have HSE : Hid (S = u32s (schedTo p 64)) := hS
  clear hS hsz
  have s1 : ∀ Z : Array Value, Z.size = 64 → Z.size = S.size := fun Z h => h.trans HS64.out.symm
  have s2 : ∀ Z : Array Value, Z.size = 8 → Z.size = A8.size := fun Z h => h.trans HAS.out.symm
  have HG1 : Hid (∀ Z, ((w1.alloc Z).setRow w1.heap.size S).heap[w.heap.size]? = some (.cells A8 302 (0, 0))) := fun Z => by
    rw [setRow_other _ _ _ _ (by omega), Below.heap_alloc _ _ _ (by omega)]
    exact HR0.out
  have HG2 : Hid (∀ Z Y, (((w1.alloc Z).setRow w1.heap.size S).alloc Y).heap[w1.heap.size + 1]? = some Y) := fun Z Y => by
    have h := heap_alloc_new ((w1.alloc Z).setRow w1.heap.size S) Y
    have e : ((w1.alloc Z).setRow w1.heap.size S).heap.size = w1.heap.size + 1 := by simp
    rw [e] at h
    exact h
  have HS1 : Hid (∀ Z : Array Value, Z.size = 64 → Z.size = S.size) := s1
  have HS2 : Hid (∀ Z : Array Value, Z.size = 8 → Z.size = A8.size) := s2
  clear s1 s2
  go_wp2_with (first | refine wpList_store_row rfl 394 _ _ rfl w1.heap.size S rfl rfl 394 _ (heap_alloc_new w1 _) HI64.out (HS1.out _ rfl) HON.out ?_ | refine wpList_load_row rfl 302 _ rfl w.heap.size rfl 302 A8 (0, 0) _ (HG1.out _) Tryz.underlying302 rfl HIA.out ?_ | refine wpList_store_row rfl 302 _ _ rfl (w1.heap.size + 1) A8 rfl rfl 302 _ (HG2.out _ _) HIA.out (HS2.out _ rfl) HOA.out ?_)
  obtain ⟨n, hn⟩ : ∃ n, n = w1.heap.size := ⟨_, rfl⟩
  go_loopw [12] (fun iv_ wr => ∃ i : Nat, i ≤ 64 ∧ iv_ = .int .i64 (i : Int) ∧ Hid (URow wr w.heap.size 302 h) ∧ Hid (URow wr (w.heap.size + 1 + 1) 302 zeros8) ∧ Hid (URow wr w1.heap.size 394 (schedTo p 64)) ∧ Hid (URow wr (w1.heap.size + 1) 302 (rnds ks (schedTo p 64) h i)) ∧ Hid (Below w.heap.size w wr)) (fun iv_ _ => 64 - (intOf iv_).toNat)
  case atStart =>
    refine ⟨0, by omega, rfl, ?_, ?_, ?_, ?_, ?_⟩
    · show URow _ _ _ _
      unfold URow
      rw [setRow_other _ _ _ _ (by omega), Below.heap_alloc _ _ _ (by simp; omega), ← HA.out]
      exact HG1.out _
    · show URow _ _ _ _
      unfold URow
      rw [setRow_other _ _ _ _ (by omega), Below.heap_alloc _ _ _ (by simp; omega), setRow_other _ _ _ _ (by omega), Below.heap_alloc _ _ _ (by omega)]
      exact HR2.out
    · show URow _ _ _ _
      unfold URow
      rw [setRow_other _ _ _ _ (by omega), Below.heap_alloc _ _ _ (by simp), ← HSE.out]
      exact setRow_heap _ _ _ _ _ _ (heap_alloc_new w1 _)
    · show URow _ _ _ _
      unfold URow
      have h1 := fun Z Y => setRow_heap _ _ _ A8 _ _ (HG2.out Z (.cells Y 302 (0, 0)))
      have e : rnds ks (schedTo p 64) h 0 = h := rfl
      rw [e, ← HA.out]
      exact h1 _ _
    · exact below_setRow ((below_setRow (HB1.out.alloc (by omega) _) (by omega) _).alloc (by simp; omega) _) (by omega) _
  case round =>
    clear HG1 HG2 HS1 HS2 HR0 HR2 HB1
    obtain ⟨i, hi, rfl, HH, HZ, HW, HV, HB⟩ := hrel
    have hw3 := HV.out.lt
    by_cases hlt : i < 64
    · obtain ⟨v, hv⟩ : ∃ v, v = rnds ks (schedTo p 64) h i := ⟨_, rfl⟩
      have hvl : v.length = 8 := by rw [hv]; exact rnds_length _ _ _ HHL.out i
      have hvw : ∀ d ∈ v, d < w32 := by rw [hv]; exact rnds_lt _ _ _ HHL.out HHW.out i
      obtain ⟨v0, v1, v2, v3, v4, v5, v6, v7, hv8⟩ : ∃ v0 v1 v2 v3 v4 v5 v6 v7, v = [v0, v1, v2, v3, v4, v5, v6, v7] := by
        match v, hvl with
        | [v0, v1, v2, v3, v4, v5, v6, v7], _ => exact ⟨v0, v1, v2, v3, v4, v5, v6, v7, rfl⟩
      have hrv := HV.out
      rw [← hv, hv8] at hrv
      have HVR : Hid (URow wr (w1.heap.size + 1) 302 [v0, v1, v2, v3, v4, v5, v6, v7]) := hrv
      have HVE : Hid ([v0, v1, v2, v3, v4, v5, v6, v7] = rnds ks (schedTo p 64) h i) := by rw [← hv8]; exact hv
      rw [hv8] at hvw
      have b0 : (v0 : Int) ≤ 4294967295 := by have := hvw v0 (by simp); unfold w32 at this; omega
      have b1 : (v1 : Int) ≤ 4294967295 := by have := hvw v1 (by simp); unfold w32 at this; omega
      have b2 : (v2 : Int) ≤ 4294967295 := by have := hvw v2 (by simp); unfold w32 at this; omega
      have b4 : (v4 : Int) ≤ 4294967295 := by have := hvw v4 (by simp); unfold w32 at this; omega
      have b5 : (v5 : Int) ≤ 4294967295 := by have := hvw v5 (by simp); unfold w32 at this; omega
      have b6 : (v6 : Int) ≤ 4294967295 := by have := hvw v6 (by simp); unfold w32 at this; omega
      have c0 := hrv.cell 0 (by simp)
      have c1 := hrv.cell 1 (by simp)
      have c2 := hrv.cell 2 (by simp)
      have c3 := hrv.cell 3 (by simp)
      have c4 := hrv.cell 4 (by simp)
      have c5 := hrv.cell 5 (by simp)
      have c6 := hrv.cell 6 (by simp)
      have c7 := hrv.cell 7 (by simp)
      simp only [List.getElem_cons_zero, List.getElem_cons_succ] at c0 c1 c2 c3 c4 c5 c6 c7
      obtain ⟨kk, hkk⟩ : ∃ x, x = ks.getD i 0 := ⟨_, rfl⟩
      obtain ⟨ww, hww⟩ : ∃ x, x = (schedTo p 64).getD i 0 := ⟨_, rfl⟩
      have ck' : wr.cell? ⟨14, i, none⟩ = some (.int .u32 (kk : Int)) := by
        rw [HB.out.cell (by exact hG), HK.out i hlt, hkk]
      have cw : wr.cell? ⟨w1.heap.size, i, none⟩ = some (.int .u32 (ww : Int)) := by
        rw [HW.out.cell i (by rw [schedTo_length]; exact hlt), hww, get_getD]
      have HKK : Hid (kk = ks.getD i 0) := hkk
      have HWW : Hid (ww = (schedTo p 64).getD i 0) := hww
      obtain ⟨x, hx⟩ : ∃ x, x = (ww + kk) % 4294967296 := ⟨_, rfl⟩
      have nx : IntKind.u32.wrap ((ww : Int) + (kk : Int)) = (x : Int) := by rw [wrap_u32]; omega
      obtain ⟨r0, hr0⟩ : ∃ r, r = (tOf [v0, v1, v2, v3, v4, v5, v6, v7] x 0 + uOf [v0, v1, v2, v3, v4, v5, v6, v7]) % 4294967296 := ⟨_, rfl⟩
      obtain ⟨r4, hr4⟩ : ∃ r, r = (v3 + tOf [v0, v1, v2, v3, v4, v5, v6, v7] x 0) % 4294967296 := ⟨_, rfl⟩
      have HRW : Hid (rndW [v0, v1, v2, v3, v4, v5, v6, v7] x = [r0, v0, v1, v2, r4, v4, v5, v6]) := by
        show _ = _
        rw [hr0, hr4]
        rfl
      have HRU : Hid (u32s (rndW [v0, v1, v2, v3, v4, v5, v6, v7] x) = #[.int .u32 (r0 : Int), .int .u32 (v0 : Int), .int .u32 (v1 : Int), .int .u32 (v2 : Int), .int .u32 (r4 : Int), .int .u32 (v4 : Int), .int .u32 (v5 : Int), .int .u32 (v6 : Int)]) := by
        show _ = _
        rw [HRW.out]
        rfl
      clear hr0 hr4
      have HX : Hid (x = (ww + kk) % 4294967296) := hx
      clear hx hkk hww hv hvl hvw hv8 hrv HV
      go_wp2
      go_region_with (go_at_call 251; go_must (refine (round_any v0 v1 v2 v3 v4 v5 v6 v7 x _ b0 b1 b2 b4 b5 b6).mono ?_; rintro e w' ⟨rfl, hb⟩; rw [HRU.out]; have hrw : URow w' (w1.heap.size + 1) 302 [v0, v1, v2, v3, v4, v5, v6, v7] := (hb.block _ hw3).trans HVR.out; have d0 : w'.cell? ⟨w1.heap.size + 1, 0, none⟩ = some (.int .u32 (v0 : Int)) := hrw.cell 0 (by simp); have f0 := hrw.frozen 0; have d1 : w'.cell? ⟨w1.heap.size + 1, 1, none⟩ = some (.int .u32 (v1 : Int)) := hrw.cell 1 (by simp); have f1 := hrw.frozen 1; have d2 : w'.cell? ⟨w1.heap.size + 1, 2, none⟩ = some (.int .u32 (v2 : Int)) := hrw.cell 2 (by simp); have f2 := hrw.frozen 2; have d3 : w'.cell? ⟨w1.heap.size + 1, 3, none⟩ = some (.int .u32 (v3 : Int)) := hrw.cell 3 (by simp); have f3 := hrw.frozen 3; have d4 : w'.cell? ⟨w1.heap.size + 1, 4, none⟩ = some (.int .u32 (v4 : Int)) := hrw.cell 4 (by simp); have f4 := hrw.frozen 4; have d5 : w'.cell? ⟨w1.heap.size + 1, 5, none⟩ = some (.int .u32 (v5 : Int)) := hrw.cell 5 (by simp); have f5 := hrw.frozen 5; have d6 : w'.cell? ⟨w1.heap.size + 1, 6, none⟩ = some (.int .u32 (v6 : Int)) := hrw.cell 6 (by simp); have f6 := hrw.frozen 6; have d7 : w'.cell? ⟨w1.heap.size + 1, 7, none⟩ = some (.int .u32 (v7 : Int)) := hrw.cell 7 (by simp); have f7 := hrw.frozen 7; have HRN : Hid (URow w' (w1.heap.size + 1) 302 [v0, v1, v2, v3, v4, v5, v6, v7]) := hrw; have HBN : Hid (Below wr.heap.size wr w') := below_undrew hb; clear hb hrw))
      all_goals
        go_wp2
        go_roundw
        case rel =>
          refine ⟨i + 1, by omega, by go_num, ?_, ?_, ?_, ?_, ?_⟩
          · exact put8_other (HH.out.on HBN.out (Nat.le_refl _)) (by omega) r0 v0 v1 v2 r4 v4 v5 v6
          · exact put8_other (HZ.out.on HBN.out (Nat.le_refl _)) (by omega) r0 v0 v1 v2 r4 v4 v5 v6
          · exact put8_other (HW.out.on HBN.out (Nat.le_refl _)) (by omega) r0 v0 v1 v2 r4 v4 v5 v6
          · have h1 := put8_row rfl HRN.out r0 v0 v1 v2 r4 v4 v5 v6
            rw [← HRW.out, HX.out, rnd_sum, HVE.out, HKK.out, HWW.out] at h1
            exact h1
          · exact put8_below (HB.out.trans (HBN.out.mono HB.out.size)) (by omega) r0 v0 v1 v2 r4 v4 v5 v6
        case measure => (simp [intOf]; try omega)
    · have hi64 : i = 64 := by omega
      obtain ⟨i1, hi1⟩ : ∃ i1, i1 = i := ⟨_, rfl⟩
      subst hi1
      obtain ⟨v, hv⟩ : ∃ v, v = rnds ks (schedTo p 64) h 64 := ⟨_, rfl⟩
      have HV1 : Hid (URow wr (w1.heap.size + 1) 302 v) := by
        have h1 := HV.out
        rw [hi64] at h1
        rw [hv]
        exact h1
      have HVL : Hid (v.length = 8) := by rw [hv]; exact rnds_length _ _ _ HHL.out 64
      have HVW : Hid (∀ d ∈ v, d < w32) := by rw [hv]; exact rnds_lt _ _ _ HHL.out HHW.out 64
      have HVE : Hid (v = rnds ks (schedTo p 64) h 64) := hv
      clear hv hi64 HV HW
      go_wp2
      go_loopw [25] (fun iv_ wr => ∃ i : Nat, i ≤ 8 ∧ iv_ = .int .i64 (i : Int) ∧ Hid (URow wr w.heap.size 302 ((addAll h v).take i ++ h.drop i)) ∧ Hid (URow wr (w.heap.size + 1 + 1) 302 zeros8) ∧ Hid (URow wr (w1.heap.size + 1) 302 v) ∧ Hid (Below w.heap.size w wr)) (fun iv_ _ => 8 - (intOf iv_).toNat)
      case atStart => exact ⟨0, by omega, rfl, HH, HZ, HV1, HB⟩
      case round =>
        clear HH HZ HV1 HB hlt hw3
        obtain ⟨i, hi, rfl, HH, HZ, HV, HB⟩ := hrel
        have hw3 := HV.out.lt
        have hlen : ((addAll h v).take i ++ h.drop i).length = 8 := by
          rw [List.length_append, List.length_take, List.length_drop, addAll_length, HHL.out]; omega
        by_cases hlt : i < 8
        · obtain ⟨x, hx⟩ : ∃ x, x = h.getD i 0 := ⟨_, rfl⟩
          obtain ⟨y, hy⟩ : ∃ y, y = v.getD i 0 := ⟨_, rfl⟩
          have cx : wr.cell? ⟨w.heap.size, i, none⟩ = some (.int .u32 (x : Int)) := by
            rw [HH.out.cell i (by omega), hx, get_getD, addTo_get h (addAll h v) i (by rw [addAll_length]; omega)]
          have cy : wr.cell? ⟨w1.heap.size + 1, i, none⟩ = some (.int .u32 (y : Int)) := by
            rw [HV.out.cell i (by rw [HVL.out]; exact hlt), hy, get_getD]
          have fx := HH.out.frozen i
          have HX : Hid (x = h.getD i 0) := hx
          have HY : Hid (y = v.getD i 0) := hy
          clear hx hy
          go_wp2
          go_region
          go_wp2
          go_roundw
          case rel =>
            refine ⟨i + 1, by omega, by go_num, ?_, ?_, ?_, ?_⟩
            · show URow _ _ _ _
              have h1 := HH.out.set i ((addAll h v)[i]'(by rw [addAll_length]; exact hlt))
              rw [addTo_set h (addAll h v) i (by rw [addAll_length, HHL.out]) (by rw [HHL.out]; exact hlt), addAll_at h v i hlt, ← HX.out, ← HY.out] at h1
              have e : (((x + y) % 4294967296 : Nat) : Int) = ((x : Int) + (y : Int)) % 4294967296 := by omega
              rw [e] at h1
              exact h1
            · exact (HZ.out.other _ (by show w.heap.size + 1 + 1 ≠ w.heap.size; omega) _).drew
            · exact (HV.out.other _ (by show w1.heap.size + 1 ≠ w.heap.size; omega) _).drew
            · exact (HB.out.setCell (by show w.heap.size ≤ w.heap.size; omega) _).drew
          case measure => (simp [intOf]; try omega)
        · have hi8 : i = 8 := by omega
          obtain ⟨R, hR⟩ : ∃ R, R = u32s (mixN ks h p) := ⟨_, rfl⟩
          obtain ⟨Z, hZ⟩ : ∃ Z, Z = u32s zeros8 := ⟨_, rfl⟩
          have HR1 : Hid (wr.heap[w.heap.size]? = some (.cells R 302 (0, 0))) := by
            have h1 := HH.out
            rw [hi8, List.take_of_length_le (by rw [addAll_length]; omega), List.drop_of_length_le (by rw [HHL.out]; omega), List.append_nil, HVE.out] at h1
            rw [hR]
            exact h1
          have HZ1 : Hid (wr.heap[w.heap.size + 1 + 1]? = some (.cells Z 302 (0, 0))) := by rw [hZ]; exact HZ
          have hsz : R.size = 8 := by rw [hR]; simp [u32s, mixN_length]
          have HI8 : Hid ((Tryz.prog.info? 302).map (·.size) = some R.size) := by
            show _ = _
            rw [hsz]
            kernel_rfl
          have HSZ : Hid (Z.size = R.size) := by show _ = _; rw [hsz, hZ]; rfl
          have HON1 : Hid (R.all (·.oneCell') = true) := by show _ = _; rw [hR]; exact u32s_one _
          have HRE : Hid (R = u32s (mixN ks h p)) := hR
          clear hsz hR hZ HH HZ hi8
          go_wp2_with (first | refine wpList_load_row rfl 302 _ rfl w.heap.size rfl 302 R (0, 0) _ HR1.out Tryz.underlying302 rfl HI8.out ?_ | refine wpList_store_row rfl 302 _ _ rfl (w.heap.size + 1 + 1) R rfl rfl 302 Z HZ1.out HI8.out HSZ.out HON1.out ?_)
          refine bodyPost_ret (v := .agg (u32s (mixN ks h p))) ?_ rfl ⟨rfl, ?_⟩
          · rw [← HRE.out]
            exact results_cell_row (p := 4) (ty := 302) rfl _ _ (w.heap.size + 1 + 1) 302 R (0, 0) _ rfl (setRow_heap wr (w.heap.size + 1 + 1) Z R 302 _ HZ1.out) Tryz.underlying302 rfl HI8.out
          · exact below_setRow HB.out (by omega) _
end Go.Proofs.YtapijhhmjjplmaaGreatDoor
