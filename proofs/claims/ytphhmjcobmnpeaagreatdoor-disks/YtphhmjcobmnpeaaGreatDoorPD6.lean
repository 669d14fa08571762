/- OWN TEXT: the program's disk: Crash. -/
import Derived.Test.YtphhmjcobmnpeaaGreatDoorPD5
namespace Go.Proofs.YtphhmjcobmnpeaaGreatDoor
open Go.RowKit Go.Maps

set_option maxRecDepth 100000 in
set_option maxHeartbeats 2000000 in
theorem dsk_crash (bd m : Nat) (S : Nat → Prop) (d : Dsk) (kv : Value) (ks : List Int) (w : World) (h : DskAt w S bd m d) (hK : KeepAt w S kv ks) (hwl : d.wait.length ≤ 1000000) (hn : d.safe.length ≤ 4096) (hkl : ks.length ≤ 1000000) :
    Calls Tryz.prog 124 #[.pointer (some ⟨bd, 0, none⟩), kv] w fun e w' => e = .returned (.tuple #[]) ∧ DskAt w' S bd m { d with safe := keepAll d.wait d.safe ks, wait := [], fuse := 0, down := false } ∧ Same S w w' := by
  obtain ⟨gs, bm, wv, h⟩ := h
  obtain ⟨ao, cw, rfl, hao⟩ := wv_shape h.rest
  obtain ⟨q, hq⟩ : ∃ q, q = d.wait.length := ⟨_, rfl⟩
  obtain ⟨n, hn'⟩ : ∃ n, n = d.safe.length := ⟨_, rfl⟩
  rw [← hq] at h hao hwl
  obtain ⟨t, ht⟩ : ∃ t, t = ks.length := ⟨_, rfl⟩
  have hkv : ∃ ak ck, kv = .slice ak t ck ∧ (0 < t → ∃ gk, ak = some ⟨gk, 0, none⟩ ∧ ¬ S gk ∧ ∀ j (h : j < ks.length), w.cell? ⟨gk, j, none⟩ = some (.int .i64 ks[j])) := by
    rcases hK with ⟨ak, ck, rfl, e⟩ | ⟨gk, ck, rfl, -, h3, h4⟩
    · exact ⟨ak, ck, by rw [ht, e]; rfl, fun h => by rw [ht, e] at h; cases h⟩
    · exact ⟨_, ck, by rw [ht], fun _ => ⟨gk, rfl, h3, h4⟩⟩
  obtain ⟨ak, ck, rfl, hak⟩ := hkv
  have c0 : w.cell? ⟨bd, 0, none⟩ = some (.int .i32 0) := cell_of_row _ _ _ _ _ _ h.blk
  have f0 := frozen_of_row w bd 0 _ _ h.blk
  obtain ⟨h1, s1⟩ := h.lockTo 1
  have HV0 : Hid (DskV (w.setCell ⟨bd, 0, none⟩ (.int .i32 1)) S 1 bd gs bm m (.slice ao q cw) { d with safe := keepAll d.wait d.safe (ks.take 0) }) := h1
  have HS0 : Hid (Same S w (w.setCell ⟨bd, 0, none⟩ (.int .i32 1))) := s1
  have HQ : Hid (q = d.wait.length) := hq
  have HN : Hid (n = d.safe.length) := hn'
  have HT : Hid (t = ks.length) := ht
  have HAO : Hid (0 < q → ∃ gw, ao = some ⟨gw, 0, none⟩) := hao
  have HAK : Hid (0 < t → ∃ gk, ak = some ⟨gk, 0, none⟩ ∧ ¬ S gk ∧ ∀ j (h : j < ks.length), w.cell? ⟨gk, j, none⟩ = some (.int .i64 ks[j])) := hak
  have hqi : (q : Int) ≤ 1000000 := by omega
  have hni : (n : Int) ≤ 4096 := by omega
  have hti : (t : Int) ≤ 1000000 := by omega
  have HV2 : Hid (∀ x ∈ d.wait, x.1 < d.safe.length ∧ x.2.size = 64) := h.rest.v2
  clear h h1 s1 hq hn' ht hao hak hwl hn hkl hK
  go_enter_defers Tryz.func124, Tryz.ntmps124
  go_wp2_with (go_at_call 122; refine (lock_free ⟨bd, 0, none⟩ _ c0 f0).mono ?_; rintro e w' ⟨rfl, rfl⟩)
  clear c0 f0
  go_loopw [16] (fun iv_ wr => ∃ i : Nat, i ≤ t ∧ iv_ = .int .i64 (i : Int) ∧ Hid (DskV wr S 1 bd gs bm m (.slice ao q cw) { d with safe := keepAll d.wait d.safe (ks.take i) }) ∧ Hid (Same S w wr)) (fun iv_ _ => t - (intOf iv_).toNat)
  case atStart => exact ⟨0, by omega, rfl, HV0, HS0⟩
  case round =>
    clear HV0 HS0
    obtain ⟨i, hi, rfl, HV, HS⟩ := hrel
    have c4 : wr.cell? ⟨bd, 4, none⟩ = some (.slice ao q cw) := cell_of_row _ _ _ _ _ _ HV.out.blk
    by_cases hlt : i < t
    · obtain ⟨gk, rfl, hSk, hck⟩ := HAK.out (by omega)
      have hik : i < ks.length := by rw [← HT.out]; exact hlt
      obtain ⟨k, hk⟩ : ∃ k, k = ks[i] := ⟨_, rfl⟩
      have ck' : wr.cell? ⟨gk, i, none⟩ = some (.int .i64 k) := by rw [hk]; exact HS.out.cell hSk (hck i hik)
      have HK1 : Hid (keepAll d.wait d.safe (ks.take (i + 1)) = keep1 d.wait (keepAll d.wait d.safe (ks.take i)) k) := by rw [hk]; exact keepAll_snoc _ _ _ i hik
      clear hk hck
      by_cases hk0 : 0 ≤ k
      · by_cases hkm : k < q
        · obtain ⟨k, rfl⟩ : ∃ k' : Nat, k = k' := ⟨k.toNat, by omega⟩
          have hkw : k < d.wait.length := by rw [← HQ.out]; omega
          obtain ⟨gw, rfl⟩ := HAO.out (by omega)
          obtain ⟨x, hx⟩ : ∃ x, x = d.wait[k] := ⟨_, rfl⟩
          obtain ⟨hx1, hx2⟩ := HV2.out x (by rw [hx]; exact List.getElem_mem _)
          rw [← HN.out] at hx1
          have HK2 : Hid (keepAll d.wait d.safe (ks.take (i + 1)) = (keepAll d.wait d.safe (ks.take i)).set x.1 x.2) := by
            show _ = _
            rw [HK1.out]
            unfold keep1
            rw [dif_pos ⟨by omega, by rw [← HQ.out]; exact hkm⟩, hx]
            rfl
          obtain ⟨C, hC⟩ : ∃ C, C = Value.int .i64 (x.1 : Int) :: bcells x.2.data.toList := ⟨_, rfl⟩
          have HRG : Hid (wr.rangeAt gw (k * 65) C) := by
            have hw' : OwnS wr S 201 65 (.slice (some ⟨gw, 0, none⟩) q cw) d.wait.length (wrs d.wait) := HV.out.rest.wait
            rw [← HQ.out] at hw'
            rw [hC, hx]
            exact wrs_range hw' HQ.out (fun y hy => (HV2.out y hy).2) k hkw
          have hbl : (bcells x.2.data.toList).length = 64 := by rw [bcells_length, Array.length_toList]; exact hx2
          have hCl : C.length = 65 := by rw [hC, List.length_cons, hbl]
          have HIC : Hid ((Tryz.prog.info? 201).map (·.size) = some C.length) := by show _ = _; rw [hCl]; kernel_rfl
          obtain ⟨E, hE⟩ : ∃ E, E = C.toArray := ⟨_, rfl⟩
          have hEs : E.size = 65 := by rw [hE, List.size_toArray]; exact hCl
          have HIE : Hid ((Tryz.prog.info? 201).map (·.size) = some E.size) := by show _ = _; rw [hEs]; kernel_rfl
          have HCE : Hid (C.toArray = E) := hE.symm
          have HZE : Hid (∀ Z : Array Value, Z.size = 65 → Z.size = E.size) := fun Z hz => hz.trans hEs.symm
          have HOE : Hid (E.all (·.oneCell') = true) := by
            show _ = _
            rw [hE, hC, Array.all_eq_true_iff_forall_mem]
            intro v hv
            rcases List.mem_cons.1 (by simpa using hv : v ∈ Value.int .i64 (x.1 : Int) :: bcells x.2.data.toList) with rfl | hv
            · rfl
            · exact bcells_one _ v hv
          have HEC : Hid (E = (Value.int .i64 (x.1 : Int) :: bcells x.2.data.toList).toArray) := by rw [hE, hC]; rfl
          have HX2 : Hid (x.2.size = 64) := hx2
          clear hx hC hE hCl hEs HK1
          go_wp2_with (first | (refine wpList_load_mid rfl 201 _ rfl gw (k * 65) rfl C _ HRG.out Tryz.underlying201 rfl HIC.out ?_; rw [HCE.out]) | (refine wpList_store_rowA rfl 201 _ _ rfl wr.heap.size E rfl rfl 201 _ (heap_alloc_new wr _) HIE.out (HZE.out _ rfl) HOE.out ?_; intro w2 hw2))
          have HB2 : Hid (Below wr.heap.size wr w2) := by rw [hw2.out]; exact below_row
          have hrow : w2.heap[wr.heap.size]? = some (.cells E 201 (0, 0)) := by rw [hw2.out]; exact setRow_heap _ _ _ _ _ _ (heap_alloc_new wr _)
          have hV2 := HV.out.keep HB2.out
          have hal : (keepAll d.wait d.safe (ks.take i)).length = n := by rw [keepAll_length, HN.out]
          have c2 : w2.cell? ⟨bd, 2, none⟩ = some (.slice (some ⟨gs, 0, none⟩) n n) := by
            have h1 : w2.cell? ⟨bd, 2, none⟩ = some (.slice (some ⟨gs, 0, none⟩) (keepAll d.wait d.safe (ks.take i)).length (keepAll d.wait d.safe (ks.take i)).length) := cell_of_row _ _ _ _ _ _ hV2.blk
            rw [hal] at h1
            exact h1
          have cn0 : w2.cell? ⟨wr.heap.size, 0, none⟩ = some (.int .i64 (x.1 : Int)) := by
            rw [cell_of_row _ _ _ _ _ _ hrow, HEC.out]
            rfl
          obtain ⟨B, hB⟩ : ∃ B, B = bcells x.2.data.toList := ⟨_, rfl⟩
          have hBl : B.length = 64 := by rw [hB]; exact hbl
          have hrg : w2.rangeAt wr.heap.size 1 B := by
            intro j v hv
            rw [cell_of_row _ _ _ _ _ _ hrow, HEC.out]
            simp only [List.getElem?_toArray]
            rw [Nat.add_comm 1 j, List.getElem?_cons_succ, ← hB]
            exact hv
          have hth : w2.there gs (x.1 * 64) 64 := by
            intro j hj
            have hsec := hV2.rest.sec
            have hsl := secs_length (keepAll d.wait d.safe (ks.take i)) hV2.rest.v1
            rw [hal] at hsl
            refine ⟨?_, frozen_of_row w2 gs _ _ _ hsec⟩
            rw [cell_of_row _ _ _ _ _ _ hsec, Array.getElem?_eq_getElem (by rw [List.size_toArray]; show _ < (secs (keepAll d.wait d.safe (ks.take i))).length; rw [hsl]; omega)]
            rfl
          have hu199 : Tryz.prog.underlying 199 = some (.array 64 5) := Tryz.underlying199
          have hi199 : (Tryz.prog.info? 199).map (·.size) = some B.length := by rw [hBl]; kernel_rfl
          have h1B : ∀ v ∈ B, v.oneCell' = true := by rw [hB]; exact bcells_one _
          have hgb : bd ≠ gs := HV.out.rest.n1
          have hgl := lt_of_heap' HV.out.rest.sec
          have HVN : Hid (DskV (w2.drew.setCells gs (x.1 * 64) B) S 1 bd gs bm m (.slice (some ⟨gw, 0, none⟩) q cw) { d with safe := keepAll d.wait d.safe (ks.take (i + 1)) }) := by
            have h1 : DskV w2.drew S 1 bd gs bm m (.slice (some ⟨gw, 0, none⟩) q cw) { d with safe := keepAll d.wait d.safe (ks.take i) } := hV2.keep (Below.refl w2.heap.size w2).drew
            have h2 := (h1.setSec x.1 (by show x.1 < (keepAll d.wait d.safe (ks.take i)).length; rw [hal]; exact hx1) x.2 HX2.out).1
            rw [← hB] at h2
            rw [HK2.out]
            exact h2
          have HSN : Hid (Same S w (w2.drew.setCells gs (x.1 * 64) B)) := by
            have h1 : DskV w2.drew S 1 bd gs bm m (.slice (some ⟨gw, 0, none⟩) q cw) { d with safe := keepAll d.wait d.safe (ks.take i) } := hV2.keep (Below.refl w2.heap.size w2).drew
            have h2 := (h1.setSec x.1 (by show x.1 < (keepAll d.wait d.safe (ks.take i)).length; rw [hal]; exact hx1) x.2 HX2.out).2
            rw [← hB] at h2
            exact HS.out.trans ((below_same S HB2.out).drew.trans h2)
          have hx1i : (x.1 : Int) < n := by omega
          clear hV2 hrow hal hB hw2 HRG
          go_frame
          go_region_held3 (fun w' => w'.cell? ⟨bd, 2, none⟩ = some (.slice (some ⟨gs, 0, none⟩) n n) ∧ w'.cell? ⟨wr.heap.size, 0, none⟩ = some (.int .i64 (x.1 : Int)) ∧ w'.rangeAt wr.heap.size 1 B ∧ w'.there gs (x.1 * 64) 64) ((go_split_ands; ((repeat' constructor) <;> first | assumption | (rw [World.cell?_drew]; assumption) | (rw [World.rangeAt_drew]; assumption) | (rw [World.there_drew]; assumption) | (apply World.there_setCells; assumption) | (refine World.rangeAt_setCells_apart (by assumption) _ _ _ (by omega)) | (rw [World.cell?_setCells_out _ _ _ _ _ (by intro h1 h2; first | exact absurd h1 hgb | exact absurd h1 (by show wr.heap.size ≠ gs; omega))]; assumption)))) (fail)
          go_wp2
          go_roundw
          case rel => exact ⟨i + 1, by omega, by go_num, HVN, HSN⟩
          case measure => (simp [intOf]; try omega)
        · have HK2 : Hid (keepAll d.wait d.safe (ks.take (i + 1)) = keepAll d.wait d.safe (ks.take i)) := by
            show _ = _
            rw [HK1.out]
            unfold keep1
            rw [dif_neg (by rw [← HQ.out]; omega)]
          clear HK1
          go_wp2
          go_roundw
          case rel => exact ⟨i + 1, by omega, by go_num, by rw [HK2.out]; exact HV, HS⟩
          case measure => (simp [intOf]; try omega)
      · have HK2 : Hid (keepAll d.wait d.safe (ks.take (i + 1)) = keepAll d.wait d.safe (ks.take i)) := by
          show _ = _
          rw [HK1.out]
          unfold keep1
          rw [dif_neg (by omega)]
        clear HK1
        go_wp2
        go_roundw
        case rel => exact ⟨i + 1, by omega, by go_num, by rw [HK2.out]; exact HV, HS⟩
        case measure => (simp [intOf]; try omega)
    · obtain ⟨i1, hi1⟩ : ∃ i1, i1 = i := ⟨_, rfl⟩
      subst hi1
      have HV1 : Hid (DskV wr S 1 bd gs bm m (.slice ao q cw) { d with safe := keepAll d.wait d.safe ks }) := by
        have h1 := HV.out
        rw [List.take_of_length_le (by rw [← HT.out]; omega)] at h1
        exact h1
      have HF : Hid (Calls Tryz.prog 106 #[.pointer (some ⟨bd, 0, none⟩)] wr fun e w' => e = .returned (.tuple #[]) ∧ Hid (DskV w' S 1 bd gs bm m (.slice none 0 0) { d with safe := keepAll d.wait d.safe ks, wait := [] }) ∧ Hid (Same S wr w')) := dsk_forget bd gs bm m S 1 _ _ wr HV1.out
      clear HV
      go_wp2_with fail
      refine HF.out.mono ?_
      rintro e w3 ⟨rfl, HV3, HS3⟩
      have c5 : w3.cell? ⟨bd, 5, none⟩ = some (.int .i64 d.fuse) := cell_of_row _ _ _ _ _ _ HV3.out.blk
      have c6 : w3.cell? ⟨bd, 6, none⟩ = some (.bool d.down) := cell_of_row _ _ _ _ _ _ HV3.out.blk
      have f5 := frozen_of_row w3 bd 5 _ _ HV3.out.blk
      have f6 := frozen_of_row w3 bd 6 _ _ HV3.out.blk
      go_wp2
      obtain ⟨h4, s4⟩ := HV3.out.setFuse 0
      obtain ⟨h5, s5⟩ := h4.setDown false
      refine leaves_cons (f := 123) (args := #[.pointer (some ⟨bd, 0, none⟩)]) (by simp) (by simp [go_sem]) ?_
      refine (unlock_deferred ⟨bd, 0, none⟩ .returning _ (cell_of_row _ _ _ _ _ _ h5.blk) (frozen_of_row _ _ _ _ _ h5.blk)).mono ?_
      rintro e u' w'' ⟨rfl, rfl, hw⟩
      obtain ⟨h6, s6⟩ := h5.lockTo 0
      rw [← hw] at h6 s6
      exact ⟨_, results_none rfl _ _ _, rfl, ⟨_, _, _, h6⟩, HS.out.trans (HS3.out.trans (s4.trans (s5.trans s6)))⟩
end Go.Proofs.YtphhmjcobmnpeaaGreatDoor
