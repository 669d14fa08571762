/- OWN TEXT: the reference's Sum. -/
import Derived.Test.YtapijhhmjjplmaaGreatDoorRefBlock
import Derived.Test.YtapijhhmjjplmaaGreatDoorBytes
namespace Go.Proofs.YtapijhhmjjplmaaGreatDoor
open Go.RowKit

set_option maxRecDepth 100000 in
theorem four_any (n : Nat) (w : World) (hn : (n : Int) ≤ 4294967295) :
    Calls Tryz.prog 109 #[.int .i64 (n : Int)] w fun e w' => e = .returned (.string ⟨(four4 n).toArray⟩) ∧ Below w.heap.size w w' := by
  have hcv : (convert 134 9 (.slice (some ⟨w.heap.size, 0, none⟩) 4 4)).run Tryz.prog (w.alloc (.cells #[.int .u8 ((n : Int) / 16777216 % 256), .int .u8 ((n : Int) / 65536 % 256), .int .u8 ((n : Int) / 256 % 256), .int .u8 ((n : Int) % 256)] 5)) = .ok (.string ⟨(four4 n).toArray⟩) (w.alloc (.cells #[.int .u8 ((n : Int) / 16777216 % 256), .int .u8 ((n : Int) / 65536 % 256), .int .u8 ((n : Int) / 256 % 256), .int .u8 ((n : Int) % 256)] 5)) := by
    refine run_convert_bytes_back (P := Tryz.prog) _ 134 9 5 ⟨w.heap.size, 0, none⟩ 4 (four4 n) Tryz.underlying134 Tryz.underlying5 Tryz.underlying9 ?_
    have hb : ∀ m : Nat, (UInt8.ofNat (m % 256)).toNat = m % 256 := fun m => by
      rw [UInt8.toNat_ofNat']; omega
    intro j hj
    match j, hj with
    | 0, _ => simp [four4, Addr.add, hb]
    | 1, _ => simp [four4, Addr.add, hb]
    | 2, _ => simp [four4, Addr.add, hb]
    | 3, _ => simp [four4, Addr.add, hb]
  go_enter Tryz.func109, Tryz.ntmps109
  go_wp2
  go_ret
  exact ⟨rfl, (Below.refl _ _).alloc (Nat.le_refl _) _⟩

theorem OwnB.open {w : World} {B : Nat} {v : Value} {l : List Nat} (h : OwnB w B v l) : ∃ g cap, v = .slice (some ⟨g, 0, none⟩) l.length cap ∧ l.length ≤ cap ∧ B ≤ g ∧ g < w.heap.size := by
  obtain ⟨g, cap, cur, fz, rfl, hB, hg, _, h2, _⟩ := h
  exact ⟨g, cap, rfl, h2, hB, (Array.getElem?_eq_some_iff.1 hg).1⟩
theorem OwnB.heap {w w' : World} {B : Nat} {v : Value} {l : List Nat} (h : OwnB w B v l) (e : ∀ k, v.ownBlock = some k → w'.heap[k]? = w.heap[k]?) : OwnB w' B v l := by
  obtain ⟨g, cap, cur, fz, rfl, hB, hg, h3⟩ := h
  exact ⟨g, cap, cur, fz, rfl, hB, by rw [e g rfl]; exact hg, h3⟩
theorem OwnB.base {w : World} {B : Nat} {v : Value} {l : List Nat} (h : OwnB w B v l) : ∀ k, v.ownBlock = some k → B ≤ k := by
  obtain ⟨g, cap, cur, fz, rfl, hB, _⟩ := h
  intro k hk
  cases hk
  exact hB
theorem four_size (H : List Nat) : ∀ i, i ≤ H.length → (⟨((H.take i).flatMap four4).toArray⟩ : ByteArray).size = 4 * i := by
  intro i hi
  show ((H.take i).flatMap four4).toArray.size = _
  rw [List.size_toArray]
  induction i with
  | zero => rfl
  | succ i ih =>
    rw [List.take_succ_eq_append_getElem (by omega), List.flatMap_append, List.length_append, ih (by omega)]
    show _ + 4 = _
    omega
theorem four_snoc (H : List Nat) (i : Nat) (h : i < H.length) : (⟨((H.take i).flatMap four4).toArray⟩ ++ ⟨(four4 (H.getD i 0)).toArray⟩ : ByteArray) = ⟨((H.take (i + 1)).flatMap four4).toArray⟩ := by
  rw [List.take_succ_eq_append_getElem h, List.flatMap_append, ← get_getD H i h]
  apply ByteArray.ext
  simp
def lenV : Value → Nat
  | .slice _ n _ => n
  | _ => 0
def pad1 (s : ByteArray) (k : Nat) : List Nat := bytesN s ++ [128] ++ List.replicate k 0
theorem pad1_length (s : ByteArray) (k : Nat) : (pad1 s k).length = s.size + 1 + k := by simp [pad1, bytesN_length]; omega
theorem pad1_succ (s : ByteArray) (k : Nat) : pad1 s k ++ [0] = pad1 s (k + 1) := by
  unfold pad1; rw [List.replicate_succ']; simp
def pad2 (s : ByteArray) (j : Nat) : List Nat := pad1 s (zN s.size) ++ lenB (8 * s.size) j
theorem pad2_length (s : ByteArray) (j : Nat) : (pad2 s j).length = s.size + 1 + zN s.size + j := by simp [pad2, pad1_length, lenB_length]
theorem pad2_all (s : ByteArray) : pad2 s 8 = padN (bytesN s) := by unfold pad2 pad1 padN; rw [bytesN_length]
theorem pad2_succ (s : ByteArray) (j : Nat) : pad2 s j ++ [8 * s.size / 2 ^ (8 * (7 - j)) % 256] = pad2 s (j + 1) := by
  unfold pad2; rw [lenB_succ, List.append_assoc]

set_option maxRecDepth 100000 in
set_option maxHeartbeats 4000000 in
theorem refSum_any (bm gk ck gh ch : Nat) (ks hs : List Nat) (s : ByteArray) (w : World)
    (hm0 : w.cell? ⟨bm, 0, none⟩ = some (.slice (some ⟨gk, 0, none⟩) 64 ck)) (hm1 : w.cell? ⟨bm, 1, none⟩ = some (.slice (some ⟨gh, 0, none⟩) 8 ch))
    (hk : Row w gk (ints ks)) (hkl : ks.length = 64) (hkw : ∀ d ∈ ks, d < w32)
    (hh : Row w gh (ints hs)) (hhl : hs.length = 8) (hhw : ∀ d ∈ hs, d < w32) (hsz : s.size ≤ 300000) :
    Calls Tryz.prog 66 #[.pointer (some ⟨bm, 0, none⟩), .string s] w fun e w' =>
      e = .returned (.string ⟨(shaB ks hs (bytesN s)).toArray⟩) ∧ Below w.heap.size w w' := by
  have HM0 : Hid (w.cell? ⟨bm, 0, none⟩ = some (.slice (some ⟨gk, 0, none⟩) 64 ck)) := hm0
  have HM1 : Hid (w.cell? ⟨bm, 1, none⟩ = some (.slice (some ⟨gh, 0, none⟩) 8 ch)) := hm1
  have HK : Hid (Row w gk (ints ks)) := hk
  have HH : Hid (Row w gh (ints hs)) := hh
  have HKW : Hid (∀ d ∈ ks, d < w32) := hkw
  have HHW : Hid (∀ d ∈ hs, d < w32) := hhw
  have HKL : Hid (ks.length = 64) := hkl
  have HHL : Hid (hs.length = 8) := hhl
  clear hm0 hm1 hk hh hkw hhw hkl hhl
  obtain ⟨v0, w0, hcv, hown, hbl, cap0, rfl⟩ := run_bytes w s
  have HO0 : Hid (OwnB w0 w.heap.size (.slice (some ⟨w.heap.size, 0, none⟩) s.size cap0) (bytesN s)) := hown
  have HB0 : Hid (Below w.heap.size w w0) := hbl
  have hz0 := hbl.size
  clear hown hbl
  have hn1 : (bytesN s).length < 1000000 := by rw [bytesN_length]; omega
  go_enter Tryz.func66, Tryz.ntmps66
  go_wp2_with (at_builtin; go_loud (refine wpList_append_byte _ rfl _ _ rfl w.heap.size _ _ rfl (HO0.out.alloc _) ⟨w0.heap.size, 0, none⟩ 1 128 rfl (cell_one_new _ _ _ 0 _ rfl) hn1 (by simp; omega) ?_))
  intro v1 w1 hown1 hgrow1
  have HO1 : Hid (OwnB w1 w.heap.size v1 (pad1 s 0)) := by
    show OwnB _ _ _ _
    unfold pad1
    rw [List.replicate_zero, List.append_nil]
    exact hown1
  have HB1 : Hid (Below w.heap.size w w1) := (HB0.out.alloc hz0 _).grown hgrow1 (by simp; omega) (fun k hk => by cases hk; exact Nat.le_refl _)
  clear hown1 hgrow1 hcv HO0 HB0 hz0
  have hzn : zN s.size = (119 - s.size % 64) % 64 := rfl
  obtain ⟨z, hzz⟩ : ∃ z, z = zN s.size := ⟨_, rfl⟩
  rw [← hzz] at hzn
  have hz63 : z ≤ 63 := by omega
  have HZ : Hid (z = zN s.size) := hzz
  clear hzz
  go_wp2
  go_loopw [5] (fun pv wr => ∃ k : Nat, k ≤ z ∧ lenV pv = s.size + 1 + k ∧ Hid (OwnB wr w.heap.size pv (pad1 s k)) ∧ Hid (Below w.heap.size w wr)) (fun pv _ => s.size + 1 + z - lenV pv)
  case atStart =>
    refine ⟨0, by omega, ?_, HO1, HB1⟩
    obtain ⟨g, cap, rfl, _⟩ := HO1.out.open
    show (pad1 s 0).length = _
    rw [pad1_length]
  case round =>
    clear HO1 HB1
    obtain ⟨k, hk, hlk, HO, HB⟩ := hrel
    obtain ⟨g, cap, hv, hcap, hg1, hg2⟩ := HO.out.open
    subst hv
    rw [pad1_length] at *
    have hszr := HB.out.size
    by_cases hlt : k < z
    · have h56 : ((s.size : Int) + 1 + (k : Int)) % 64 ≠ 56 := by omega
      have hn1 : (pad1 s k).length < 1000000 := by rw [pad1_length]; omega
      clear hzn
      go_wp2_with (at_builtin; go_loud (refine wpList_append_byte _ rfl _ _ rfl w.heap.size _ _ rfl (HO.out.alloc _) ⟨wr.heap.size, 0, none⟩ 1 0 rfl (cell_one_new _ _ _ 0 _ rfl) hn1 (by simp; omega) ?_))
      intro v' w' hown' hgrow
      have HO2 : Hid (OwnB w' w.heap.size v' (pad1 s (k + 1))) := by
        show OwnB _ _ _ _
        rw [← pad1_succ]
        exact hown'
      have HB2 : Hid (Below w.heap.size w w') := (HB.out.alloc hszr _).grown hgrow (by simp; omega) (fun k hk => by cases hk; exact hg1)
      clear hown' hgrow h56
      go_wp2
      have hl2 : lenV v' = s.size + 1 + (k + 1) := by
        obtain ⟨g, cap, rfl, _⟩ := HO2.out.open
        show (pad1 s (k + 1)).length = _
        rw [pad1_length]
      go_roundw
      case rel => exact ⟨k + 1, by omega, hl2, HO2, HB2⟩
      case measure => rw [hl2]; simp [lenV]; omega
    · have hkz : k = z := by omega
      have h56 : ((s.size : Int) + 1 + (k : Int)) % 64 = 56 := by omega
      have HO2 : Hid (OwnB wr w.heap.size (.slice (some ⟨g, 0, none⟩) (s.size + 1 + k) cap) (pad2 s 0)) := by
        show OwnB _ _ _ _
        unfold pad2 lenB
        rw [List.range_zero, List.map_nil, List.append_nil, ← HZ.out, ← hkz]
        exact HO.out
      clear HO hkz
      go_wp2
      go_loopw [5, 6] (fun pv iv_ wr => ∃ m : Nat, m ≤ 8 ∧ iv_ = .int .i64 ((m : Int) - 1) ∧ Hid (OwnB wr w.heap.size pv (pad2 s (8 - m))) ∧ Hid (Below w.heap.size w wr)) (fun _ iv_ _ => (intOf iv_ + 1).toNat)
      case atStart => exact ⟨8, by omega, rfl, HO2, HB⟩
      case round =>
        clear HO2 HB h56 hszr hg2
        have HZN : Hid (z = (119 - s.size % 64) % 64) := hzn
        clear hzn
        obtain ⟨m, hm, rfl, HO, HB⟩ := hrel
        obtain ⟨g, cap, hv, hcap, hg1, hg2⟩ := HO.out.open
        rw [pad2_length, ← HZ.out] at hv hcap
        obtain ⟨n, hn⟩ : ∃ n, n = s.size + 1 + z + (8 - m) := ⟨_, rfl⟩
        rw [← hn] at hv hcap
        subst hv
        have HN : Hid (n = s.size + 1 + z + (8 - m)) := hn
        have hnb : n ≤ 300100 := by omega
        clear hn
        have hszr := HB.out.size
        by_cases hlt : 0 < m
        · obtain ⟨i, rfl⟩ : ∃ i, m = i + 1 := ⟨m - 1, by omega⟩
          have ei : (((i + 1 : Nat) : Int) - 1) = (i : Int) := by omega
          rw [ei]
          obtain ⟨q, hq⟩ : ∃ q : Nat, (q : Int) = 8 * (i : Int) := ⟨8 * i, by omega⟩
          have hq' : 8 * (i : Int) = (q : Int) := hq.symm
          have hqn : q = 8 * i := by omega
          have HQ : Hid (q = 8 * i) := hqn
          have hq64 : q < 64 := by omega
          clear hq hqn
          have hn1 : (pad2 s (8 - (i + 1))).length < 1000000 := by rw [pad2_length, ← HZ.out]; omega
          clear hz63 hm hnb
          go_wp2_with (at_builtin; go_loud (refine wpList_append_byte _ rfl _ _ rfl w.heap.size _ _ rfl (HO.out.alloc _) ⟨wr.heap.size, 0, none⟩ 1 (8 * s.size / 2 ^ q % 256) rfl ?hx hn1 (by simp; omega) ?_))
          case hx =>
            have e : ((8 * s.size / 2 ^ q % 256 : Nat) : Int) = 8 * (s.size : Int) / 2 ^ q % 256 := by push_cast; rfl
            rw [e]
            exact cell_one_new _ _ _ 0 _ rfl
          intro v' w' hown' hgrow
          have HO2 : Hid (OwnB w' w.heap.size v' (pad2 s (8 - i))) := by
            show OwnB _ _ _ _
            have e : 8 - i = (7 - i) + 1 := by omega
            rw [e, ← pad2_succ]
            have e2 : 8 * (7 - (7 - i)) = q := by rw [HQ.out]; omega
            rw [e2]
            exact hown'
          have HB2 : Hid (Below w.heap.size w w') := (HB.out.alloc hszr _).grown hgrow (by simp; omega) (fun k hk => by cases hk; exact hg1)
          clear hown' hgrow
          go_wp2
          go_roundw
          case rel => exact ⟨i, by omega, rfl, HO2, HB2⟩
          case measure => (simp [intOf]; try omega)
        · have hm0 : m = 0 := by omega
          have HO3 : Hid (OwnB wr w.heap.size (.slice (some ⟨g, 0, none⟩) n cap) (padN (bytesN s))) := by
            show OwnB _ _ _ _
            rw [← pad2_all]
            have h := HO.out
            rw [hm0] at h
            exact h
          have hn64 : n % 64 = 0 := by rw [HN.out, hm0, HZN.out]; omega
          have hnl : n = (padN (bytesN s)).length := by rw [← pad2_all, pad2_length, HN.out, hm0, ← HZ.out]
          have HNL : Hid (n = (padN (bytesN s)).length) := hnl
          obtain ⟨nb, hnb64⟩ : ∃ nb, n = 64 * nb := ⟨n / 64, by omega⟩
          have HNB : Hid (n = 64 * nb) := hnb64
          clear hn64 hnl hnb64 HO HZ HZN HN hm0
          obtain ⟨i0, hi0, hz0, hz1, hz2⟩ := info_parts infoInt
          have hgk : gk < w.heap.size := HK.out.lt
          have hghl : gh < w.heap.size := HH.out.lt
          have hbml : bm < w.heap.size := cell_lt' HM0.out
          obtain ⟨wa, hwa⟩ : ∃ wa, wa = wr := ⟨_, rfl⟩
          subst hwa
          have cm1 : wa.cell? ⟨bm, 1, none⟩ = some (.slice (some ⟨gh, 0, none⟩) 8 ch) := by
            rw [HB.out.cell (by exact hbml)]
            exact HM1.out
          have hbma : bm < wa.heap.size := by omega
          have HCH : Hid (∀ j u, (iv hs)[j]? = some u → (wa.alloc (.cells #[] 3)).cell? ((⟨gh, 0, none⟩ : Addr).add j) = some u) := by
            intro j u hj
            have hjl : j < hs.length := by
              have := (List.getElem?_eq_some_iff.1 hj).1
              rw [iv_length] at this
              exact this
            rw [iv_at hs j hjl] at hj
            cases hj
            have ea : (⟨gh, 0, none⟩ : Addr).add j = ⟨gh, j, none⟩ := by
              unfold Addr.add
              split
              · rename_i h0; rw [h0]
              · simp
            rw [ea, World.cell?_alloc_lt _ _ ⟨gh, j, none⟩ (by show gh < _; omega), HB.out.cell (by exact hghl)]
            exact row_at HH.out j hjl
          have HO0 : Hid ((wa.alloc (.cells #[] 3)).ownsRow wa.heap.size 3 1 (.slice (some ⟨wa.heap.size, 0, none⟩) 0 0) 0 []) :=
            ⟨rfl, .inr ⟨_, 0, #[], rfl, Nat.le_refl _, by show (wa.heap.push _)[wa.heap.size]? = _; rw [Array.getElem?_push_size], Nat.le_refl _, Nat.zero_le _, rfl, rfl⟩⟩
          go_wp2_with (at_builtin; refine wpList_append_own_at _ rfl _ _ 34 rfl wa.heap.size 3 i0 (.int .i64 0) 1 8 Tryz.underlying34 hi0 hz0 hz1 hz2 rfl (by decide) _ _ _ rfl HO0.out ⟨gh, 0, none⟩ 8 ch (iv hs) rfl ?a1 HCH.out ?a2 ?a3 ?a4 ?a5 ?_)
          case a1 => rw [iv_length, HHL.out]
          case a2 => intro u hu; unfold iv at hu; obtain ⟨q, _, rfl⟩ := List.mem_map.1 hu; rfl
          case a3 => unfold maxLen; omega
          case a4 => omega
          case a5 => simp
          intro v' wb hown' hgrow _ _
          obtain ⟨gv, cv, rfl, hgv, hrv⟩ := own_row hown' (by omega)
          have HBb : Hid (Below w.heap.size w wb) := (HB.out.alloc (by omega) _).grown hgrow (by simp; omega) (fun k hk => by have : wa.heap.size = k := Option.some.inj hk; omega)
          have hszb : wa.heap.size < wb.heap.size := by have := hgrow.size; simp at this; omega
          have HVb : Hid (Row wb gv (ints hs)) := hrv
          have hgvb : gv < wb.heap.size := hrv.lt
          have HOb : Hid (OwnB wb w.heap.size (.slice (some ⟨g, 0, none⟩) n cap) (padN (bytesN s))) := (HO3.out.alloc _).heap (fun k hk => by cases hk; exact hgrow.block g (by simp; omega) (by intro hh; have : g = wa.heap.size := Option.some.inj hh; omega))
          clear hown' hgrow hrv HO0 HCH HB HO3 cm1 hbma
          have HPB : Hid (∀ d ∈ padN (bytesN s), d < 256) := padN_lt _ (bytesN_lt s)
          go_wp2
          go_loopw [8] (fun av wr => ∃ j : Nat, j ≤ nb ∧ av = .int .i64 ((64 * j : Nat) : Int) ∧ Hid (Row wr gv (ints (mixTo ks hs (padN (bytesN s)) j))) ∧ Hid (Only gv wb wr)) (fun av _ => n - (intOf av).toNat)
          case atStart => exact ⟨0, by omega, rfl, HVb, Only.refl _ _⟩
          case round =>
            clear HVb hlt
            obtain ⟨j, hj, rfl, HV, HO⟩ := hrel
            have hsw := HO.out.size
            by_cases hlt : j < nb
            · obtain ⟨at_, hat⟩ : ∃ at_, at_ = 64 * j := ⟨_, rfl⟩
              have HAT : Hid (at_ = 64 * j) := hat
              rw [← hat]
              have hatn : at_ + 64 ≤ n := by rw [HNB.out, hat]; omega
              have hjn : 64 * (j + 1) ≤ (padN (bytesN s)).length := by rw [← HNL.out, HNB.out]; omega
              have HBY : Hid (BytesAt wr g at_ (blk (padN (bytesN s)) j)) := by
                intro i hi
                rw [blk_length _ _ hjn] at hi
                rw [HO.out.cell (by show g < _; omega) (by show g ≠ _; omega), blk_at _ _ _ hjn hi, hat]
                have h := HOb.out
                rw [HNL.out] at h
                exact h.cell _ (by omega)
              have cm : Hid (wr.cell? ⟨bm, 0, none⟩ = some (.slice (some ⟨gk, 0, none⟩) 64 ck)) := by
                show _ = _
                rw [HO.out.cell (by show bm < _; omega) (by show bm ≠ _; omega), HBb.out.cell (by exact hbml)]
                exact HM0.out
              have HKr : Hid (Row wr gk (ints ks)) := (HK.out.on HBb.out hgk).only HO.out (by omega)
              have hgr : g < wr.heap.size := by omega
              have HJN : Hid (64 * (j + 1) ≤ (padN (bytesN s)).length) := hjn
              clear hat hjn
              go_wp2_with fail
              refine (block_any bm gk ck gv cv g at_ (cap - at_) ks (mixTo ks hs (padN (bytesN s)) j) (blk (padN (bytesN s)) j) wr cm.out HKr.out HKL.out HKW.out HV.out (mixTo_length _ _ _ HHL.out j) (mixTo_lt _ _ _ HHW.out j) HBY.out (blk_length _ _ HJN.out) (blk_lt _ HPB.out j) hgr).mono ?_
              rintro e w' ⟨rfl, hrow, h1, h2, h3, h4, h5⟩
              have HRN : Hid (Row w' gv (ints (mixTo ks hs (padN (bytesN s)) (j + 1)))) := hrow
              have HON : Hid (Only gv wb w') := HO.out.trans ⟨h3, h4, h5, h1, h2⟩
              clear hrow h1 h2 h3 h4 h5 HBY HKr cm HV HO
              go_wp2
              go_roundw
              case rel =>
                refine ⟨j + 1, by omega, ?_, HRN, HON⟩
                rw [show ((64 * (j + 1) : Nat) : Int) = (at_ : Int) + 64 by rw [HAT.out]; omega]
              case measure => (simp [intOf]; try omega)
            · obtain ⟨at_, hat⟩ : ∃ at_, at_ = 64 * j := ⟨_, rfl⟩
              have hatn : at_ = n := by rw [HNB.out, hat]; omega
              have hjb : j = nb := by omega
              have hatn' : n ≤ at_ := by omega
              rw [← hat]
              obtain ⟨H, hH⟩ : ∃ H, H = mixTo ks hs (padN (bytesN s)) nb := ⟨_, rfl⟩
              have HHE : Hid (H = mixTo ks hs (padN (bytesN s)) nb) := hH
              have HHn : Hid (H.length = 8) := by rw [hH]; exact mixTo_length _ _ _ HHL.out nb
              have HHl : Hid (∀ d ∈ H, d < w32) := by rw [hH]; exact mixTo_lt _ _ _ HHW.out nb
              have HVf : Hid (Row wr gv (ints H)) := by
                have h := HV.out
                rw [hjb] at h
                rw [hH]
                exact h
              clear hat hatn hjb hH HV
              obtain ⟨wx, hwx⟩ : ∃ wx, wx = wr := ⟨_, rfl⟩
              subst hwx
              go_wp2
              go_loopw [1, 9] (fun tv iv_ wr => ∃ i : Nat, i ≤ 8 ∧ iv_ = .int .i64 (i : Int) ∧ tv = .string ⟨((H.take i).flatMap four4).toArray⟩ ∧ Hid (Below wx.heap.size wx wr)) (fun _ iv_ _ => 8 - (intOf iv_).toNat)
              case atStart => exact ⟨0, by omega, rfl, rfl, Below.refl _ _⟩
              case round =>
                rename ¬ at_ < n => h9
                clear hatn' h9
                obtain ⟨i, hi, rfl, rfl, HBx⟩ := hrel
                have hsx := HBx.out.size
                by_cases hlt : i < 8
                · obtain ⟨x, hx⟩ : ∃ x, x = H.getD i 0 := ⟨_, rfl⟩
                  have bx : (x : Int) ≤ 4294967295 := by have := getD_lt HHl.out (by decide) i; rw [← hx] at this; unfold w32 at this; omega
                  have cx : wr.cell? ⟨gv, i, none⟩ = some (.int .i64 (x : Int)) := by
                    rw [row_at (HVf.out.on HBx.out HVf.out.lt) i (by rw [HHn.out]; exact hlt), hx, get_getD]
                  have HX : Hid (x = H.getD i 0) := hx
                  clear hx
                  obtain ⟨a, ha⟩ : ∃ a : ByteArray, a = ⟨((H.take i).flatMap four4).toArray⟩ := ⟨_, rfl⟩
                  have has : a.size = 4 * i := by rw [ha]; exact four_size _ i (by rw [HHn.out]; omega)
                  have HA : Hid (a = ⟨((H.take i).flatMap four4).toArray⟩) := ha
                  rw [← ha]
                  have has' : a.size ≤ 32 := by omega
                  clear ha has
                  go_wp2_with fail
                  refine (four_any x _ bx).mono ?_
                  rintro e w' ⟨rfl, hb⟩
                  have HB2 : Hid (Below wx.heap.size wx w') := HBx.out.trans (hb.mono hsx)
                  clear hb
                  obtain ⟨b, hb⟩ : ∃ b : ByteArray, b = ⟨(four4 x).toArray⟩ := ⟨_, rfl⟩
                  have hbs : b.size = 4 := by rw [hb]; rfl
                  have HBE : Hid (b = ⟨(four4 x).toArray⟩) := hb
                  rw [← hb]
                  have hbs' : b.size ≤ 4 := by omega
                  clear hb hbs
                  go_wp2
                  go_roundw
                  case rel =>
                    refine ⟨i + 1, by omega, by go_num, ?_, HB2⟩
                    rw [HA.out, HBE.out, HX.out]
                    exact congrArg Value.string (four_snoc H i (by rw [HHn.out]; exact hlt))
                  case measure => (simp [intOf]; try omega)
                · have hi8 : i = 8 := by omega
                  go_wp2
                  go_ret
                  refine ⟨?_, ?_⟩
                  · rw [hi8, List.take_of_length_le (by rw [HHn.out]; omega), HHE.out]
                    unfold shaB
                    rw [← HNL.out, HNB.out, Nat.mul_div_cancel_left _ (by omega)]
                    rfl
                  · exact HBb.out.trans ((HO.out.below w.heap.size (by omega) (by omega)).trans (HBx.out.mono (by omega)))
end Go.Proofs.YtapijhhmjjplmaaGreatDoor
