/- OWN TEXT: the program's CRC of a text. -/
import Derived.Test.YtapijhhmjjplmaaGreatDoorOnceDo
namespace Go.Proofs.YtapijhhmjjplmaaGreatDoor
open Go.RowKit

theorem u32_and_15 (z : Nat) (h : (z : Int) ≤ 4294967295) : bits .and .u32 (z : Int) 15 = ((z % 16 : Nat) : Int) := by
  have h1 := u32_and_nat z 15 (by omega) (by omega)
  have h2 : z &&& 15 = z % 16 := Nat.and_two_pow_sub_one_eq_mod z 4
  rw [h2] at h1
  exact h1
theorem tabN_lt (i : Nat) : tabN.getD i 0 < w32 := getD_lt (by unfold w32; decide +kernel) (by decide) i

set_option maxRecDepth 100000 in
set_option maxHeartbeats 1600000 in
theorem tabCrc (b : Nat) (s : ByteArray) (w : World) (ht : TabOk w b) (hs : s.size ≤ 140737488351232) :
    Calls Tryz.prog 238 #[.pointer (some ⟨b, 0, none⟩), .string s] w fun e w' => e = .returned (.int .u32 (crcN s.data.toList : Int)) ∧ Same (· = b) w w' := by
  have hsi : (s.size : Int) ≤ 140737488351232 := by omega
  have HT : Hid (TabOk w b) := ht
  clear ht
  go_enter Tryz.func238, Tryz.ntmps238
  go_wp2
  go_loopw [5, 9] (fun r i wr => ∃ k q : Nat, k ≤ s.size ∧ i = .int .i64 k ∧ r = .int .u32 (q : Int) ∧ (q : Int) ≤ 4294967295 ∧ Hid (q = crcTo (s.data.toList.take k) 4294967295) ∧ Hid (TabOk wr b) ∧ Hid (Same (· = b) w wr)) (fun _ i _ => s.size - (intOf i).toNat)
  case atStart => exact ⟨0, 4294967295, Nat.zero_le _, rfl, rfl, by omega, rfl, HT, Same.refl _ _⟩
  case round =>
    clear HT
    obtain ⟨k, q, hk, rfl, rfl, hq, Hq, HT, HS⟩ := hrel
    by_cases hlt : k < s.size
    · obtain ⟨c, hc⟩ : ∃ c, c = s[k] := ⟨_, rfl⟩
      have hcb : c.toNat < 256 := c.toNat_lt
      have hqw : q < w32 := by unfold w32; omega
      obtain ⟨y, hy⟩ : ∃ y, y = q ^^^ c.toNat := ⟨_, rfl⟩
      have hyw : y < w32 := by rw [hy]; exact xor_w32 hqw (byte_w32 c)
      have hxor : bits .xor .u32 (q : Int) ((c.toNat : Int) % 4294967296) = (y : Int) := by rw [hy, Int.emod_eq_of_lt (by omega) (by omega)]; exact u32_xor_nat q c.toNat (by omega) (by omega)
      rw [hc] at hxor
      have hyi : (y : Int) ≤ 4294967295 := by unfold w32 at hyw; omega
      obtain ⟨r1, hr1⟩ : ∃ r, r = y % 16 := ⟨_, rfl⟩
      have hand1 := u32_and_15 y hyi
      rw [← hr1] at hand1
      have lr1 : r1 < 16 := by omega
      obtain ⟨t1, ht1⟩ : ∃ t, t = tabN.getD r1 0 := ⟨_, rfl⟩
      have lt1 : t1 < w32 := by rw [ht1]; exact tabN_lt _
      obtain ⟨z, hz⟩ : ∃ z, z = (y / 16) ^^^ t1 := ⟨_, rfl⟩
      have hzw : z < w32 := by rw [hz]; exact xor_w32 (by unfold w32 at *; omega) lt1
      have hxz : bits .xor .u32 ((y : Int) / 16) (t1 : Int) = (z : Int) := by
        have h := u32_xor_nat (y / 16) t1 (by omega) (by unfold w32 at lt1; omega)
        rw [hz, ← h]
        rfl
      have hzi : (z : Int) ≤ 4294967295 := by unfold w32 at hzw; omega
      obtain ⟨r2, hr2⟩ : ∃ r, r = z % 16 := ⟨_, rfl⟩
      have hand2 := u32_and_15 z hzi
      rw [← hr2] at hand2
      have lr2 : r2 < 16 := by omega
      obtain ⟨t2, ht2⟩ : ∃ t, t = tabN.getD r2 0 := ⟨_, rfl⟩
      have lt2 : t2 < w32 := by rw [ht2]; exact tabN_lt _
      obtain ⟨v, hv⟩ : ∃ v, v = (z / 16) ^^^ t2 := ⟨_, rfl⟩
      have hvw : v < w32 := by rw [hv]; exact xor_w32 (by unfold w32 at *; omega) lt2
      have hxv : bits .xor .u32 ((z : Int) / 16) (t2 : Int) = (v : Int) := by
        have h := u32_xor_nat (z / 16) t2 (by omega) (by unfold w32 at lt2; omega)
        rw [hv, ← h]
        rfl
      have hvi : (v : Int) ≤ 4294967295 := by unfold w32 at hvw; omega
      have HQ : Hid (v = crcTo (s.data.toList.take (k + 1)) 4294967295) := by
        show _ = _
        rw [take_snoc s k hlt, crcTo_snoc, ← Hq.out, ← hc, ← hy, crcSteps_eight, ← hr1, ← ht1, ← hz, ← hr2, ← ht2, ← hv]
      have HT1 : Hid (t1 = tabN.getD r1 0) := ht1
      have HT2 : Hid (t2 = tabN.getD r2 0) := ht2
      clear hc hy hyw hqw hr1 ht1 hz hzw hr2 ht2 hv hvw lt1 lt2 hcb Hq
      go_wp2_with fail
      refine (word_any b r1 _ HT.out lr1).mono ?_
      rintro e w2 ⟨rfl, h2, s2⟩
      rw [← HT1.out]
      have HT3 : Hid (TabOk w2 b) := h2
      have HS3 : Hid (Same (· = b) w w2) := HS.out.trans s2
      clear h2 s2 HT HS
      go_wp2_with fail
      refine (word_any b r2 _ HT3.out lr2).mono ?_
      rintro e w3 ⟨rfl, h3, s3⟩
      rw [← HT2.out]
      have HT4 : Hid (TabOk w3 b) := h3
      have HS4 : Hid (Same (· = b) w w3) := HS3.out.trans s3
      clear h3 s3 HT3 HS3
      go_wp2
      go_roundw
      case rel => exact ⟨k + 1, v, by omega, by go_num, rfl, hvi, HQ, HT4, HS4⟩
      case measure => (simp [intOf]; try omega)
    · have hnq := u32_not q (by omega)
      go_wp2
      go_ret
      have : s.data.toList.take k = s.data.toList := List.take_of_length_le (by simp; omega)
      have h := Hq.out
      rw [this] at h
      refine ⟨?_, HS.out⟩
      unfold crcN
      rw [← h]
      have e : ((4294967295 - q : Nat) : Int) = 4294967295 - (q : Int) := by omega
      rw [e]
      rfl

set_option maxRecDepth 100000 in
theorem sumsCrc (s : ByteArray) (w : World) (hs : s.size ≤ 140737488351232) :
    Calls Tryz.prog 185 #[.string s] w fun e w' => e = .returned (.int .u32 (crcN s.data.toList : Int)) ∧ Below w.heap.size w w' := by
  have HT : Hid (TabOk (w.alloc (.cells (tabRow 0 0 zeros16).toArray 127)) w.heap.size) := .inl (heap_alloc_new w _)
  obtain ⟨c, hc⟩ : ∃ c, c = crcN s.data.toList := ⟨_, rfl⟩
  have HD : Hid (Calls Tryz.prog 238 #[.pointer (some ⟨w.heap.size, 0, none⟩), .string s] (w.alloc (.cells (tabRow 0 0 zeros16).toArray 127)) fun e w' => e = .returned (.int .u32 (c : Int)) ∧ Hid (Below w.heap.size w w')) := by
    refine (tabCrc w.heap.size s _ HT.out hs).mono ?_
    rintro e w2 ⟨rfl, s2⟩
    refine ⟨by rw [hc], ?_⟩
    exact ((Below.refl _ _).alloc (Nat.le_refl _) _).trans (s2.below (B := w.heap.size) (by rintro k rfl; omega) (by simp))
  rw [← hc]
  clear hc HT
  go_enter Tryz.func185, Tryz.ntmps185
  go_wp2_with fail
  refine HD.out.mono ?_
  rintro e w2 ⟨rfl, HB⟩
  go_wp2
  go_ret
  exact ⟨rfl, HB.out⟩

theorem plainCrc (s : ByteArray) (w : World) (hs : s.size ≤ 140737488351232) :
    Calls Tryz.prog 67 #[.string s] w fun e w' => e = .returned (.int .i64 (crcN s.data.toList : Int)) ∧ Below w.heap.size w w' := by
  have hl : crcN s.data.toList < w32 := by unfold crcN w32; omega
  obtain ⟨c, hc⟩ : ∃ c, c = crcN s.data.toList := ⟨_, rfl⟩
  have HD : Hid (Calls Tryz.prog 185 #[.string s] w fun e w' => e = .returned (.int .u32 (c : Int)) ∧ Hid (Below w.heap.size w w')) := by
    rw [hc]; exact sumsCrc s w hs
  rw [← hc] at hl ⊢
  have hci : (c : Int) ≤ 4294967295 := by unfold w32 at hl; omega
  clear hc hl
  go_enter Tryz.func67, Tryz.ntmps67
  go_wp2_with (first | (go_at_call 185; refine HD.out.mono ?_; rintro e w2 ⟨rfl, HB⟩) | (go_at_call 110; go_in))
  go_ret
  exact ⟨rfl, HB.out⟩
end Go.Proofs.YtapijhhmjjplmaaGreatDoor
