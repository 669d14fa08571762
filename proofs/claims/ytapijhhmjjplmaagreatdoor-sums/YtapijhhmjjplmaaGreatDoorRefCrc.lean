/- OWN TEXT: the reference's CRC. -/
import Derived.Test.YtapijhhmjjplmaaGreatDoorProg
import Derived.Test.YtapijhhmjjplmaaGreatDoorWords
namespace Go.Proofs.YtapijhhmjjplmaaGreatDoor
open Go.RowKit

set_option maxRecDepth 100000 in
set_option maxHeartbeats 1000000 in
theorem refCrc (s : ByteArray) (w : World) (hs : s.size ≤ 140737488351232) :
    Calls Tryz.prog 68 #[.string s] w fun e w' => e = .returned (.int .i64 (crcN s.data.toList : Int)) ∧ w = w' := by
  have hsi : (s.size : Int) ≤ 140737488351232 := by omega
  go_enter Tryz.func68, Tryz.ntmps68
  go_wp2
  go_loop [3, 4] (fun r i => ∃ k q : Nat, k ≤ s.size ∧ i = .int .i64 k ∧ r = .int .i64 (q : Int) ∧ (q : Int) ≤ 4294967295 ∧ Hid (q = crcTo (s.data.toList.take k) 4294967295)) (fun _ i => s.size - (intOf i).toNat)
  case atStart => exact ⟨0, 4294967295, Nat.zero_le _, rfl, rfl, by omega, rfl⟩
  case round =>
    obtain ⟨k, q, hk, rfl, rfl, hq, Hq⟩ := hrel
    by_cases hlt : k < s.size
    · obtain ⟨c, hc⟩ : ∃ c, c = s[k] := ⟨_, rfl⟩
      have hcb : c.toNat < 256 := c.toNat_lt
      have hqw : q < w32 := by unfold w32; omega
      obtain ⟨y, hy⟩ : ∃ y, y = q ^^^ c.toNat := ⟨_, rfl⟩
      have hyw : y < w32 := by rw [hy]; exact xor_w32 hqw (byte_w32 c)
      have hxor : bits .xor .i64 (q : Int) (wrap64 (c.toNat : Int)) = (y : Int) := by rw [hy, Go.IntWalk.wrap64_in _ (by omega)]; exact i64_xor_nat q c.toNat (by omega) (by omega)
      have hyi : (y : Int) ≤ 4294967295 := by unfold w32 at hyw; omega
      have HY : Hid (y = q ^^^ c.toNat) := hy
      have HCC : Hid (c = s[k]) := hc
      rw [hc] at hxor
      have HQ8 : Hid (crcTo (s.data.toList.take (k + 1)) 4294967295 = crcSteps 8 y) := by
        show _ = _
        rw [take_snoc s k hlt, crcTo_snoc, ← Hq.out, ← HCC.out, ← HY.out]
      clear hy hc hqw hyw HY HCC
      go_wp2
      clear hxor
      go_loop [3, 5] (fun r j => ∃ m z : Nat, m ≤ 8 ∧ j = .int .i64 ((8 : Int) - m) ∧ r = .int .i64 (z : Int) ∧ (z : Int) ≤ 4294967295 ∧ Hid (crcSteps m z = crcSteps 8 y)) (fun _ j => 8 - (intOf j).toNat)
      case atStart => exact ⟨8, y, by omega, rfl, rfl, hyi, rfl⟩
      case round =>
        obtain ⟨m, z, hm, rfl, rfl, hz, Hz⟩ := hrel
        by_cases hm0 : 0 < m
        · obtain ⟨m, rfl⟩ : ∃ m', m = m' + 1 := ⟨m - 1, by omega⟩
          have hzw : z < w32 := by unfold w32; omega
          by_cases hodd : z % 2 = 1
          · have hb1 : (((z : Int) % 2) == 1) = true := by rw [beq_iff_eq]; omega
            obtain ⟨u, hu⟩ : ∃ u, u = (z / 2) ^^^ 3988292384 := ⟨_, rfl⟩
            have hxor : bits .xor .i64 ((z : Int) / 2) 3988292384 = (u : Int) := by
              have h := i64_xor_nat (z / 2) 3988292384 (by omega) (by omega)
              rw [hu, ← h]
              rfl
            have hcs : crcStep z = u := by unfold crcStep; rw [if_pos hodd, hu]
            have huw : u < w32 := by rw [← hcs]; exact crcStep_lt z hzw
            have hui : (u : Int) ≤ 4294967295 := by unfold w32 at huw; omega
            have HU : Hid (crcSteps m u = crcSteps 8 y) := by
              show _ = _
              rw [← Hz.out, ← hcs]; rfl
            clear hcs huw hu hzw hodd
            go_wp2
            go_round
            case rel => exact ⟨m, u, by omega, by go_num, rfl, hui, HU⟩
            case measure => (simp [intOf]; try omega)
          · have hb1 : (((z : Int) % 2) == 1) = false := by rw [beq_eq_false_iff_ne]; omega
            have hcs : crcStep z = z / 2 := by unfold crcStep; rw [if_neg hodd]
            have HU : Hid (crcSteps m (z / 2) = crcSteps 8 y) := by
              show _ = _
              rw [← Hz.out, ← hcs]; rfl
            clear hcs hzw hodd
            go_wp2
            go_round
            case rel => exact ⟨m, z / 2, by omega, by go_num, by go_num, by omega, HU⟩
            case measure => (simp [intOf]; try omega)
        · have hm1 : m = 0 := by omega
          subst hm1
          go_wp2
          go_round
          case rel =>
            refine ⟨k + 1, z, by omega, by go_num, rfl, hz, ?_⟩
            show _ = _
            rw [HQ8.out, ← Hz.out]; rfl
          case measure => (simp [intOf]; try omega)
    · go_wp2
      go_ret
      have : s.data.toList.take k = s.data.toList := List.take_of_length_le (by simp; omega)
      have h := Hq.out
      rw [this] at h
      refine ⟨?_, rfl⟩
      unfold crcN
      rw [← h]
      have e : ((4294967295 - q : Nat) : Int) = 4294967295 - (q : Int) := by omega
      rw [e]
      rfl
end Go.Proofs.YtapijhhmjjplmaaGreatDoor
