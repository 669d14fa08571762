/- OWN TEXT: the reference's roots. -/
import Derived.Test.YtapijhhmjjplmaaGreatDoorBelow
namespace Go.Proofs.YtapijhhmjjplmaaGreatDoor
open Go.RowKit

/-- The whole part of a root, from x on. -/
def whl (p k : Nat) : Nat → Nat → Nat
  | 0, x => x
  | f + 1, x => if (x + 1) ^ k ≤ p then whl p k f (x + 1) else x
/-- The bits behind the point, from bit b - 1 on. -/
def bt (wh p k : Nat) : Nat → Nat → Nat
  | 0, v => v
  | b + 1, v => bt wh p k b (if belowB wh (v + 2 ^ b) p k (2 * k) then v + 2 ^ b else v)
def rootN (p k : Nat) : Nat := bt (whl p k 399 1) p k 32 0

theorem whl_le (p k : Nat) (hk : 0 < k) : ∀ f x, x ≤ p → whl p k f x ≤ p
  | 0, x, h => h
  | f + 1, x, h => by
    unfold whl
    split
    · rename_i h'
      refine whl_le p k hk f (x + 1) (Nat.le_trans ?_ h')
      exact Nat.le_self_pow (Nat.pos_iff_ne_zero.1 hk) (x + 1)
    · exact h

theorem bt_lt (wh p k M : Nat) : ∀ b v, v + 2 ^ b ≤ M → bt wh p k b v < M
  | 0, v, h => by
    rw [Nat.pow_zero] at h
    exact h
  | b + 1, v, h => by
    unfold bt
    apply bt_lt wh p k M b
    rw [Nat.pow_succ] at h
    split <;> omega

theorem two32 : 0 + 2 ^ 32 ≤ 4294967296 := by rw [Nat.zero_add]; exact Nat.le_refl _
theorem rootN_lt (p k : Nat) : rootN p k < 4294967296 := bt_lt _ _ _ _ 32 0 two32

theorem power2 (n : Nat) (w : World) (h : n ≤ 1000) : Calls Tryz.prog 180 #[.int .i64 (n : Int), .int .i64 2] w fun e w' => e = .returned (.int .i64 ((n ^ 2 : Nat) : Int)) ∧ w = w' := by
  have h1 : (n : Int) * (n : Int) ≤ 1000000 := by
    have : n * n ≤ 1000 * 1000 := Nat.mul_le_mul h h
    have h2 : ((n * n : Nat) : Int) ≤ 1000000 := by omega
    rwa [Int.natCast_mul] at h2
  have h0 : 0 ≤ (n : Int) * (n : Int) := Int.mul_nonneg (Int.natCast_nonneg _) (Int.natCast_nonneg _)
  go_enter Tryz.func180, Tryz.ntmps180
  go_wp2
  go_ret
  exact ⟨by rw [Nat.pow_succ, Nat.pow_one, Int.natCast_mul]; rfl, rfl⟩
theorem power3 (n : Nat) (w : World) (h : n ≤ 1000) : Calls Tryz.prog 180 #[.int .i64 (n : Int), .int .i64 3] w fun e w' => e = .returned (.int .i64 ((n ^ 3 : Nat) : Int)) ∧ w = w' := by
  have h1 : (n : Int) * (n : Int) ≤ 1000000 := by
    have : n * n ≤ 1000 * 1000 := Nat.mul_le_mul h h
    have h2 : ((n * n : Nat) : Int) ≤ 1000000 := by omega
    rwa [Int.natCast_mul] at h2
  have h0 : 0 ≤ (n : Int) * (n : Int) := Int.mul_nonneg (Int.natCast_nonneg _) (Int.natCast_nonneg _)
  have h3 : (n : Int) * (n : Int) * (n : Int) ≤ 1000000000 := by
    have : n * n * n ≤ 1000 * 1000 * 1000 := Nat.mul_le_mul (Nat.mul_le_mul h h) h
    have h2 : ((n * n * n : Nat) : Int) ≤ 1000000000 := by omega
    rwa [Int.natCast_mul, Int.natCast_mul] at h2
  have h4 : 0 ≤ (n : Int) * (n : Int) * (n : Int) := Int.mul_nonneg h0 (Int.natCast_nonneg _)
  go_enter Tryz.func180, Tryz.ntmps180
  go_wp2
  go_ret
  exact ⟨by rw [Nat.pow_succ, Nat.pow_succ, Nat.pow_one, Int.natCast_mul, Int.natCast_mul]; rfl, rfl⟩

set_option maxRecDepth 100000 in
set_option maxHeartbeats 1000000 in
theorem root2 (p : Nat) (w : World) (hp : p ≤ 398) (hp1 : 1 ≤ p) :
    Calls Tryz.prog 106 #[.int .i64 (p : Int), .int .i64 2] w fun e w' => e = .returned (.int .i64 (rootN p 2 : Int)) ∧ Below w.heap.size w w' := by
  go_enter Tryz.func106, Tryz.ntmps106
  go_wp2
  go_loop [5] (fun v => ∃ x f : Nat, x + f = 400 ∧ 1 ≤ x ∧ x ≤ p ∧ v = .int .i64 (x : Int) ∧ Hid (whl p 2 f x = whl p 2 399 1)) (fun v => 400 - (intOf v).toNat)
  case atStart => exact ⟨1, 399, rfl, by omega, hp1, rfl, rfl⟩
  case round =>
    obtain ⟨x, f, hf, hx1, hx2, rfl, hw⟩ := hrel
    obtain ⟨f, rfl⟩ : ∃ f', f = f' + 1 := ⟨f - 1, by omega⟩
    have e1 : ((x + 1 : Nat) : Int) = (x : Int) + 1 := by omega
    have hpw := power2 (x + 1)
    rw [e1] at hpw
    clear e1
    have HF : Hid (x + (f + 1) = 400) := hf
    clear hf
    obtain ⟨q, hq⟩ : ∃ q : Nat, q = (x + 1) ^ 2 := ⟨_, rfl⟩
    rw [← hq] at hpw
    have HQ : Hid (q = (x + 1) ^ 2) := hq
    clear hq
    have HP : Hid (∀ (w : World), x + 1 ≤ 1000 → Calls Tryz.prog 180 #[.int .i64 ((x : Int) + 1), .int .i64 2] w fun e w' => e = .returned (.int .i64 (q : Int)) ∧ w = w') := hpw
    clear hpw
    by_cases hle : q ≤ p
    · have hx3 : x + 1 ≤ p := by
        have := Nat.le_self_pow (n := 2) (by decide) (x + 1)
        rw [← HQ.out] at this
        omega
      go_wp2_with (go_at_call 180; refine (HP.out _ (by omega)).mono ?_; rintro e w' ⟨rfl, rfl⟩)
      go_round
      case rel =>
        have := HF.out
        refine ⟨x + 1, f, by omega, by omega, hx3, by go_num, ?_⟩
        show _ = _
        rw [← hw.out]
        conv => rhs; unfold whl
        rw [if_pos (by rw [← HQ.out]; exact hle)]
      case measure => (simp [intOf]; try omega)
    · have hwh : whl p 2 399 1 = x := by
        rw [← hw.out]
        unfold whl
        rw [if_neg (by rw [← HQ.out]; exact hle)]
      have HW : Hid (whl p 2 399 1 = x) := hwh
      clear hwh hw
      go_wp2_with (go_at_call 180; refine (HP.out _ (by omega)).mono ?_; rintro e w' ⟨rfl, rfl⟩)
      clear HP HQ HF hle
      go_loopw [6, 7] (fun v i wr => ∃ b y : Nat, b ≤ 32 ∧ i = .int .i64 ((b : Int) - 1) ∧ v = .int .i64 (y : Int) ∧ Hid (y + 2 ^ b ≤ 4294967296) ∧ Hid (bt x p 2 b y = bt x p 2 32 0) ∧ Below w.heap.size w wr) (fun _ i _ => (intOf i + 1).toNat)
      case atStart => exact ⟨32, 0, by omega, rfl, rfl, two32, rfl, Below.refl _ _⟩
      case round =>
        obtain ⟨b, y, hb, rfl, rfl, hy, hbt, hbl⟩ := hrel
        by_cases hb0 : 0 < b
        · obtain ⟨b, rfl⟩ : ∃ b', b = b' + 1 := ⟨b - 1, by omega⟩
          have em : ((b + 1 : Nat) : Int) - 1 = (b : Int) := by omega
          rw [em]
          clear em
          have hp2 : 2 ^ b ≤ 2147483648 := Nat.le_trans (Nat.pow_le_pow_right (by decide) (by omega : b ≤ 31)) (Nat.le_refl _)
          have hy1 := hy.out
          rw [Nat.pow_succ] at hy1
          have hyy : y + 2 ^ b < 4294967296 := by have : 0 < 2 ^ b := Nat.pos_of_ne_zero (by simp); omega
          have ep : (2 : Int) ^ b = ((2 ^ b : Nat) : Int) := by rw [Int.natCast_pow]; rfl
          have ew : wrap64 ((y : Int) + wrap64 (2 ^ b)) = ((y + 2 ^ b : Nat) : Int) := by
            rw [ep, Go.IntWalk.wrap64_in ((2 ^ b : Nat) : Int) (by omega), Go.IntWalk.wrap64_in _ (by omega)]
            omega
          have EW : Hid (wrap64 ((y : Int) + wrap64 (2 ^ b)) = ((y + 2 ^ b : Nat) : Int)) := ew
          have HY : Hid (y + 2 ^ b < 4294967296) := hyy
          have HY2 : Hid (y + 2 ^ b * 2 ≤ 4294967296) := hy1
          clear ew ep hp2 hyy hy1 hy
          go_wp2_with fail
          rw [EW.out]
          refine (below2 x (y + 2 ^ b) p _ (by omega) HY.out).mono ?_
          rintro e w1 ⟨rfl, hw1⟩
          have hbl1 : Below w.heap.size w w1 := hbl.trans (hw1.mono hbl.size)
          have HB : Hid (Below w.heap.size w w1) := hbl1
          clear hbl1 hw1 hbl EW
          obtain ⟨z, hz⟩ : ∃ z, z = y + 2 ^ b := ⟨_, rfl⟩
          rw [← hz]
          have HZ : Hid (z = y + 2 ^ b) := hz
          clear hz
          cases hres : belowB x z p 2 4
          · have HR : Hid (belowB x z p 2 (2 * 2) = false) := hres
            clear hres
            go_wp2
            go_roundw
            case rel =>
              refine ⟨b, y, by omega, by go_num, rfl, ?_, ?_, HB.out⟩
              · show _ ≤ _; have := HY2.out; omega
              · show _ = _
                rw [← hbt.out]
                conv => rhs; unfold bt
                rw [← HZ.out, HR.out]
                rfl
            case measure => (simp [intOf]; try omega)
          · have HR : Hid (belowB x z p 2 (2 * 2) = true) := hres
            clear hres
            go_wp2
            go_roundw
            case rel =>
              refine ⟨b, z, by omega, by go_num, rfl, ?_, ?_, HB.out⟩
              · show _ ≤ _; have := HY2.out; have := HZ.out; omega
              · show _ = _
                rw [← hbt.out]
                conv => rhs; unfold bt
                rw [← HZ.out, HR.out]
                rfl
            case measure => (simp [intOf]; try omega)
        · have hb1 : b = 0 := by omega
          subst hb1
          go_wp2
          go_ret
          refine ⟨?_, hbl⟩
          have : rootN p 2 = y := by
            unfold rootN
            rw [HW.out, ← hbt.out]
            rfl
          rw [this]
          rfl

set_option maxRecDepth 100000 in
set_option maxHeartbeats 1000000 in
theorem root3 (p : Nat) (w : World) (hp : p ≤ 398) (hp1 : 1 ≤ p) :
    Calls Tryz.prog 106 #[.int .i64 (p : Int), .int .i64 3] w fun e w' => e = .returned (.int .i64 (rootN p 3 : Int)) ∧ Below w.heap.size w w' := by
  go_enter Tryz.func106, Tryz.ntmps106
  go_wp2
  go_loop [5] (fun v => ∃ x f : Nat, x + f = 400 ∧ 1 ≤ x ∧ x ≤ p ∧ v = .int .i64 (x : Int) ∧ Hid (whl p 3 f x = whl p 3 399 1)) (fun v => 400 - (intOf v).toNat)
  case atStart => exact ⟨1, 399, rfl, by omega, hp1, rfl, rfl⟩
  case round =>
    obtain ⟨x, f, hf, hx1, hx2, rfl, hw⟩ := hrel
    obtain ⟨f, rfl⟩ : ∃ f', f = f' + 1 := ⟨f - 1, by omega⟩
    have e1 : ((x + 1 : Nat) : Int) = (x : Int) + 1 := by omega
    have hpw := power3 (x + 1)
    rw [e1] at hpw
    clear e1
    have HF : Hid (x + (f + 1) = 400) := hf
    clear hf
    obtain ⟨q, hq⟩ : ∃ q : Nat, q = (x + 1) ^ 3 := ⟨_, rfl⟩
    rw [← hq] at hpw
    have HQ : Hid (q = (x + 1) ^ 3) := hq
    clear hq
    have HP : Hid (∀ (w : World), x + 1 ≤ 1000 → Calls Tryz.prog 180 #[.int .i64 ((x : Int) + 1), .int .i64 3] w fun e w' => e = .returned (.int .i64 (q : Int)) ∧ w = w') := hpw
    clear hpw
    by_cases hle : q ≤ p
    · have hx3 : x + 1 ≤ p := by
        have := Nat.le_self_pow (n := 3) (by decide) (x + 1)
        rw [← HQ.out] at this
        omega
      go_wp2_with (go_at_call 180; refine (HP.out _ (by omega)).mono ?_; rintro e w' ⟨rfl, rfl⟩)
      go_round
      case rel =>
        have := HF.out
        refine ⟨x + 1, f, by omega, by omega, hx3, by go_num, ?_⟩
        show _ = _
        rw [← hw.out]
        conv => rhs; unfold whl
        rw [if_pos (by rw [← HQ.out]; exact hle)]
      case measure => (simp [intOf]; try omega)
    · have hwh : whl p 3 399 1 = x := by
        rw [← hw.out]
        unfold whl
        rw [if_neg (by rw [← HQ.out]; exact hle)]
      have HW : Hid (whl p 3 399 1 = x) := hwh
      clear hwh hw
      go_wp2_with (go_at_call 180; refine (HP.out _ (by omega)).mono ?_; rintro e w' ⟨rfl, rfl⟩)
      clear HP HQ HF hle
      go_loopw [6, 7] (fun v i wr => ∃ b y : Nat, b ≤ 32 ∧ i = .int .i64 ((b : Int) - 1) ∧ v = .int .i64 (y : Int) ∧ Hid (y + 2 ^ b ≤ 4294967296) ∧ Hid (bt x p 3 b y = bt x p 3 32 0) ∧ Below w.heap.size w wr) (fun _ i _ => (intOf i + 1).toNat)
      case atStart => exact ⟨32, 0, by omega, rfl, rfl, two32, rfl, Below.refl _ _⟩
      case round =>
        obtain ⟨b, y, hb, rfl, rfl, hy, hbt, hbl⟩ := hrel
        by_cases hb0 : 0 < b
        · obtain ⟨b, rfl⟩ : ∃ b', b = b' + 1 := ⟨b - 1, by omega⟩
          have em : ((b + 1 : Nat) : Int) - 1 = (b : Int) := by omega
          rw [em]
          clear em
          have hp2 : 2 ^ b ≤ 2147483648 := Nat.le_trans (Nat.pow_le_pow_right (by decide) (by omega : b ≤ 31)) (Nat.le_refl _)
          have hy1 := hy.out
          rw [Nat.pow_succ] at hy1
          have hyy : y + 2 ^ b < 4294967296 := by have : 0 < 2 ^ b := Nat.pos_of_ne_zero (by simp); omega
          have ep : (2 : Int) ^ b = ((2 ^ b : Nat) : Int) := by rw [Int.natCast_pow]; rfl
          have ew : wrap64 ((y : Int) + wrap64 (2 ^ b)) = ((y + 2 ^ b : Nat) : Int) := by
            rw [ep, Go.IntWalk.wrap64_in ((2 ^ b : Nat) : Int) (by omega), Go.IntWalk.wrap64_in _ (by omega)]
            omega
          have EW : Hid (wrap64 ((y : Int) + wrap64 (2 ^ b)) = ((y + 2 ^ b : Nat) : Int)) := ew
          have HY : Hid (y + 2 ^ b < 4294967296) := hyy
          have HY2 : Hid (y + 2 ^ b * 2 ≤ 4294967296) := hy1
          clear ew ep hp2 hyy hy1 hy
          go_wp2_with fail
          rw [EW.out]
          refine (below3 x (y + 2 ^ b) p _ (by omega) HY.out).mono ?_
          rintro e w1 ⟨rfl, hw1⟩
          have hbl1 : Below w.heap.size w w1 := hbl.trans (hw1.mono hbl.size)
          have HB : Hid (Below w.heap.size w w1) := hbl1
          clear hbl1 hw1 hbl EW
          obtain ⟨z, hz⟩ : ∃ z, z = y + 2 ^ b := ⟨_, rfl⟩
          rw [← hz]
          have HZ : Hid (z = y + 2 ^ b) := hz
          clear hz
          cases hres : belowB x z p 3 6
          · have HR : Hid (belowB x z p 3 (2 * 3) = false) := hres
            clear hres
            go_wp2
            go_roundw
            case rel =>
              refine ⟨b, y, by omega, by go_num, rfl, ?_, ?_, HB.out⟩
              · show _ ≤ _; have := HY2.out; omega
              · show _ = _
                rw [← hbt.out]
                conv => rhs; unfold bt
                rw [← HZ.out, HR.out]
                rfl
            case measure => (simp [intOf]; try omega)
          · have HR : Hid (belowB x z p 3 (2 * 3) = true) := hres
            clear hres
            go_wp2
            go_roundw
            case rel =>
              refine ⟨b, z, by omega, by go_num, rfl, ?_, ?_, HB.out⟩
              · show _ ≤ _; have := HY2.out; have := HZ.out; omega
              · show _ = _
                rw [← hbt.out]
                conv => rhs; unfold bt
                rw [← HZ.out, HR.out]
                rfl
            case measure => (simp [intOf]; try omega)
        · have hb1 : b = 0 := by omega
          subst hb1
          go_wp2
          go_ret
          refine ⟨?_, hbl⟩
          have : rootN p 3 = y := by
            unfold rootN
            rw [HW.out, ← hbt.out]
            rfl
          rw [this]
          rfl
end Go.Proofs.YtapijhhmjjplmaaGreatDoor
