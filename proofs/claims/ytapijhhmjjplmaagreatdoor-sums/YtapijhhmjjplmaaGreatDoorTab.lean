/- OWN TEXT: plain mathematics: the CRC by four bits at a time. -/
import Derived.Test.YtapijhhmjjplmaaGreatDoorWords
namespace Go.Proofs.YtapijhhmjjplmaaGreatDoor
open Go.RowKit

theorem half_xor (u v : Nat) : (u ^^^ v) / 2 = (u / 2) ^^^ (v / 2) := by
  have h := Nat.shiftRight_xor_distrib (a := u) (b := v) (i := 1)
  simpa [Nat.shiftRight_eq_div_pow] using h
theorem odd_xor (u v : Nat) : (u ^^^ v) % 2 = (u % 2 + v % 2) % 2 := by
  have h : (u ^^^ v) % 2 ^ 1 = (u % 2 ^ 1) ^^^ (v % 2 ^ 1) := Nat.xor_mod_two_pow
  simp only [Nat.pow_one] at h
  rw [h]
  rcases Nat.mod_two_eq_zero_or_one u with hu | hu <;> rcases Nat.mod_two_eq_zero_or_one v with hv | hv <;> rw [hu, hv] <;> rfl
theorem crcStep_xor (u v : Nat) : crcStep (u ^^^ v) = crcStep u ^^^ crcStep v := by
  unfold crcStep
  rw [half_xor, odd_xor]
  rcases Nat.mod_two_eq_zero_or_one u with hu | hu <;> rcases Nat.mod_two_eq_zero_or_one v with hv | hv <;> rw [hu, hv] <;> simp
  · ac_rfl
  · ac_rfl
  · rw [show u / 2 ^^^ 3988292384 ^^^ (v / 2 ^^^ 3988292384) = u / 2 ^^^ v / 2 ^^^ (3988292384 ^^^ 3988292384) by ac_rfl, Nat.xor_self, Nat.xor_zero]
theorem crcSteps_xor : ∀ k u v, crcSteps k (u ^^^ v) = crcSteps k u ^^^ crcSteps k v
  | 0, _, _ => rfl
  | k + 1, u, v => by
    show crcSteps k (crcStep (u ^^^ v)) = _
    rw [crcStep_xor, crcSteps_xor k]
    rfl
theorem crcStep_even (q : Nat) : crcStep (2 * q) = q := by
  unfold crcStep
  rw [if_neg (by omega)]
  omega
theorem crcSteps_16 (q : Nat) : crcSteps 4 (16 * q) = q := by
  show crcStep (crcStep (crcStep (crcStep (16 * q)))) = q
  rw [show 16 * q = 2 * (2 * (2 * (2 * q))) by omega, crcStep_even, crcStep_even, crcStep_even, crcStep_even]
theorem crcSteps_four (x : Nat) : crcSteps 4 x = (x / 16) ^^^ crcSteps 4 (x % 16) := by
  have e : x = (16 * (x / 16)) ^^^ (x % 16) := by
    have h := Nat.two_pow_add_eq_or_of_lt (i := 4) (b := x % 16) (by omega) (x / 16)
    have h2 : 16 * (x / 16) + x % 16 = x := by omega
    have h3 : 2 ^ 4 * (x / 16) + x % 16 = x := by omega
    rw [h3] at h
    have h4 : (2 ^ 4 * (x / 16)) &&& (x % 16) = 0 := by
      apply Nat.eq_of_testBit_eq
      intro i
      rw [Nat.testBit_and, show x % 16 = x % 2 ^ 4 by rfl, Nat.testBit_mod_two_pow, Nat.testBit_two_pow_mul, Nat.zero_testBit]
      rcases Nat.lt_or_ge i 4 with h5 | h5
      · rw [show decide (i ≥ 4) = false by simp; omega]; simp
      · rw [show decide (i < 4) = false by simp; omega]; simp
    rw [show 16 * (x / 16) = 2 ^ 4 * (x / 16) by omega]
    have h8 : (2 ^ 4 * (x / 16)) ||| (x % 16) = (2 ^ 4 * (x / 16)) ^^^ (x % 16) := by
      apply Nat.eq_of_testBit_eq
      intro i
      have h9 := congrArg (fun t => Nat.testBit t i) h4
      simp only [Nat.testBit_and, Nat.zero_testBit] at h9
      simp only [Nat.testBit_or, Nat.testBit_xor]
      revert h9
      cases Nat.testBit (2 ^ 4 * (x / 16)) i <;> cases Nat.testBit (x % 16) i <;> simp
    rw [← h8]
    exact h
  have h := crcSteps_xor 4 (16 * (x / 16)) (x % 16)
  rw [← e, crcSteps_16] at h
  exact h
theorem crcSteps_add : ∀ j k r, crcSteps (j + k) r = crcSteps k (crcSteps j r)
  | 0, k, r => by rw [Nat.zero_add]; rfl
  | j + 1, k, r => by
    rw [show j + 1 + k = (j + k) + 1 by omega]
    show crcSteps (j + k) (crcStep r) = _
    rw [crcSteps_add j k]
    rfl
/-- What four steps do to each of sixteen numbers. -/
def tabN : List Nat := (List.range 16).map (crcSteps 4)
theorem tabN_at (i : Nat) (h : i < 16) : tabN.getD i 0 = crcSteps 4 i := by
  unfold tabN
  rw [List.getD_eq_getElem?_getD]
  simp [h]
theorem crcSteps_eight (x : Nat) : crcSteps 8 x = ((x / 16) ^^^ tabN.getD (x % 16) 0) / 16 ^^^ tabN.getD (((x / 16) ^^^ tabN.getD (x % 16) 0) % 16) 0 := by
  rw [tabN_at _ (by omega), tabN_at _ (by omega), show 8 = 4 + 4 by rfl, crcSteps_add, crcSteps_four x]
  exact crcSteps_four _
end Go.Proofs.YtapijhhmjjplmaaGreatDoor
