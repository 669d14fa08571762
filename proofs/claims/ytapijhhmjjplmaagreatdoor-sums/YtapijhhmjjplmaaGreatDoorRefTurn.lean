/- OWN TEXT: the reference's turn and four. -/
import Derived.Test.YtapijhhmjjplmaaGreatDoorProg
import Derived.Test.YtapijhhmjjplmaaGreatDoorSha
import Derived.Test.YtapijhhmjjplmaaGreatDoorMem
namespace Go.Proofs.YtapijhhmjjplmaaGreatDoor
open Go.RowKit

theorem turn_val (x n : Nat) (hx : x < 4294967296) (hp : x * 2 ^ (32 - n) < 4611686018427387904) : (bits .or .i64 ((x : Int) / 2 ^ n) (wrap64 ((x : Int) * 2 ^ (32 - n)))).tmod 4294967296 = (rotN x n : Int) := by
  have e1 : (x : Int) / 2 ^ n = ((x / 2 ^ n : Nat) : Int) := by rw [Int.natCast_ediv, Int.natCast_pow]; rfl
  have e2 : (x : Int) * 2 ^ (32 - n) = ((x * 2 ^ (32 - n) : Nat) : Int) := by rw [Int.natCast_mul, Int.natCast_pow]; rfl
  have hd : x / 2 ^ n ≤ x := Nat.div_le_self _ _
  rw [e1, e2, Go.IntWalk.wrap64_in _ (by omega), i64_or_nat _ _ (by omega) (by omega)]
  unfold rotN
  rw [Int.natCast_emod]
  exact Int.tmod_eq_emod_of_nonneg (Int.natCast_nonneg _)

set_option maxRecDepth 100000 in
theorem turn_any (x n : Nat) (w : World) (hx : (x : Int) ≤ 4294967295) (h1 : 2 ≤ n) (h2 : n ≤ 30) :
    Calls Tryz.prog 184 #[.int .i64 (x : Int), .int .i64 (n : Int)] w fun e w' => e = .returned (.int .i64 (rotN x n : Int)) ∧ w = w' := by
  have hp : x * 2 ^ (32 - n) < 4611686018427387904 := by
    have h3 : 2 ^ (32 - n) ≤ 2 ^ 30 := Nat.pow_le_pow_right (by decide) (by omega)
    have h4 : x * 2 ^ (32 - n) ≤ 4294967295 * 2 ^ 30 := Nat.mul_le_mul (by omega) h3
    omega
  have hv := turn_val x n (by omega) hp
  clear hp
  go_enter Tryz.func184, Tryz.ntmps184
  go_wp2
  go_ret
  exact ⟨rfl, rfl⟩
end Go.Proofs.YtapijhhmjjplmaaGreatDoor
