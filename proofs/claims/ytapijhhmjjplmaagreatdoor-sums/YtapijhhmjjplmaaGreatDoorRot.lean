/- OWN TEXT: the program's turn of a word. -/
import Derived.Test.YtapijhhmjjplmaaGreatDoorProg
import Derived.Test.YtapijhhmjjplmaaGreatDoorSha
import Derived.Test.YtapijhhmjjplmaaGreatDoorMem
namespace Go.Proofs.YtapijhhmjjplmaaGreatDoor
open Go.RowKit

theorem xor_ones (x : Nat) (h : x < 4294967296) : 4294967295 ^^^ x = 4294967295 - x := by
  have h1 : (BitVec.allOnes 32 ^^^ BitVec.ofNat 32 x).toNat = (~~~ BitVec.ofNat 32 x).toNat := by rw [BitVec.allOnes_xor]
  rw [BitVec.toNat_xor, BitVec.toNat_not, BitVec.toNat_allOnes, BitVec.toNat_ofNat, Nat.mod_eq_of_lt h] at h1
  exact h1
theorem u32_not (x : Nat) (h : x < 4294967296) : bits .xor .u32 IntKind.u32.max (x : Int) = ((4294967295 - x : Nat) : Int) := by
  have e : IntKind.u32.max = ((4294967295 : Nat) : Int) := by decide +kernel
  rw [e, u32_xor_nat _ _ (by decide) h, xor_ones x h]

theorem rot_val (x n m : Nat) (hx : x < 4294967296) (hm : m = 32 - n) : bits .or .u32 ((x : Int) * 2 ^ m % 4294967296) ((x : Int) / 2 ^ n) = (rotN x n : Int) := by
  have e1 : (x : Int) / 2 ^ n = ((x / 2 ^ n : Nat) : Int) := by rw [Int.natCast_ediv, Int.natCast_pow]; rfl
  have e2 : (x : Int) * 2 ^ m % 4294967296 = ((x * 2 ^ m % 4294967296 : Nat) : Int) := by rw [Int.natCast_emod, Int.natCast_mul, Int.natCast_pow]; rfl
  have hd : x / 2 ^ n ≤ x := Nat.div_le_self _ _
  rw [e1, e2, u32_or_nat _ _ (Nat.mod_lt _ (by decide)) (by omega), hm]
  congr 1
  unfold rotN
  rw [show (4294967296 : Nat) = 2 ^ 32 by decide, Nat.or_mod_two_pow, Nat.or_comm]
  congr 1
  exact (Nat.mod_eq_of_lt (Nat.lt_of_le_of_lt hd hx)).symm

set_option maxRecDepth 100000 in
theorem rot_any (x n m : Nat) (c : Int) (w : World) (hx : (x : Int) ≤ 4294967295) (hb : bits .and .u64 (IntKind.u64.wrap c) 31 = (m : Int)) (h1 : 2 ≤ n) (h2 : n ≤ 30) (hm : m = 32 - n) :
    Calls Tryz.prog 280 #[.int .u32 (x : Int), .int .i64 c] w fun e w' => e = .returned (.int .u32 (rotN x n : Int)) ∧ w = w' := by
  have hv := rot_val x n m (by omega) hm
  have hn : (32 : Int) - (m : Int) = (n : Int) := by omega
  have hm2 : 2 ≤ m := by omega
  have hm3 : m ≤ 30 := by omega
  clear hm
  go_enter Tryz.func280, Tryz.ntmps280
  go_wp2
  go_ret
  exact ⟨rfl, rfl⟩
end Go.Proofs.YtapijhhmjjplmaaGreatDoor
