/- OWN TEXT: plain mathematics: bits of ints; the CRC. -/
import Derived.WalkKit
import Derived.Laws.BitsAllLaws
namespace Go.Proofs.YtapijhhmjjplmaaGreatDoor
open Go.RowKit

theorem ofInt_64 (a : Nat) (ha : a < 9223372036854775808) : (BitVec.ofInt 64 (a : Int)).toNat = a := by
  rw [BitVec.ofInt_natCast, BitVec.toNat_ofNat]; exact Nat.mod_eq_of_lt (by omega)
theorem wrap_i64_nat (a : Nat) (ha : a < 9223372036854775808) : IntKind.i64.wrap (a : Int) = (a : Int) := by
  simp [IntKind.wrap, IntKind.bits, IntKind.signed]
  omega
theorem i64_xor_nat (a b : Nat) (ha : a < 9223372036854775808) (hb : b < 9223372036854775808) : bits .xor .i64 (a : Int) (b : Int) = ((a ^^^ b : Nat) : Int) := by
  have hx : a ^^^ b < 2 ^ 63 := Nat.xor_lt_two_pow (by omega) (by omega)
  show IntKind.i64.wrap ((BitVec.ofInt 64 (a : Int) ^^^ BitVec.ofInt 64 (b : Int)).toNat : Int) = _
  rw [BitVec.toNat_xor, ofInt_64 a ha, ofInt_64 b hb, wrap_i64_nat _ (by omega)]
theorem i64_or_nat (a b : Nat) (ha : a < 9223372036854775808) (hb : b < 9223372036854775808) : bits .or .i64 (a : Int) (b : Int) = ((a ||| b : Nat) : Int) := by
  have hx : a ||| b < 2 ^ 63 := Nat.or_lt_two_pow (by omega) (by omega)
  show IntKind.i64.wrap ((BitVec.ofInt 64 (a : Int) ||| BitVec.ofInt 64 (b : Int)).toNat : Int) = _
  rw [BitVec.toNat_or, ofInt_64 a ha, ofInt_64 b hb, wrap_i64_nat _ (by omega)]
theorem i64_and_nat (a b : Nat) (ha : a < 9223372036854775808) (hb : b < 9223372036854775808) : bits .and .i64 (a : Int) (b : Int) = ((a &&& b : Nat) : Int) := by
  have hx : a &&& b < 2 ^ 63 := Nat.and_lt_two_pow _ (by omega)
  show IntKind.i64.wrap ((BitVec.ofInt 64 (a : Int) &&& BitVec.ofInt 64 (b : Int)).toNat : Int) = _
  rw [BitVec.toNat_and, ofInt_64 a ha, ofInt_64 b hb, wrap_i64_nat _ (by omega)]

/-- 2^32, as a name. -/
def w32 : Nat := 4294967296
theorem xor_w32 {a b : Nat} (ha : a < w32) (hb : b < w32) : a ^^^ b < w32 := by
  have : a ^^^ b < 2 ^ 32 := Nat.xor_lt_two_pow (by unfold w32 at ha; omega) (by unfold w32 at hb; omega)
  unfold w32; omega

theorem and_w32 {a b : Nat} (ha : a < w32) : a &&& b < w32 := Nat.lt_of_le_of_lt Nat.and_le_left ha

def crcStep (r : Nat) : Nat := if r % 2 = 1 then (r / 2) ^^^ 3988292384 else r / 2
def crcSteps : Nat → Nat → Nat
  | 0, r => r
  | k + 1, r => crcSteps k (crcStep r)
def crcTo (l : List UInt8) (r : Nat) : Nat := l.foldl (fun r c => crcSteps 8 (r ^^^ c.toNat)) r
def crcN (l : List UInt8) : Nat := 4294967295 - crcTo l 4294967295

theorem crcStep_lt (r : Nat) (h : r < w32) : crcStep r < w32 := by
  unfold crcStep
  split
  · exact xor_w32 (by unfold w32 at *; omega) (by unfold w32; omega)
  · unfold w32 at *; omega
theorem crcSteps_lt : ∀ k r, r < w32 → crcSteps k r < w32
  | 0, _, h => h
  | k + 1, r, h => crcSteps_lt k _ (crcStep_lt r h)
theorem crcTo_snoc (l : List UInt8) (c : UInt8) (r : Nat) : crcTo (l ++ [c]) r = crcSteps 8 (crcTo l r ^^^ c.toNat) := by
  unfold crcTo; rw [List.foldl_append]; rfl
theorem byte_w32 (c : UInt8) : c.toNat < w32 := by have := c.toNat_lt; unfold w32; omega
theorem crcTo_lt (l : List UInt8) : ∀ r, r < w32 → crcTo l r < w32 := by
  induction l with
  | nil => intro r h; exact h
  | cons c t ih => intro r h; exact ih _ (crcSteps_lt 8 _ (xor_w32 h (byte_w32 c)))
theorem take_snoc (s : ByteArray) (k : Nat) (h : k < s.size) : s.data.toList.take (k + 1) = s.data.toList.take k ++ [s[k]] := by
  rw [List.take_succ_eq_append_getElem (by simpa using h)]; rfl
end Go.Proofs.YtapijhhmjjplmaaGreatDoor
