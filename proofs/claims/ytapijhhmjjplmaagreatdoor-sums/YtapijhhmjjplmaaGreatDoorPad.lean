/- OWN TEXT: plain mathematics: padding a text, block by block. -/
import Derived.Test.YtapijhhmjjplmaaGreatDoorSha
namespace Go.Proofs.YtapijhhmjjplmaaGreatDoor
open Go.RowKit

/-- What is behind the last whole block, its mark, and zeros up to the block's end. -/
def tailB (l : List Nat) : List Nat := l.drop (64 * (l.length / 64)) ++ [128] ++ List.replicate (63 - l.length % 64) 0
theorem tailB_length (l : List Nat) : (tailB l).length = 64 := by
  simp [tailB]; omega
/-- The last i bytes of a length, in a block's last i bytes. -/
def lensIn (b : List Nat) (n i : Nat) : List Nat := b.take (64 - i) ++ (lenB n 8).drop (8 - i)
theorem lensIn_length (b : List Nat) (n i : Nat) (hb : b.length = 64) (hi : i ≤ 8) : (lensIn b n i).length = 64 := by
  simp [lensIn, lenB_length, hb]; omega
theorem lensIn_zero (b : List Nat) (n : Nat) (hb : b.length = 64) : lensIn b n 0 = b := by
  unfold lensIn
  rw [List.take_of_length_le (by omega), List.drop_eq_nil_of_le (by rw [lenB_length]; omega), List.append_nil]
theorem lenB_at (n i : Nat) (h : i < 8) : (lenB n 8)[i]'(by rw [lenB_length]; exact h) = n / 2 ^ (8 * (7 - i)) % 256 := by simp [lenB]
theorem lensIn_set (b : List Nat) (n i : Nat) (hb : b.length = 64) (hi : i < 8) : (lensIn b n i).set (63 - i) (n / 2 ^ (8 * i) % 256) = lensIn b n (i + 1) := by
  unfold lensIn
  have e1 : b.take (64 - i) = b.take (63 - i) ++ [b[63 - i]'(by omega)] := by
    rw [show 64 - i = (63 - i) + 1 by omega]
    exact List.take_succ_eq_append_getElem (by omega)
  have e2 : (lenB n 8).drop (7 - i) = n / 2 ^ (8 * i) % 256 :: (lenB n 8).drop (8 - i) := by
    rw [List.drop_eq_getElem_cons (by rw [lenB_length]; omega), lenB_at n (7 - i) (by omega), show 7 - (7 - i) = i by omega, show 7 - i + 1 = 8 - i by omega]
  rw [e1, show 64 - (i + 1) = 63 - i by omega, show 8 - (i + 1) = 7 - i by omega, e2, List.append_assoc, List.set_append_right _ _ (by rw [List.length_take]; omega), List.length_take, Nat.min_eq_left (by omega), Nat.sub_self]
  rfl
theorem lensIn_lt (b : List Nat) (n i : Nat) (hb : ∀ d ∈ b, d < 256) : ∀ d ∈ lensIn b n i, d < 256 := by
  intro d hd
  unfold lensIn at hd
  rcases List.mem_append.1 hd with hd | hd
  · exact hb d (List.mem_of_mem_take hd)
  · exact lenB_lt _ _ d (List.mem_of_mem_drop hd)
theorem tailB_lt (l : List Nat) (h : ∀ d ∈ l, d < 256) : ∀ d ∈ tailB l, d < 256 := by
  intro d hd
  unfold tailB at hd
  simp only [List.append_assoc, List.mem_append, List.mem_singleton] at hd
  rcases hd with hd | hd | hd
  · exact h d (List.mem_of_mem_drop hd)
  · omega
  · rw [List.eq_of_mem_replicate hd]; omega

theorem padN_blk (l : List Nat) (j : Nat) (h : j < l.length / 64) : blk (padN l) j = (l.drop (64 * j)).take 64 := by
  unfold blk padN
  rw [List.append_assoc, List.append_assoc, List.drop_append_of_le_length (by omega), List.take_append_of_le_length (by rw [List.length_drop]; omega)]
theorem padN_tail (l : List Nat) : (padN l).drop (64 * (l.length / 64)) = l.drop (64 * (l.length / 64)) ++ ([128] ++ (List.replicate (zN l.length) 0 ++ lenB (8 * l.length) 8)) := by
  unfold padN
  rw [List.append_assoc, List.append_assoc, List.drop_append_of_le_length (by omega)]
theorem padN_one (l : List Nat) (h : l.length % 64 < 56) : (padN l).length / 64 = l.length / 64 + 1 ∧ blk (padN l) (l.length / 64) = lensIn (tailB l) (8 * l.length) 8 := by
  have hz : zN l.length = 55 - l.length % 64 := by unfold zN; omega
  constructor
  · rw [padN_length, hz]; omega
  · unfold blk
    rw [padN_tail, hz]
    have e : lensIn (tailB l) (8 * l.length) 8 = (tailB l).take 56 ++ lenB (8 * l.length) 8 := rfl
    rw [e]
    have e2 : tailB l = (l.drop (64 * (l.length / 64)) ++ ([128] ++ List.replicate (55 - l.length % 64) 0)) ++ List.replicate 8 0 := by
      unfold tailB
      rw [List.append_assoc, List.append_assoc, List.append_assoc, List.replicate_append_replicate, show 55 - l.length % 64 + 8 = 63 - l.length % 64 by omega]
    have e3 : (l.drop (64 * (l.length / 64)) ++ ([128] ++ List.replicate (55 - l.length % 64) 0)).length = 56 := by simp; omega
    have e4 : (tailB l).take 56 = l.drop (64 * (l.length / 64)) ++ ([128] ++ List.replicate (55 - l.length % 64) 0) := by
      rw [e2, List.take_append_of_le_length (Nat.le_of_eq e3.symm), List.take_of_length_le (Nat.le_of_eq e3)]
    rw [e4, List.take_of_length_le (by simp [lenB_length]; omega)]
    simp only [List.append_assoc]
theorem padN_two (l : List Nat) (h : 56 ≤ l.length % 64) : (padN l).length / 64 = l.length / 64 + 2 ∧ blk (padN l) (l.length / 64) = tailB l ∧ blk (padN l) (l.length / 64 + 1) = lensIn (List.replicate 64 0) (8 * l.length) 8 := by
  have hz : zN l.length = (63 - l.length % 64) + 56 := by unfold zN; omega
  have e1 : (padN l).drop (64 * (l.length / 64)) = tailB l ++ (List.replicate 56 0 ++ lenB (8 * l.length) 8) := by
    rw [padN_tail, hz, ← List.replicate_append_replicate]
    unfold tailB
    simp only [List.append_assoc]
  refine ⟨by rw [padN_length, hz]; omega, ?_, ?_⟩
  · unfold blk
    rw [e1, List.take_append_of_le_length (by rw [tailB_length]; omega), List.take_of_length_le (by rw [tailB_length]; omega)]
  · unfold blk
    rw [show 64 * (l.length / 64 + 1) = 64 * (l.length / 64) + 64 by omega, ← List.drop_drop, e1, List.drop_append_of_le_length (by rw [tailB_length]; omega), List.drop_eq_nil_of_le (by rw [tailB_length]; omega), List.nil_append, List.take_of_length_le (by simp [lenB_length])]
    rfl
/-- The sum, block by block. -/
theorem shaB_one (ks hs l : List Nat) (h : l.length % 64 < 56) : mixTo ks hs (padN l) ((padN l).length / 64) = mixN ks (mixTo ks hs (padN l) (l.length / 64)) (lensIn (tailB l) (8 * l.length) 8) := by
  obtain ⟨h1, h2⟩ := padN_one l h
  rw [h1, ← h2]
  rfl
theorem shaB_two (ks hs l : List Nat) (h : 56 ≤ l.length % 64) : mixTo ks hs (padN l) ((padN l).length / 64) = mixN ks (mixN ks (mixTo ks hs (padN l) (l.length / 64)) (tailB l)) (lensIn (List.replicate 64 0) (8 * l.length) 8) := by
  obtain ⟨h1, h2, h3⟩ := padN_two l h
  rw [h1, ← h2, ← h3]
  rfl
end Go.Proofs.YtapijhhmjjplmaaGreatDoor
