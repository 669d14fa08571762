/- OWN TEXT: plain mathematics: SHA-256 on natural numbers. -/
import Derived.Test.YtapijhhmjjplmaaGreatDoorWords
namespace Go.Proofs.YtapijhhmjjplmaaGreatDoor
open Go.RowKit

def rotN (x n : Nat) : Nat := (x / 2 ^ n ||| x * 2 ^ (32 - n)) % 4294967296
def s0 (a : Nat) : Nat := rotN a 7 ^^^ rotN a 18 ^^^ a / 8
def s1 (b : Nat) : Nat := rotN b 17 ^^^ rotN b 19 ^^^ b / 1024
def wd (p : List Nat) (i : Nat) : Nat := p.getD (4 * i) 0 * 16777216 + p.getD (4 * i + 1) 0 * 65536 + p.getD (4 * i + 2) 0 * 256 + p.getD (4 * i + 3) 0
def nxt (l p : List Nat) (i : Nat) : Nat := if i < 16 then wd p i else (l.getD (i - 16) 0 + l.getD (i - 7) 0 + s0 (l.getD (i - 15) 0) + s1 (l.getD (i - 2) 0)) % 4294967296
def schedTo (p : List Nat) : Nat → List Nat
  | 0 => []
  | i + 1 => schedTo p i ++ [nxt (schedTo p i) p i]
def tOf (v : List Nat) (k w : Nat) : Nat := v.getD 7 0 + (rotN (v.getD 4 0) 6 ^^^ rotN (v.getD 4 0) 11 ^^^ rotN (v.getD 4 0) 25) + ((v.getD 4 0 &&& v.getD 5 0) ^^^ ((4294967295 - v.getD 4 0) &&& v.getD 6 0)) + k + w
def uOf (v : List Nat) : Nat := (rotN (v.getD 0 0) 2 ^^^ rotN (v.getD 0 0) 13 ^^^ rotN (v.getD 0 0) 22) + ((v.getD 0 0 &&& v.getD 1 0) ^^^ (v.getD 0 0 &&& v.getD 2 0) ^^^ (v.getD 1 0 &&& v.getD 2 0))
def rnd (v : List Nat) (k w : Nat) : List Nat :=
  [(tOf v k w + uOf v) % 4294967296, v.getD 0 0, v.getD 1 0, v.getD 2 0, (v.getD 3 0 + tOf v k w) % 4294967296, v.getD 4 0, v.getD 5 0, v.getD 6 0]
def rnds (ks ws : List Nat) (h : List Nat) : Nat → List Nat
  | 0 => h
  | i + 1 => rnd (rnds ks ws h i) (ks.getD i 0) (ws.getD i 0)
def addAll (h v : List Nat) : List Nat := (List.range 8).map fun i => (h.getD i 0 + v.getD i 0) % 4294967296
def mixN (ks h p : List Nat) : List Nat := addAll h (rnds ks (schedTo p 64) h 64)

theorem rotN_lt (x n : Nat) : rotN x n < w32 := Nat.mod_lt _ (by decide)
theorem schedTo_length (p : List Nat) : ∀ i, (schedTo p i).length = i
  | 0 => rfl
  | i + 1 => by simp [schedTo, schedTo_length p i]
theorem s0_lt (a : Nat) (h : a < w32) : s0 a < w32 := xor_w32 (xor_w32 (rotN_lt _ _) (rotN_lt _ _)) (by unfold w32 at *; omega)
theorem s1_lt (a : Nat) (h : a < w32) : s1 a < w32 := xor_w32 (xor_w32 (rotN_lt _ _) (rotN_lt _ _)) (by unfold w32 at *; omega)
theorem getD_lt {l : List Nat} {m : Nat} (h : ∀ d ∈ l, d < m) (hm : 0 < m) (i : Nat) : l.getD i 0 < m := by
  rw [List.getD_eq_getElem?_getD]
  rcases Nat.lt_or_ge i l.length with h' | h'
  · rw [List.getElem?_eq_getElem h']; exact h _ (List.getElem_mem _)
  · rw [List.getElem?_eq_none h']; exact hm
theorem wd_lt (p : List Nat) (h : ∀ d ∈ p, d < 256) (i : Nat) : wd p i < w32 := by
  have h0 := getD_lt h (by omega) (4 * i)
  have h1 := getD_lt h (by omega) (4 * i + 1)
  have h2 := getD_lt h (by omega) (4 * i + 2)
  have h3 := getD_lt h (by omega) (4 * i + 3)
  unfold wd w32
  omega
theorem nxt_lt (l p : List Nat) (h : ∀ d ∈ p, d < 256) (i : Nat) : nxt l p i < w32 := by
  unfold nxt
  split
  · exact wd_lt p h i
  · exact Nat.mod_lt _ (by decide)
theorem schedTo_lt (p : List Nat) (h : ∀ d ∈ p, d < 256) : ∀ i, ∀ d ∈ schedTo p i, d < w32
  | 0, d, hd => by cases hd
  | i + 1, d, hd => by
    unfold schedTo at hd
    rcases List.mem_append.1 hd with hd | hd
    · exact schedTo_lt p h i d hd
    · rw [List.mem_singleton] at hd
      rw [hd]; exact nxt_lt _ p h i

theorem rnd_length (v : List Nat) (k w : Nat) : (rnd v k w).length = 8 := rfl
theorem rnds_length (ks ws h : List Nat) (hl : h.length = 8) : ∀ i, (rnds ks ws h i).length = 8
  | 0 => hl
  | _ + 1 => rfl
theorem rnds_lt (ks ws h : List Nat) (hl : h.length = 8) (hw : ∀ d ∈ h, d < w32) : ∀ i, ∀ d ∈ rnds ks ws h i, d < w32
  | 0, d, hd => hw d hd
  | i + 1, d, hd => by
    have ih := rnds_lt ks ws h hl hw i
    have g := getD_lt ih (by decide)
    simp only [rnds, rnd, List.mem_cons, List.not_mem_nil, or_false] at hd
    rcases hd with rfl | rfl | rfl | rfl | rfl | rfl | rfl | rfl
    · exact Nat.mod_lt _ (by decide)
    · exact g 0
    · exact g 1
    · exact g 2
    · exact Nat.mod_lt _ (by decide)
    · exact g 4
    · exact g 5
    · exact g 6

/-- A list that is filled from the left. -/
def fill (l : List Nat) (n : Nat) : List Nat := l ++ List.replicate (n - l.length) 0
theorem fill_set (l : List Nat) (n x : Nat) (h : l.length < n) : (fill l n).set l.length x = fill (l ++ [x]) n := by
  unfold fill
  rw [List.set_append_right _ _ (Nat.le_refl _), Nat.sub_self, List.length_append, List.length_singleton]
  obtain ⟨m, hm⟩ : ∃ m, n - l.length = m + 1 := ⟨n - l.length - 1, by omega⟩
  rw [hm, show n - (l.length + 1) = m by omega, List.replicate_succ, List.set_cons_zero]
  simp
theorem fill_length (l : List Nat) (n : Nat) (h : l.length ≤ n) : (fill l n).length = n := by
  unfold fill; rw [List.length_append, List.length_replicate]; omega
theorem fill_at (l : List Nat) (n j : Nat) (h : j < l.length) (hn : l.length ≤ n) : (fill l n)[j]'(by rw [fill_length l n hn]; omega) = l[j] := by
  unfold fill; rw [List.getElem_append_left h]

/-- The state while it is shifted: behind m it is shifted already. -/
def shf (l : List Nat) (m : Nat) : List Nat := l.take (m + 1) ++ (l.drop m).take (7 - m)
theorem shf_length (v0 v1 v2 v3 v4 v5 v6 v7 : Nat) : ∀ m, m ≤ 7 → (shf [v0, v1, v2, v3, v4, v5, v6, v7] m).length = 8
  | 0, _ => rfl
  | 1, _ => rfl
  | 2, _ => rfl
  | 3, _ => rfl
  | 4, _ => rfl
  | 5, _ => rfl
  | 6, _ => rfl
  | 7, _ => rfl
theorem shf_set (v0 v1 v2 v3 v4 v5 v6 v7 : Nat) : ∀ m, 1 ≤ m → m ≤ 7 → (shf [v0, v1, v2, v3, v4, v5, v6, v7] m).set m ((shf [v0, v1, v2, v3, v4, v5, v6, v7] m).getD (m - 1) 0) = shf [v0, v1, v2, v3, v4, v5, v6, v7] (m - 1)
  | 1, _, _ => rfl
  | 2, _, _ => rfl
  | 3, _, _ => rfl
  | 4, _, _ => rfl
  | 5, _, _ => rfl
  | 6, _, _ => rfl
  | 7, _, _ => rfl
theorem addTo_set (h a : List Nat) (i : Nat) (hl : h.length = a.length) (hi : i < h.length) : (a.take i ++ h.drop i).set i a[i] = a.take (i + 1) ++ h.drop (i + 1) := by
  rw [List.set_append_right _ _ (by rw [List.length_take]; omega), List.length_take, Nat.min_eq_left (by omega), Nat.sub_self, List.drop_eq_getElem_cons hi, List.set_cons_zero]
  have e : a.take (i + 1) = a.take i ++ [a[i]] := List.take_succ_eq_append_getElem (by omega)
  rw [e, List.append_assoc]
  rfl
theorem addTo_get (h a : List Nat) (i : Nat) (hl : i ≤ a.length) : (a.take i ++ h.drop i).getD i 0 = h.getD i 0 := by
  rw [List.getD_eq_getElem?_getD, List.getD_eq_getElem?_getD, List.getElem?_append_right (by rw [List.length_take]; omega), List.length_take, Nat.min_eq_left hl, Nat.sub_self, List.getElem?_drop, Nat.add_zero]
theorem get_getD (l : List Nat) (i : Nat) (h : i < l.length) : l[i] = l.getD i 0 := by
  rw [List.getD_eq_getElem?_getD, List.getElem?_eq_getElem h]; rfl
theorem addAll_length (h v : List Nat) : (addAll h v).length = 8 := by simp [addAll]
theorem addAll_at (h v : List Nat) (i : Nat) (hi : i < 8) : (addAll h v)[i]'(by rw [addAll_length]; exact hi) = (h.getD i 0 + v.getD i 0) % 4294967296 := by simp [addAll]

/-- How many zeros a text of n bytes is padded with. -/
def zN (n : Nat) : Nat := (119 - n % 64) % 64
/-- The first j bytes of a length, the high one first. -/
def lenB (n j : Nat) : List Nat := (List.range j).map fun i => n / 2 ^ (8 * (7 - i)) % 256
def padN (l : List Nat) : List Nat := l ++ [128] ++ List.replicate (zN l.length) 0 ++ lenB (8 * l.length) 8
def blk (p : List Nat) (j : Nat) : List Nat := (p.drop (64 * j)).take 64
def mixTo (ks hs p : List Nat) : Nat → List Nat
  | 0 => hs
  | j + 1 => mixN ks (mixTo ks hs p j) (blk p j)
def four4 (n : Nat) : List UInt8 := [UInt8.ofNat (n / 16777216 % 256), UInt8.ofNat (n / 65536 % 256), UInt8.ofNat (n / 256 % 256), UInt8.ofNat (n % 256)]
def shaB (ks hs l : List Nat) : List UInt8 := (mixTo ks hs (padN l) ((padN l).length / 64)).flatMap four4

theorem lenB_succ (n j : Nat) : lenB n (j + 1) = lenB n j ++ [n / 2 ^ (8 * (7 - j)) % 256] := by
  unfold lenB; rw [List.range_succ, List.map_append]; rfl
theorem lenB_length (n j : Nat) : (lenB n j).length = j := by simp [lenB]
theorem lenB_lt (n j : Nat) : ∀ d ∈ lenB n j, d < 256 := by
  intro d hd
  unfold lenB at hd
  obtain ⟨i, _, rfl⟩ := List.mem_map.1 hd
  exact Nat.mod_lt _ (by decide)
theorem padN_length (l : List Nat) : (padN l).length = l.length + 1 + zN l.length + 8 := by
  simp [padN, lenB_length]; omega
theorem padN_64 (l : List Nat) : (padN l).length % 64 = 0 := by
  rw [padN_length]; unfold zN; omega
theorem padN_lt (l : List Nat) (h : ∀ d ∈ l, d < 256) : ∀ d ∈ padN l, d < 256 := by
  intro d hd
  unfold padN at hd
  simp only [List.append_assoc, List.mem_append, List.mem_singleton] at hd
  rcases hd with hd | hd | hd | hd
  · exact h d hd
  · omega
  · rw [List.eq_of_mem_replicate hd]; omega
  · exact lenB_lt _ _ d hd
theorem mixN_length (ks h p : List Nat) : (mixN ks h p).length = 8 := addAll_length _ _
theorem mixN_lt (ks h p : List Nat) : ∀ d ∈ mixN ks h p, d < w32 := by
  intro d hd
  unfold mixN addAll at hd
  obtain ⟨i, _, rfl⟩ := List.mem_map.1 hd
  exact Nat.mod_lt _ (by decide)
theorem mixTo_length (ks hs p : List Nat) (hl : hs.length = 8) : ∀ j, (mixTo ks hs p j).length = 8
  | 0 => hl
  | _ + 1 => mixN_length _ _ _
theorem mixTo_lt (ks hs p : List Nat) (hw : ∀ d ∈ hs, d < w32) : ∀ j, ∀ d ∈ mixTo ks hs p j, d < w32
  | 0, d, hd => hw d hd
  | _ + 1, d, hd => mixN_lt _ _ _ d hd
theorem blk_length (p : List Nat) (j : Nat) (h : 64 * (j + 1) ≤ p.length) : (blk p j).length = 64 := by
  unfold blk; rw [List.length_take, List.length_drop]; omega
theorem blk_lt (p : List Nat) (hp : ∀ d ∈ p, d < 256) (j : Nat) : ∀ d ∈ blk p j, d < 256 := fun d hd => hp d (List.mem_of_mem_drop (List.mem_of_mem_take hd))
theorem blk_at (p : List Nat) (j i : Nat) (h : 64 * (j + 1) ≤ p.length) (hi : i < 64) : (blk p j)[i]'(by rw [blk_length p j h]; exact hi) = p[64 * j + i]'(by omega) := by
  unfold blk; rw [List.getElem_take, List.getElem_drop]
end Go.Proofs.YtapijhhmjjplmaaGreatDoor
