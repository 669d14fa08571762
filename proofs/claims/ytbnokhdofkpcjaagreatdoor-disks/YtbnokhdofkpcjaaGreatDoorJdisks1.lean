/- OWN TEXT: joined of: Words Sha Mem Rot Round Digits Times. -/
import Derived.WalkKit
import Derived.Laws.BitsAllLaws
import Derived.WalkSpells
import Derived.BigRegion
import Derived.Deep.QuietTactic
import Derived.BigQuiet
import Derived.Test.YtbnokhdofkpcjaaGreatDoorProg
import Derived.Deep.WholeRow
import Derived.Below
import Derived.Deep.OwnRows
namespace Go.Proofs.YtbnokhdofkpcjaaGreatDoor
open Go.RowKit

theorem ofInt_64 (a : Nat) (ha : a < 9223372036854775808) : (BitVec.ofInt 64 (a : Int)).toNat = a := by
  rw [BitVec.ofInt_natCast, BitVec.toNat_ofNat]; exact Nat.mod_eq_of_lt (by omega)
theorem wrap_i64_nat (a : Nat) (ha : a < 9223372036854775808) : IntKind.i64.wrap (a : Int) = (a : Int) := by
  simp [IntKind.wrap, IntKind.bits, IntKind.signed]
  omega
theorem i64_xor_nat (a b : Nat) (ha : a < 9223372036854775808) (hb : b < 9223372036854775808) : bits .xor .i64 (a : Int) (b : Int) = ((a ^^^ b : Nat) : Int) := by
  have hx : a ^^^ b < 2 ^ 63 := Nat.xor_lt_two_pow (by omega) (by omega)
  show IntKind.i64.wrap ((BitVec.ofInt 64 (a : Int) ^^^ BitVec.ofInt 64 (b : Int)).toNat : Int) = _
  rw [BitVec.toNat_xor, ofInt_64 a ha, ofInt_64 b hb, wrap_i64_nat _ (by omega)]
theorem i64_or_nat (a b : Nat) (ha : a < 9223372036854775808) (hb : b < 9223372036854775808) : bits .or .i64 (a : Int) (b : Int) = ((a ||| b : Nat) : Int) := by
  have hx : a ||| b < 2 ^ 63 := Nat.or_lt_two_pow (by omega) (by omega)
  show IntKind.i64.wrap ((BitVec.ofInt 64 (a : Int) ||| BitVec.ofInt 64 (b : Int)).toNat : Int) = _
  rw [BitVec.toNat_or, ofInt_64 a ha, ofInt_64 b hb, wrap_i64_nat _ (by omega)]
theorem i64_and_nat (a b : Nat) (ha : a < 9223372036854775808) (hb : b < 9223372036854775808) : bits .and .i64 (a : Int) (b : Int) = ((a &&& b : Nat) : Int) := by
  have hx : a &&& b < 2 ^ 63 := Nat.and_lt_two_pow _ (by omega)
  show IntKind.i64.wrap ((BitVec.ofInt 64 (a : Int) &&& BitVec.ofInt 64 (b : Int)).toNat : Int) = _
  rw [BitVec.toNat_and, ofInt_64 a ha, ofInt_64 b hb, wrap_i64_nat _ (by omega)]

/-- 2^32, as a name. -/
def w32 : Nat := 4294967296
theorem xor_w32 {a b : Nat} (ha : a < w32) (hb : b < w32) : a ^^^ b < w32 := by
  have : a ^^^ b < 2 ^ 32 := Nat.xor_lt_two_pow (by unfold w32 at ha; omega) (by unfold w32 at hb; omega)
  unfold w32; omega

theorem and_w32 {a b : Nat} (ha : a < w32) : a &&& b < w32 := Nat.lt_of_le_of_lt Nat.and_le_left ha

def crcStep (r : Nat) : Nat := if r % 2 = 1 then (r / 2) ^^^ 3988292384 else r / 2
def crcSteps : Nat → Nat → Nat
  | 0, r => r
  | k + 1, r => crcSteps k (crcStep r)
def crcTo (l : List UInt8) (r : Nat) : Nat := l.foldl (fun r c => crcSteps 8 (r ^^^ c.toNat)) r
def crcN (l : List UInt8) : Nat := 4294967295 - crcTo l 4294967295

theorem crcStep_lt (r : Nat) (h : r < w32) : crcStep r < w32 := by
  unfold crcStep
  split
  · exact xor_w32 (by unfold w32 at *; omega) (by unfold w32; omega)
  · unfold w32 at *; omega
theorem crcSteps_lt : ∀ k r, r < w32 → crcSteps k r < w32
  | 0, _, h => h
  | k + 1, r, h => crcSteps_lt k _ (crcStep_lt r h)
theorem crcTo_snoc (l : List UInt8) (c : UInt8) (r : Nat) : crcTo (l ++ [c]) r = crcSteps 8 (crcTo l r ^^^ c.toNat) := by
  unfold crcTo; rw [List.foldl_append]; rfl
theorem byte_w32 (c : UInt8) : c.toNat < w32 := by have := c.toNat_lt; unfold w32; omega
theorem crcTo_lt (l : List UInt8) : ∀ r, r < w32 → crcTo l r < w32 := by
  induction l with
  | nil => intro r h; exact h
  | cons c t ih => intro r h; exact ih _ (crcSteps_lt 8 _ (xor_w32 h (byte_w32 c)))
theorem take_snoc (s : ByteArray) (k : Nat) (h : k < s.size) : s.data.toList.take (k + 1) = s.data.toList.take k ++ [s[k]] := by
  rw [List.take_succ_eq_append_getElem (by simpa using h)]; rfl
end Go.Proofs.YtbnokhdofkpcjaaGreatDoor
namespace Go.Proofs.YtbnokhdofkpcjaaGreatDoor
open Go.RowKit

def rotN (x n : Nat) : Nat := (x / 2 ^ n ||| x * 2 ^ (32 - n)) % 4294967296
def s0 (a : Nat) : Nat := rotN a 7 ^^^ rotN a 18 ^^^ a / 8
def s1 (b : Nat) : Nat := rotN b 17 ^^^ rotN b 19 ^^^ b / 1024
def wd (p : List Nat) (i : Nat) : Nat := p.getD (4 * i) 0 * 16777216 + p.getD (4 * i + 1) 0 * 65536 + p.getD (4 * i + 2) 0 * 256 + p.getD (4 * i + 3) 0
def nxt (l p : List Nat) (i : Nat) : Nat := if i < 16 then wd p i else (l.getD (i - 16) 0 + l.getD (i - 7) 0 + s0 (l.getD (i - 15) 0) + s1 (l.getD (i - 2) 0)) % 4294967296
def schedTo (p : List Nat) : Nat → List Nat
  | 0 => []
  | i + 1 => schedTo p i ++ [nxt (schedTo p i) p i]
def tOf (v : List Nat) (k w : Nat) : Nat := v.getD 7 0 + (rotN (v.getD 4 0) 6 ^^^ rotN (v.getD 4 0) 11 ^^^ rotN (v.getD 4 0) 25) + ((v.getD 4 0 &&& v.getD 5 0) ^^^ ((4294967295 - v.getD 4 0) &&& v.getD 6 0)) + k + w
def uOf (v : List Nat) : Nat := (rotN (v.getD 0 0) 2 ^^^ rotN (v.getD 0 0) 13 ^^^ rotN (v.getD 0 0) 22) + ((v.getD 0 0 &&& v.getD 1 0) ^^^ (v.getD 0 0 &&& v.getD 2 0) ^^^ (v.getD 1 0 &&& v.getD 2 0))
def rnd (v : List Nat) (k w : Nat) : List Nat :=
  [(tOf v k w + uOf v) % 4294967296, v.getD 0 0, v.getD 1 0, v.getD 2 0, (v.getD 3 0 + tOf v k w) % 4294967296, v.getD 4 0, v.getD 5 0, v.getD 6 0]
def rnds (ks ws : List Nat) (h : List Nat) : Nat → List Nat
  | 0 => h
  | i + 1 => rnd (rnds ks ws h i) (ks.getD i 0) (ws.getD i 0)
def addAll (h v : List Nat) : List Nat := (List.range 8).map fun i => (h.getD i 0 + v.getD i 0) % 4294967296
def mixN (ks h p : List Nat) : List Nat := addAll h (rnds ks (schedTo p 64) h 64)

theorem rotN_lt (x n : Nat) : rotN x n < w32 := Nat.mod_lt _ (by decide)
theorem schedTo_length (p : List Nat) : ∀ i, (schedTo p i).length = i
  | 0 => rfl
  | i + 1 => by simp [schedTo, schedTo_length p i]
theorem s0_lt (a : Nat) (h : a < w32) : s0 a < w32 := xor_w32 (xor_w32 (rotN_lt _ _) (rotN_lt _ _)) (by unfold w32 at *; omega)
theorem s1_lt (a : Nat) (h : a < w32) : s1 a < w32 := xor_w32 (xor_w32 (rotN_lt _ _) (rotN_lt _ _)) (by unfold w32 at *; omega)
theorem getD_lt {l : List Nat} {m : Nat} (h : ∀ d ∈ l, d < m) (hm : 0 < m) (i : Nat) : l.getD i 0 < m := by
  rw [List.getD_eq_getElem?_getD]
  rcases Nat.lt_or_ge i l.length with h' | h'
  · rw [List.getElem?_eq_getElem h']; exact h _ (List.getElem_mem _)
  · rw [List.getElem?_eq_none h']; exact hm
theorem wd_lt (p : List Nat) (h : ∀ d ∈ p, d < 256) (i : Nat) : wd p i < w32 := by
  have h0 := getD_lt h (by omega) (4 * i)
  have h1 := getD_lt h (by omega) (4 * i + 1)
  have h2 := getD_lt h (by omega) (4 * i + 2)
  have h3 := getD_lt h (by omega) (4 * i + 3)
  unfold wd w32
  omega
theorem nxt_lt (l p : List Nat) (h : ∀ d ∈ p, d < 256) (i : Nat) : nxt l p i < w32 := by
  unfold nxt
  split
  · exact wd_lt p h i
  · exact Nat.mod_lt _ (by decide)
theorem schedTo_lt (p : List Nat) (h : ∀ d ∈ p, d < 256) : ∀ i, ∀ d ∈ schedTo p i, d < w32
  | 0, d, hd => by cases hd
  | i + 1, d, hd => by
    unfold schedTo at hd
    rcases List.mem_append.1 hd with hd | hd
    · exact schedTo_lt p h i d hd
    · rw [List.mem_singleton] at hd
      rw [hd]; exact nxt_lt _ p h i

theorem rnd_length (v : List Nat) (k w : Nat) : (rnd v k w).length = 8 := rfl
theorem rnds_length (ks ws h : List Nat) (hl : h.length = 8) : ∀ i, (rnds ks ws h i).length = 8
  | 0 => hl
  | _ + 1 => rfl
theorem rnds_lt (ks ws h : List Nat) (hl : h.length = 8) (hw : ∀ d ∈ h, d < w32) : ∀ i, ∀ d ∈ rnds ks ws h i, d < w32
  | 0, d, hd => hw d hd
  | i + 1, d, hd => by
    have ih := rnds_lt ks ws h hl hw i
    have g := getD_lt ih (by decide)
    simp only [rnds, rnd, List.mem_cons, List.not_mem_nil, or_false] at hd
    rcases hd with rfl | rfl | rfl | rfl | rfl | rfl | rfl | rfl
    · exact Nat.mod_lt _ (by decide)
    · exact g 0
    · exact g 1
    · exact g 2
    · exact Nat.mod_lt _ (by decide)
    · exact g 4
    · exact g 5
    · exact g 6

/-- A list that is filled from the left. -/
def fill (l : List Nat) (n : Nat) : List Nat := l ++ List.replicate (n - l.length) 0
theorem fill_set (l : List Nat) (n x : Nat) (h : l.length < n) : (fill l n).set l.length x = fill (l ++ [x]) n := by
  unfold fill
  rw [List.set_append_right _ _ (Nat.le_refl _), Nat.sub_self, List.length_append, List.length_singleton]
  obtain ⟨m, hm⟩ : ∃ m, n - l.length = m + 1 := ⟨n - l.length - 1, by omega⟩
  rw [hm, show n - (l.length + 1) = m by omega, List.replicate_succ, List.set_cons_zero]
  simp
theorem fill_length (l : List Nat) (n : Nat) (h : l.length ≤ n) : (fill l n).length = n := by
  unfold fill; rw [List.length_append, List.length_replicate]; omega
theorem fill_at (l : List Nat) (n j : Nat) (h : j < l.length) (hn : l.length ≤ n) : (fill l n)[j]'(by rw [fill_length l n hn]; omega) = l[j] := by
  unfold fill; rw [List.getElem_append_left h]

/-- The state while it is shifted: behind m it is shifted already. -/
def shf (l : List Nat) (m : Nat) : List Nat := l.take (m + 1) ++ (l.drop m).take (7 - m)
theorem shf_length (v0 v1 v2 v3 v4 v5 v6 v7 : Nat) : ∀ m, m ≤ 7 → (shf [v0, v1, v2, v3, v4, v5, v6, v7] m).length = 8
  | 0, _ => rfl
  | 1, _ => rfl
  | 2, _ => rfl
  | 3, _ => rfl
  | 4, _ => rfl
  | 5, _ => rfl
  | 6, _ => rfl
  | 7, _ => rfl
theorem shf_set (v0 v1 v2 v3 v4 v5 v6 v7 : Nat) : ∀ m, 1 ≤ m → m ≤ 7 → (shf [v0, v1, v2, v3, v4, v5, v6, v7] m).set m ((shf [v0, v1, v2, v3, v4, v5, v6, v7] m).getD (m - 1) 0) = shf [v0, v1, v2, v3, v4, v5, v6, v7] (m - 1)
  | 1, _, _ => rfl
  | 2, _, _ => rfl
  | 3, _, _ => rfl
  | 4, _, _ => rfl
  | 5, _, _ => rfl
  | 6, _, _ => rfl
  | 7, _, _ => rfl
theorem addTo_set (h a : List Nat) (i : Nat) (hl : h.length = a.length) (hi : i < h.length) : (a.take i ++ h.drop i).set i a[i] = a.take (i + 1) ++ h.drop (i + 1) := by
  rw [List.set_append_right _ _ (by rw [List.length_take]; omega), List.length_take, Nat.min_eq_left (by omega), Nat.sub_self, List.drop_eq_getElem_cons hi, List.set_cons_zero]
  have e : a.take (i + 1) = a.take i ++ [a[i]] := List.take_succ_eq_append_getElem (by omega)
  rw [e, List.append_assoc]
  rfl
theorem addTo_get (h a : List Nat) (i : Nat) (hl : i ≤ a.length) : (a.take i ++ h.drop i).getD i 0 = h.getD i 0 := by
  rw [List.getD_eq_getElem?_getD, List.getD_eq_getElem?_getD, List.getElem?_append_right (by rw [List.length_take]; omega), List.length_take, Nat.min_eq_left hl, Nat.sub_self, List.getElem?_drop, Nat.add_zero]
theorem get_getD (l : List Nat) (i : Nat) (h : i < l.length) : l[i] = l.getD i 0 := by
  rw [List.getD_eq_getElem?_getD, List.getElem?_eq_getElem h]; rfl
theorem addAll_length (h v : List Nat) : (addAll h v).length = 8 := by simp [addAll]
theorem addAll_at (h v : List Nat) (i : Nat) (hi : i < 8) : (addAll h v)[i]'(by rw [addAll_length]; exact hi) = (h.getD i 0 + v.getD i 0) % 4294967296 := by simp [addAll]

/-- How many zeros a text of n bytes is padded with. -/
def zN (n : Nat) : Nat := (119 - n % 64) % 64
/-- The first j bytes of a length, the high one first. -/
def lenB (n j : Nat) : List Nat := (List.range j).map fun i => n / 2 ^ (8 * (7 - i)) % 256
def padN (l : List Nat) : List Nat := l ++ [128] ++ List.replicate (zN l.length) 0 ++ lenB (8 * l.length) 8
def blk (p : List Nat) (j : Nat) : List Nat := (p.drop (64 * j)).take 64
def mixTo (ks hs p : List Nat) : Nat → List Nat
  | 0 => hs
  | j + 1 => mixN ks (mixTo ks hs p j) (blk p j)
def four4 (n : Nat) : List UInt8 := [UInt8.ofNat (n / 16777216 % 256), UInt8.ofNat (n / 65536 % 256), UInt8.ofNat (n / 256 % 256), UInt8.ofNat (n % 256)]
def shaB (ks hs l : List Nat) : List UInt8 := (mixTo ks hs (padN l) ((padN l).length / 64)).flatMap four4

theorem lenB_succ (n j : Nat) : lenB n (j + 1) = lenB n j ++ [n / 2 ^ (8 * (7 - j)) % 256] := by
  unfold lenB; rw [List.range_succ, List.map_append]; rfl
theorem lenB_length (n j : Nat) : (lenB n j).length = j := by simp [lenB]
theorem lenB_lt (n j : Nat) : ∀ d ∈ lenB n j, d < 256 := by
  intro d hd
  unfold lenB at hd
  obtain ⟨i, _, rfl⟩ := List.mem_map.1 hd
  exact Nat.mod_lt _ (by decide)
theorem padN_length (l : List Nat) : (padN l).length = l.length + 1 + zN l.length + 8 := by
  simp [padN, lenB_length]; omega
theorem padN_64 (l : List Nat) : (padN l).length % 64 = 0 := by
  rw [padN_length]; unfold zN; omega
theorem padN_lt (l : List Nat) (h : ∀ d ∈ l, d < 256) : ∀ d ∈ padN l, d < 256 := by
  intro d hd
  unfold padN at hd
  simp only [List.append_assoc, List.mem_append, List.mem_singleton] at hd
  rcases hd with hd | hd | hd | hd
  · exact h d hd
  · omega
  · rw [List.eq_of_mem_replicate hd]; omega
  · exact lenB_lt _ _ d hd
theorem mixN_length (ks h p : List Nat) : (mixN ks h p).length = 8 := addAll_length _ _
theorem mixN_lt (ks h p : List Nat) : ∀ d ∈ mixN ks h p, d < w32 := by
  intro d hd
  unfold mixN addAll at hd
  obtain ⟨i, _, rfl⟩ := List.mem_map.1 hd
  exact Nat.mod_lt _ (by decide)
theorem mixTo_length (ks hs p : List Nat) (hl : hs.length = 8) : ∀ j, (mixTo ks hs p j).length = 8
  | 0 => hl
  | _ + 1 => mixN_length _ _ _
theorem mixTo_lt (ks hs p : List Nat) (hw : ∀ d ∈ hs, d < w32) : ∀ j, ∀ d ∈ mixTo ks hs p j, d < w32
  | 0, d, hd => hw d hd
  | _ + 1, d, hd => mixN_lt _ _ _ d hd
theorem blk_length (p : List Nat) (j : Nat) (h : 64 * (j + 1) ≤ p.length) : (blk p j).length = 64 := by
  unfold blk; rw [List.length_take, List.length_drop]; omega
theorem blk_lt (p : List Nat) (hp : ∀ d ∈ p, d < 256) (j : Nat) : ∀ d ∈ blk p j, d < 256 := fun d hd => hp d (List.mem_of_mem_drop (List.mem_of_mem_take hd))
theorem blk_at (p : List Nat) (j i : Nat) (h : 64 * (j + 1) ≤ p.length) (hi : i < 64) : (blk p j)[i]'(by rw [blk_length p j h]; exact hi) = p[64 * j + i]'(by omega) := by
  unfold blk; rw [List.getElem_take, List.getElem_drop]
end Go.Proofs.YtbnokhdofkpcjaaGreatDoor
namespace Go.Proofs.YtbnokhdofkpcjaaGreatDoor
open Go.RowKit

/-- Block b holds the ints l, and perhaps more behind them; nothing of it is frozen. -/
def Row (w : World) (b : Nat) (l : List Int) : Prop := ∃ t tail, w.heap[b]? = some (.cells (l.map (Value.int .i64) ++ tail).toArray t (0, 0))

theorem Row.lt {w : World} {b : Nat} {l : List Int} (h : Row w b l) : b < w.heap.size := by
  obtain ⟨t, tail, h⟩ := h
  exact (Array.getElem?_eq_some_iff.1 h).1

theorem Row.cell {w : World} {b : Nat} {l : List Int} (h : Row w b l) (j : Nat) (hj : j < l.length) : w.cell? ⟨b, j, none⟩ = some (.int .i64 l[j]) := by
  obtain ⟨t, tail, h⟩ := h
  simp [World.cell?, h, List.getElem?_append, hj]

theorem Row.frozen {w : World} {b : Nat} {l : List Int} (h : Row w b l) (j : Nat) : w.frozen? ⟨b, j, none⟩ = false := by
  obtain ⟨t, tail, h⟩ := h
  simp [World.frozen?, h]

theorem Row.of_heap {w w' : World} {b : Nat} {l : List Int} (h : Row w b l) (e : w'.heap[b]? = w.heap[b]?) : Row w' b l := by
  obtain ⟨t, tail, h⟩ := h
  exact ⟨t, tail, by rw [e]; exact h⟩

theorem Row.on {B : Nat} {w w' : World} {b : Nat} {l : List Int} (h : Row w b l) (hb : Below B w w') (hB : b < B) : Row w' b l := h.of_heap (hb.block b hB)

theorem Row.set {w : World} {b : Nat} {l : List Int} (h : Row w b l) (k : Nat) (hk : k < l.length) (y : Int) : Row (w.setCell ⟨b, k, none⟩ (.int .i64 y)) b (l.set k y) := by
  obtain ⟨t, tail, h⟩ := h
  refine ⟨t, tail, ?_⟩
  simp only [World.setCell, Array.getElem?_modify, ↓reduceIte, h, Option.map_some]
  simp [List.map_set, hk]

theorem Row.setOther {w : World} {b : Nat} {l : List Int} (h : Row w b l) (a : Addr) (ha : a.block ≠ b) (v : Value) : Row (w.setCell a v) b l := by
  refine h.of_heap ?_
  simp [World.setCell, Array.getElem?_modify, ha]

theorem Row.alloc {w : World} {b : Nat} {l : List Int} (h : Row w b l) (o : Obj) : Row (w.alloc o) b l := h.of_heap (Below.heap_alloc w o b h.lt)
theorem Row.new {w : World} (c : List Int) (t : TypeId) : Row (w.alloc (.cells (c.map (Value.int .i64)).toArray t)) w.heap.size c := by
  refine ⟨t, [], ?_⟩
  show (w.heap.push _)[w.heap.size]? = _
  rw [Array.getElem?_push_size, List.append_nil]
theorem Row.drewN {w : World} {b : Nat} {l : List Int} (h : Row w b l) (n : Nat) : Row (w.drewN n) b l := h
theorem Row.drew {w : World} {b : Nat} {l : List Int} (h : Row w b l) : Row w.drew b l := h

theorem below_drewN' {B : Nat} {a w : World} (h : Below B a w) (n : Nat) : Below B a (w.drewN n) := h.trans ⟨rfl, rfl, rfl, Nat.le_refl _, fun _ _ => rfl⟩
end Go.Proofs.YtbnokhdofkpcjaaGreatDoor
namespace Go.Proofs.YtbnokhdofkpcjaaGreatDoor
open Go.RowKit

theorem xor_ones (x : Nat) (h : x < 4294967296) : 4294967295 ^^^ x = 4294967295 - x := by
  have h1 : (BitVec.allOnes 32 ^^^ BitVec.ofNat 32 x).toNat = (~~~ BitVec.ofNat 32 x).toNat := by rw [BitVec.allOnes_xor]
  rw [BitVec.toNat_xor, BitVec.toNat_not, BitVec.toNat_allOnes, BitVec.toNat_ofNat, Nat.mod_eq_of_lt h] at h1
  exact h1
theorem u32_not (x : Nat) (h : x < 4294967296) : bits .xor .u32 IntKind.u32.max (x : Int) = ((4294967295 - x : Nat) : Int) := by
  have e : IntKind.u32.max = ((4294967295 : Nat) : Int) := by decide +kernel
  rw [e, u32_xor_nat _ _ (by decide) h, xor_ones x h]

theorem rot_val (x n m : Nat) (hx : x < 4294967296) (hm : m = 32 - n) : bits .or .u32 ((x : Int) * 2 ^ m % 4294967296) ((x : Int) / 2 ^ n) = (rotN x n : Int) := by
  have e1 : (x : Int) / 2 ^ n = ((x / 2 ^ n : Nat) : Int) := by rw [Int.natCast_ediv, Int.natCast_pow]; rfl
  have e2 : (x : Int) * 2 ^ m % 4294967296 = ((x * 2 ^ m % 4294967296 : Nat) : Int) := by rw [Int.natCast_emod, Int.natCast_mul, Int.natCast_pow]; rfl
  have hd : x / 2 ^ n ≤ x := Nat.div_le_self _ _
  rw [e1, e2, u32_or_nat _ _ (Nat.mod_lt _ (by decide)) (by omega), hm]
  congr 1
  unfold rotN
  rw [show (4294967296 : Nat) = 2 ^ 32 by decide, Nat.or_mod_two_pow, Nat.or_comm]
  congr 1
  exact (Nat.mod_eq_of_lt (Nat.lt_of_le_of_lt hd hx)).symm

set_option maxRecDepth 100000 in
theorem rot_any (x n m : Nat) (c : Int) (w : World) (hx : (x : Int) ≤ 4294967295) (hb : bits .and .u64 (IntKind.u64.wrap c) 31 = (m : Int)) (h1 : 2 ≤ n) (h2 : n ≤ 30) (hm : m = 32 - n) :
    Calls Tryz.prog 280 #[.int .u32 (x : Int), .int .i64 c] w fun e w' => e = .returned (.int .u32 (rotN x n : Int)) ∧ w = w' := by
  have hv := rot_val x n m (by omega) hm
  have hn : (32 : Int) - (m : Int) = (n : Int) := by omega
  have hm2 : 2 ≤ m := by omega
  have hm3 : m ≤ 30 := by omega
  clear hm
  go_enter Tryz.func280, Tryz.ntmps280
  go_wp2
  go_ret
  exact ⟨rfl, rfl⟩
end Go.Proofs.YtbnokhdofkpcjaaGreatDoor
namespace Go.Proofs.YtbnokhdofkpcjaaGreatDoor
open Go.RowKit

def u32s (l : List Nat) : Array Value := (l.map fun x : Nat => Value.int .u32 (x : Int)).toArray
/-- One round, at the sum of the word and the constant. -/
def rndW (v : List Nat) (x : Nat) : List Nat := rnd v x 0

theorem heap_two_drewN (w : World) (A B : Obj) (n : Nat) : (((w.alloc A).alloc B).drewN n).heap[w.heap.size + 1]? = some B := heap_alloc2_new w A B

set_option maxRecDepth 100000 in
set_option maxHeartbeats 4000000 in
theorem round_any (v0 v1 v2 v3 v4 v5 v6 v7 x : Nat) (w : World) (b0 : (v0 : Int) ≤ 4294967295) (b1 : (v1 : Int) ≤ 4294967295) (b2 : (v2 : Int) ≤ 4294967295) (b4 : (v4 : Int) ≤ 4294967295) (b5 : (v5 : Int) ≤ 4294967295) (b6 : (v6 : Int) ≤ 4294967295) :
    Calls Tryz.prog 252 #[.agg #[.int .u32 (v0 : Int), .int .u32 (v1 : Int), .int .u32 (v2 : Int), .int .u32 (v3 : Int), .int .u32 (v4 : Int), .int .u32 (v5 : Int), .int .u32 (v6 : Int), .int .u32 (v7 : Int)], .int .u32 (x : Int)] w fun e w' =>
      e = .returned (.agg (u32s (rndW [v0, v1, v2, v3, v4, v5, v6, v7] x))) ∧ Below w.heap.size w w' := by
  go_enter Tryz.func252, Tryz.ntmps252
  go_wp2
  go_quiet (fail)
  go_wp2_with fail
  refine (rot_any v4 6 26 (-6) _ b4 (by decide +kernel) (by omega) (by omega) rfl).mono ?_
  rintro e w' ⟨rfl, rfl⟩
  obtain ⟨e6, he6⟩ : ∃ a, a = rotN v4 6 := ⟨_, rfl⟩
  rw [← he6]
  have be6 : (e6 : Int) ≤ 4294967295 := by have := rotN_lt v4 6; rw [← he6] at this; unfold w32 at this; omega
  have He6 : Hid (e6 = rotN v4 6) := he6
  clear he6
  go_wp2_with fail
  refine (rot_any v4 11 21 (-11) _ b4 (by decide +kernel) (by omega) (by omega) rfl).mono ?_
  rintro e w' ⟨rfl, rfl⟩
  obtain ⟨e11, he11⟩ : ∃ a, a = rotN v4 11 := ⟨_, rfl⟩
  rw [← he11]
  have be11 : (e11 : Int) ≤ 4294967295 := by have := rotN_lt v4 11; rw [← he11] at this; unfold w32 at this; omega
  have He11 : Hid (e11 = rotN v4 11) := he11
  clear he11
  go_wp2_with fail
  refine (rot_any v4 25 7 (-25) _ b4 (by decide +kernel) (by omega) (by omega) rfl).mono ?_
  rintro e w' ⟨rfl, rfl⟩
  obtain ⟨e25, he25⟩ : ∃ a, a = rotN v4 25 := ⟨_, rfl⟩
  rw [← he25]
  have be25 : (e25 : Int) ≤ 4294967295 := by have := rotN_lt v4 25; rw [← he25] at this; unfold w32 at this; omega
  have He25 : Hid (e25 = rotN v4 25) := he25
  clear he25
  obtain ⟨s1, hs1⟩ : ∃ y, y = e6 ^^^ e11 := ⟨_, rfl⟩
  obtain ⟨s2, hs2⟩ : ∃ y, y = s1 ^^^ e25 := ⟨_, rfl⟩
  have ls1 : s1 < w32 := by rw [hs1]; exact xor_w32 (by unfold w32; omega) (by unfold w32; omega)
  have ls2 : s2 < w32 := by rw [hs2]; exact xor_w32 ls1 (by unfold w32; omega)
  unfold w32 at ls1 ls2
  have ns1 : bits .xor .u32 (e6 : Int) (e11 : Int) = (s1 : Int) := by rw [hs1]; exact u32_xor_nat _ _ (by omega) (by omega)
  have ns2 : bits .xor .u32 (s1 : Int) (e25 : Int) = (s2 : Int) := by rw [hs2]; exact u32_xor_nat _ _ (by omega) (by omega)
  have us2 : (s2 : Int) ≤ 4294967295 := by omega
  have HS : Hid (s2 = e6 ^^^ e11 ^^^ e25) := by show _ = _; rw [hs2, hs1]
  clear hs1 hs2 ls1 ls2
  go_wp2_with fail
  refine (rot_any v0 2 30 (-2) _ b0 (by decide +kernel) (by omega) (by omega) rfl).mono ?_
  rintro e w' ⟨rfl, rfl⟩
  obtain ⟨a2, ha2⟩ : ∃ a, a = rotN v0 2 := ⟨_, rfl⟩
  rw [← ha2]
  have ba2 : (a2 : Int) ≤ 4294967295 := by have := rotN_lt v0 2; rw [← ha2] at this; unfold w32 at this; omega
  have Ha2 : Hid (a2 = rotN v0 2) := ha2
  clear ha2
  go_wp2_with fail
  refine (rot_any v0 13 19 (-13) _ b0 (by decide +kernel) (by omega) (by omega) rfl).mono ?_
  rintro e w' ⟨rfl, rfl⟩
  obtain ⟨a13, ha13⟩ : ∃ a, a = rotN v0 13 := ⟨_, rfl⟩
  rw [← ha13]
  have ba13 : (a13 : Int) ≤ 4294967295 := by have := rotN_lt v0 13; rw [← ha13] at this; unfold w32 at this; omega
  have Ha13 : Hid (a13 = rotN v0 13) := ha13
  clear ha13
  go_wp2_with fail
  refine (rot_any v0 22 10 (-22) _ b0 (by decide +kernel) (by omega) (by omega) rfl).mono ?_
  rintro e w' ⟨rfl, rfl⟩
  obtain ⟨a22, ha22⟩ : ∃ a, a = rotN v0 22 := ⟨_, rfl⟩
  rw [← ha22]
  have ba22 : (a22 : Int) ≤ 4294967295 := by have := rotN_lt v0 22; rw [← ha22] at this; unfold w32 at this; omega
  have Ha22 : Hid (a22 = rotN v0 22) := ha22
  clear ha22
  obtain ⟨z1, hz1⟩ : ∃ y, y = a2 ^^^ a13 := ⟨_, rfl⟩
  obtain ⟨z2, hz2⟩ : ∃ y, y = z1 ^^^ a22 := ⟨_, rfl⟩
  have lz1 : z1 < w32 := by rw [hz1]; exact xor_w32 (by unfold w32; omega) (by unfold w32; omega)
  have lz2 : z2 < w32 := by rw [hz2]; exact xor_w32 lz1 (by unfold w32; omega)
  unfold w32 at lz1 lz2
  have nz1 : bits .xor .u32 (a2 : Int) (a13 : Int) = (z1 : Int) := by rw [hz1]; exact u32_xor_nat _ _ (by omega) (by omega)
  have nz2 : bits .xor .u32 (z1 : Int) (a22 : Int) = (z2 : Int) := by rw [hz2]; exact u32_xor_nat _ _ (by omega) (by omega)
  have uz2 : (z2 : Int) ≤ 4294967295 := by omega
  have HZ : Hid (z2 = a2 ^^^ a13 ^^^ a22) := by show _ = _; rw [hz2, hz1]
  clear hz1 hz2 lz1 lz2
  obtain ⟨c1, hc1⟩ : ∃ y, y = v4 &&& v5 := ⟨_, rfl⟩
  obtain ⟨ne, hne⟩ : ∃ y, y = 4294967295 - v4 := ⟨_, rfl⟩
  obtain ⟨c2, hc2⟩ : ∃ y, y = ne &&& v6 := ⟨_, rfl⟩
  obtain ⟨c3, hc3⟩ : ∃ y, y = c1 ^^^ c2 := ⟨_, rfl⟩
  have lc1 : c1 < w32 := by rw [hc1]; exact and_w32 (by unfold w32; omega)
  have lc2 : c2 < w32 := by rw [hc2]; exact and_w32 (by unfold w32; omega)
  have lc3 : c3 < w32 := by rw [hc3]; exact xor_w32 lc1 lc2
  unfold w32 at lc1 lc2 lc3
  have nc1 : bits .and .u32 (v4 : Int) (v5 : Int) = (c1 : Int) := by rw [hc1]; exact u32_and_nat _ _ (by omega) (by omega)
  have nne : bits .xor .u32 IntKind.u32.max (v4 : Int) = (ne : Int) := by rw [hne]; exact u32_not _ (by omega)
  have nc2 : bits .and .u32 (ne : Int) (v6 : Int) = (c2 : Int) := by rw [hc2]; exact u32_and_nat _ _ (by omega) (by omega)
  have nc3 : bits .xor .u32 (c1 : Int) (c2 : Int) = (c3 : Int) := by rw [hc3]; exact u32_xor_nat _ _ (by omega) (by omega)
  have uc3 : (c3 : Int) ≤ 4294967295 := by omega
  have HC : Hid (c3 = (v4 &&& v5) ^^^ ((4294967295 - v4) &&& v6)) := by show _ = _; rw [hc3, hc1, hc2, hne]
  clear hc1 hne hc2 hc3 lc1 lc2 lc3
  obtain ⟨m1, hm1⟩ : ∃ y, y = v0 &&& v1 := ⟨_, rfl⟩
  obtain ⟨m2, hm2⟩ : ∃ y, y = v0 &&& v2 := ⟨_, rfl⟩
  obtain ⟨m3, hm3⟩ : ∃ y, y = m1 ^^^ m2 := ⟨_, rfl⟩
  obtain ⟨m4, hm4⟩ : ∃ y, y = v1 &&& v2 := ⟨_, rfl⟩
  obtain ⟨m5, hm5⟩ : ∃ y, y = m3 ^^^ m4 := ⟨_, rfl⟩
  have lm1 : m1 < w32 := by rw [hm1]; exact and_w32 (by unfold w32; omega)
  have lm2 : m2 < w32 := by rw [hm2]; exact and_w32 (by unfold w32; omega)
  have lm3 : m3 < w32 := by rw [hm3]; exact xor_w32 lm1 lm2
  have lm4 : m4 < w32 := by rw [hm4]; exact and_w32 (by unfold w32; omega)
  have lm5 : m5 < w32 := by rw [hm5]; exact xor_w32 lm3 lm4
  unfold w32 at lm1 lm2 lm3 lm4 lm5
  have nm1 : bits .and .u32 (v0 : Int) (v1 : Int) = (m1 : Int) := by rw [hm1]; exact u32_and_nat _ _ (by omega) (by omega)
  have nm2 : bits .and .u32 (v0 : Int) (v2 : Int) = (m2 : Int) := by rw [hm2]; exact u32_and_nat _ _ (by omega) (by omega)
  have nm3 : bits .xor .u32 (m1 : Int) (m2 : Int) = (m3 : Int) := by rw [hm3]; exact u32_xor_nat _ _ (by omega) (by omega)
  have nm4 : bits .and .u32 (v1 : Int) (v2 : Int) = (m4 : Int) := by rw [hm4]; exact u32_and_nat _ _ (by omega) (by omega)
  have nm5 : bits .xor .u32 (m3 : Int) (m4 : Int) = (m5 : Int) := by rw [hm5]; exact u32_xor_nat _ _ (by omega) (by omega)
  have um5 : (m5 : Int) ≤ 4294967295 := by omega
  have HM : Hid (m5 = (v0 &&& v1) ^^^ (v0 &&& v2) ^^^ (v1 &&& v2)) := by show _ = _; rw [hm5, hm3, hm1, hm2, hm4]
  clear hm1 hm2 hm3 hm4 hm5 lm1 lm2 lm3 lm4 lm5
  go_wp2
  have eT : tOf [v0, v1, v2, v3, v4, v5, v6, v7] x 0 = v7 + s2 + c3 + x := by rw [HS.out, HC.out, He6.out, He11.out, He25.out]; rfl
  have eU : uOf [v0, v1, v2, v3, v4, v5, v6, v7] = z2 + m5 := by rw [HZ.out, HM.out, Ha2.out, Ha13.out, Ha22.out]; rfl
  have e0 : (((tOf [v0, v1, v2, v3, v4, v5, v6, v7] x 0 + uOf [v0, v1, v2, v3, v4, v5, v6, v7]) % 4294967296 : Nat) : Int) = ((v7 : Int) + s2 + c3 + x + z2 + m5) % 4294967296 := by rw [eT, eU]; omega
  have e4 : (((v3 + tOf [v0, v1, v2, v3, v4, v5, v6, v7] x 0) % 4294967296 : Nat) : Int) = ((v3 : Int) + (v7 + s2 + c3 + x)) % 4294967296 := by rw [eT]; omega
  refine bodyPost_ret (v := .agg (u32s (rndW [v0, v1, v2, v3, v4, v5, v6, v7] x))) ?_ rfl ⟨rfl, ?_⟩
  · refine results_cell_row (p := 4) (ty := 305) rfl _ _ (w.heap.size + 1) 305 _ (0, 0) _ rfl ?_ Tryz.underlying305 rfl (by kernel_rfl)
    have h0 := heap_two_drewN w (.cells #[.int .u32 (v0 : Int), .int .u32 (v1 : Int), .int .u32 (v2 : Int), .int .u32 (v3 : Int), .int .u32 (v4 : Int), .int .u32 (v5 : Int), .int .u32 (v6 : Int), .int .u32 (v7 : Int)] 305) (.cells #[.int .u32 0, .int .u32 0, .int .u32 0, .int .u32 0, .int .u32 0, .int .u32 0, .int .u32 0, .int .u32 0] 305) nq
    have h1 := fun (a b c d e f g h : Value) => heap_setCell_same _ (w.heap.size + 1) 7 _ _ h (heap_setCell_same _ (w.heap.size + 1) 6 _ _ g (heap_setCell_same _ (w.heap.size + 1) 5 _ _ f (heap_setCell_same _ (w.heap.size + 1) 4 _ _ e (heap_setCell_same _ (w.heap.size + 1) 3 _ _ d (heap_setCell_same _ (w.heap.size + 1) 2 _ _ c (heap_setCell_same _ (w.heap.size + 1) 1 _ _ b (heap_setCell_same _ (w.heap.size + 1) 0 _ _ a h0)))))))
    have hL : u32s (rndW [v0, v1, v2, v3, v4, v5, v6, v7] x) = #[.int .u32 (((v7 : Int) + s2 + c3 + x + z2 + m5) % 4294967296), .int .u32 (v0 : Int), .int .u32 (v1 : Int), .int .u32 (v2 : Int), .int .u32 (((v3 : Int) + (v7 + s2 + c3 + x)) % 4294967296), .int .u32 (v4 : Int), .int .u32 (v5 : Int), .int .u32 (v6 : Int)] := by
      rw [← e0, ← e4]
      rfl
    rw [hL]
    exact h1 _ _ _ _ _ _ _ _
  · refine Below.setCell ?_ (by show _ ≤ w.heap.size + 1; omega) _
    refine Below.setCell ?_ (by show _ ≤ w.heap.size + 1; omega) _
    refine Below.setCell ?_ (by show _ ≤ w.heap.size + 1; omega) _
    refine Below.setCell ?_ (by show _ ≤ w.heap.size + 1; omega) _
    refine Below.setCell ?_ (by show _ ≤ w.heap.size + 1; omega) _
    refine Below.setCell ?_ (by show _ ≤ w.heap.size + 1; omega) _
    refine Below.setCell ?_ (by show _ ≤ w.heap.size + 1; omega) _
    refine Below.setCell ?_ (by show _ ≤ w.heap.size + 1; omega) _
    exact below_drewN' (((Below.refl _ _).alloc (Nat.le_refl _) _).alloc (by simp) _) nq
end Go.Proofs.YtbnokhdofkpcjaaGreatDoor
namespace Go.Proofs.YtbnokhdofkpcjaaGreatDoor

/-- The number that digits tell, the lowest first. -/
def dv : List Nat → Nat
  | [] => 0
  | d :: r => d + 65536 * dv r

theorem dv_append (l m : List Nat) : dv (l ++ m) = dv l + 65536 ^ l.length * dv m := by
  induction l with
  | nil => simp [dv]
  | cons d r ih => simp only [List.cons_append, dv, ih, List.length_cons, Nat.pow_succ]; grind

theorem dv_set (l : List Nat) : ∀ (k y : Nat) (h : k < l.length), dv (l.set k y) + l[k] * 65536 ^ k = dv l + y * 65536 ^ k := by
  induction l with
  | nil => intro k y h; simp at h
  | cons d r ih =>
    intro k y h
    cases k with
    | zero => simp [dv]; omega
    | succ k =>
      have := ih k y (by simpa using h)
      simp only [List.set_cons_succ, dv, List.getElem_cons_succ, Nat.pow_succ]
      grind

theorem dv_ge (l : List Nat) : ∀ (k : Nat) (h : k < l.length), l[k] * 65536 ^ k ≤ dv l := by
  induction l with
  | nil => intro k h; simp at h
  | cons d r ih =>
    intro k h
    cases k with
    | zero => simp [dv]
    | succ k =>
      have := ih k (by simpa using h)
      simp only [dv, List.getElem_cons_succ, Nat.pow_succ]
      grind

theorem dv_lt (l : List Nat) (h : ∀ d ∈ l, d < 65536) : dv l < 65536 ^ l.length := by
  induction l with
  | nil => simp [dv]
  | cons d r ih =>
    have h1 := h d (by simp)
    have h2 := ih (fun x hx => h x (by simp [hx]))
    simp only [dv, List.length_cons, Nat.pow_succ]
    omega

theorem dv_replicate (n : Nat) : dv (List.replicate n 0) = 0 := by
  induction n with
  | zero => rfl
  | succ n ih => simp [List.replicate_succ, dv, ih]

theorem dv_take_succ (l : List Nat) (i : Nat) (h : i < l.length) : dv (l.take (i + 1)) = dv (l.take i) + l[i] * 65536 ^ i := by
  rw [List.take_succ_eq_append_getElem h, dv_append]
  simp only [dv, List.length_take, Nat.min_eq_left (Nat.le_of_lt h)]
  grind

theorem dv_take_le (l : List Nat) (i : Nat) : dv (l.take i) ≤ dv l := by
  have := dv_append (l.take i) (l.drop i)
  rw [List.take_append_drop] at this
  omega

/-- What has been added up when the product stands at (i, j). -/
def part (a b : List Nat) (i j : Nat) : Nat := dv (a.take i) * dv b + a.getD i 0 * 65536 ^ i * dv (b.take j)

theorem part_step (a b : List Nat) (i j : Nat) (hj : j < b.length) : part a b i (j + 1) = part a b i j + a.getD i 0 * b[j] * 65536 ^ (i + j) := by
  unfold part
  rw [dv_take_succ b j hj, Nat.pow_add]
  grind

theorem part_row (a b : List Nat) (i : Nat) (hi : i < a.length) : part a b i b.length = part a b (i + 1) 0 := by
  unfold part
  rw [List.take_length, dv_take_succ a i hi]
  have e : a.getD i 0 = a[i] := by simp [List.getD, List.getElem?_eq_getElem hi]
  rw [e]
  simp only [List.take_zero, dv]
  grind

theorem part_lt (a b : List Nat) (ha : ∀ d ∈ a, d < 65536) (hb : ∀ d ∈ b, d < 65536) (i j : Nat) (hi : i < a.length) : part a b i j < 65536 ^ (a.length + b.length) := by
  have h1 : part a b i j ≤ dv (a.take (i + 1)) * dv b := by
    unfold part
    rw [dv_take_succ a i hi]
    have e : a.getD i 0 = a[i] := by simp [List.getD, List.getElem?_eq_getElem hi]
    rw [e, Nat.add_mul]
    exact Nat.add_le_add_left (Nat.mul_le_mul_left _ (dv_take_le b j)) _
  have h2 : dv (a.take (i + 1)) * dv b ≤ dv a * dv b := Nat.mul_le_mul_right _ (dv_take_le a (i + 1))
  have h3 := dv_lt a ha
  have h4 := dv_lt b hb
  rw [Nat.pow_add]
  rcases Nat.eq_zero_or_pos (dv b) with h0 | h0
  · rw [h0] at h1 h2
    have : 0 < 65536 ^ a.length * 65536 ^ b.length := Nat.mul_pos (Nat.pos_of_ne_zero (by simp)) (Nat.pos_of_ne_zero (by simp))
    omega
  · exact Nat.lt_of_le_of_lt (Nat.le_trans h1 h2) (Nat.lt_of_lt_of_le (Nat.mul_lt_mul_of_pos_right h3 h0) (Nat.mul_le_mul_left _ (Nat.le_of_lt h4)))

/-- A carry is never out of the list. -/
theorem carry_in (c : List Nat) (k T : Nat) (hk : k < c.length) (hT : dv c = T) (hlt : T < 65536 ^ c.length) (hc : 65536 ≤ c[k]) : k + 1 < c.length := by
  rcases Nat.lt_or_ge (k + 1) c.length with h | h
  · exact h
  · have e : c.length = k + 1 := by omega
    have := dv_ge c k hk
    rw [e, Nat.pow_succ] at hlt
    have h5 : 65536 * 65536 ^ k ≤ c[k] * 65536 ^ k := Nat.mul_le_mul_right _ hc
    rw [Nat.mul_comm] at hlt
    omega

/-- One carry leaves the number as it was. -/
theorem carry_same (c : List Nat) (k : Nat) (hk : k + 1 < c.length) :
    dv ((c.set (k + 1) (c[k + 1] + c[k] / 65536)).set k (c[k] % 65536)) = dv c := by
  have h1 := dv_set c (k + 1) (c[k + 1] + c[k] / 65536) hk
  have h2 := dv_set (c.set (k + 1) (c[k + 1] + c[k] / 65536)) k (c[k] % 65536) (by simp; omega)
  have e : (c.set (k + 1) (c[k + 1] + c[k] / 65536))[k]'(by simp; omega) = c[k] := by
    rw [List.getElem_set_ne (by omega)]
  rw [e] at h2
  have hm := Nat.div_add_mod c[k] 65536
  rw [Nat.pow_succ] at h1
  generalize dv (c.set (k + 1) (c[k + 1] + c[k] / 65536)) = X at h1 h2
  generalize dv ((c.set (k + 1) (c[k + 1] + c[k] / 65536)).set k (c[k] % 65536)) = Y at h2 ⊢
  generalize c[k] / 65536 = q at *
  generalize c[k] % 65536 = r at *
  generalize c[k + 1] = z at *
  generalize c[k] = u at *
  generalize 65536 ^ k = p at *
  subst hm
  grind

theorem dv_drop (c : List Nat) (m : Nat) (h : m < c.length) : dv (c.drop m) = c[m] + 65536 * dv (c.drop (m + 1)) := by
  rw [List.drop_eq_getElem_cons h]
  rfl

theorem dv_drop_lt (c : List Nat) (hd : ∀ d ∈ c, d < 65536) (m : Nat) (h : c.length - m ≤ 2) : dv (c.drop m) < 4294967296 := by
  have h1 := dv_lt (c.drop m) (fun d hx => hd d (List.mem_of_mem_drop hx))
  rw [List.length_drop] at h1
  have h2 : 65536 ^ (c.length - m) ≤ 65536 ^ 2 := Nat.pow_le_pow_right (by decide) h
  have h3 : 65536 ^ 2 = 4294967296 := by decide
  omega

theorem sum_drop (c : List Nat) (pt m : Nat) (h : m < pt) (hp : pt ≤ c.length) : ((c.take pt).drop m).sum = c[m] + ((c.take pt).drop (m + 1)).sum := by
  rw [List.drop_eq_getElem_cons (by rw [List.length_take]; omega), List.sum_cons, List.getElem_take]

theorem sum_lt (l : List Nat) (hd : ∀ d ∈ l, d < 65536) : l.sum ≤ 65535 * l.length := by
  induction l with
  | nil => simp
  | cons d r ih =>
    have h1 := hd d (by simp)
    have h2 := ih (fun x hx => hd x (by simp [hx]))
    simp only [List.sum_cons, List.length_cons]
    omega

theorem sum_drop_lt (c : List Nat) (hd : ∀ d ∈ c, d < 65536) (pt m : Nat) (hp : pt ≤ 6) : ((c.take pt).drop m).sum ≤ 393210 := by
  have h1 := sum_lt ((c.take pt).drop m) (fun d hx => hd d (List.mem_of_mem_take (List.mem_of_mem_drop hx)))
  have h2 : ((c.take pt).drop m).length ≤ 6 := by rw [List.length_drop, List.length_take]; omega
  have h3 := Nat.mul_le_mul_left 65535 h2
  omega

theorem dv_zero (l : List Nat) : dv l = 0 ↔ l.sum = 0 := by
  induction l with
  | nil => simp [dv]
  | cons d r ih => simp only [dv, List.sum_cons]; omega

/-- What the last line of 'below' asks. -/
theorem below_iff (c : List Nat) (pt p : Nat) (hd : ∀ d ∈ c, d < 65536) (hp : pt ≤ c.length) :
    (dv (c.drop pt) < p ∨ dv (c.drop pt) = p ∧ (c.take pt).sum = 0) ↔ dv c ≤ p * 65536 ^ pt := by
  have h1 := dv_append (c.take pt) (c.drop pt)
  rw [List.take_append_drop, List.length_take, Nat.min_eq_left hp] at h1
  have h2 := dv_lt (c.take pt) (fun d hx => hd d (List.mem_of_mem_take hx))
  rw [List.length_take, Nat.min_eq_left hp] at h2
  have h3 := dv_zero (c.take pt)
  generalize dv (c.take pt) = x at *
  generalize (c.take pt).sum = s at *
  generalize dv (c.drop pt) = n at *
  generalize hq : 65536 ^ pt = q at *
  have hq0 : 0 < q := by omega
  rw [h1, Nat.mul_comm q n]
  constructor
  · rintro (h | ⟨h, hs⟩)
    · have : (n + 1) * q ≤ p * q := Nat.mul_le_mul_right q h
      rw [Nat.add_mul, Nat.one_mul] at this
      omega
    · have : x = 0 := h3.2 hs
      rw [h, this]
      omega
  · intro h
    rcases Nat.lt_trichotomy n p with h' | h' | h'
    · exact .inl h'
    · refine .inr ⟨h', h3.1 ?_⟩
      subst h'
      omega
    · exfalso
      have : (p + 1) * q ≤ n * q := Nat.mul_le_mul_right q h'
      rw [Nat.add_mul, Nat.one_mul] at this
      omega

theorem dv3 (t whole : Nat) : dv [t % 65536, t / 65536, whole] = whole * 4294967296 + t := by
  simp only [dv]
  omega
end Go.Proofs.YtbnokhdofkpcjaaGreatDoor
namespace Go.Proofs.YtbnokhdofkpcjaaGreatDoor
open Go.RowKit

/-- Digits as ints. -/
def ints (l : List Nat) : List Int := l.map (fun x : Nat => (x : Int))
theorem ints_length (l : List Nat) : (ints l).length = l.length := by simp [ints]
theorem ints_at (l : List Nat) (j : Nat) (h : j < l.length) : (ints l)[j]'(by rw [ints_length]; exact h) = (l[j] : Int) := by simp [ints]
theorem ints_set (l : List Nat) (k y : Nat) : (ints l).set k (y : Int) = ints (l.set k y) := by simp [ints, List.map_set]
theorem row_at {w : World} {b : Nat} {l : List Nat} (h : Row w b (ints l)) (j : Nat) (hj : j < l.length) : w.cell? ⟨b, j, none⟩ = some (.int .i64 (l[j] : Int)) := by
  have := h.cell j (by rw [ints_length]; exact hj)
  rw [ints_at l j hj] at this
  exact this
theorem row_set {w : World} {b : Nat} {l : List Nat} (h : Row w b (ints l)) (k : Nat) (hk : k < l.length) (y : Nat) : Row (w.setCell ⟨b, k, none⟩ (.int .i64 (y : Int))) b (ints (l.set k y)) := by
  have := h.set k (by rw [ints_length]; exact hk) (y : Int)
  rw [ints_set] at this
  exact this

theorem infoInt : (Tryz.prog.info? 3).map (fun i => (i.zero, i.size, i.bytes)) = some (some (.int .i64 0), 1, 8) := by kernel_rfl

theorem row_made (w : World) (n : Nat) (t : TypeId) : Row (w.alloc (.cells (madeCells #[.int .i64 0] n) t)) w.heap.size (ints (List.replicate n 0)) := by
  refine ⟨t, [], ?_⟩
  show (w.heap.push _)[w.heap.size]? = _
  rw [Array.getElem?_push_size, List.append_nil]
  have : madeCells #[.int .i64 0] n = ((ints (List.replicate n 0)).map (Value.int .i64)).toArray := by
    apply Array.toList_inj.1
    rw [toList_madeCells_one]
    simp [ints]
  rw [this]

set_option maxRecDepth 100000 in
set_option maxHeartbeats 1000000 in
theorem times_any (ba bb ca cb la lb : Nat) (a b : List Nat) (w : World) (ra : Row w ba (ints a)) (rb : Row w bb (ints b)) (ha : ∀ d ∈ a, d < 65536) (hb : ∀ d ∈ b, d < 65536) (ea : Hid (a.length = la)) (eb : Hid (b.length = lb)) (hla : la ≤ 6) (hlb : lb ≤ 6) :
    Calls Tryz.prog 250 #[.slice (some ⟨ba, 0, none⟩) la ca, .slice (some ⟨bb, 0, none⟩) lb cb] w fun e w' =>
      ∃ c : List Nat, c.length = la + lb ∧ (∀ d ∈ c, d < 65536) ∧ dv c = dv a * dv b ∧
        e = .returned (.slice (some ⟨w.heap.size, 0, none⟩) (la + lb) (la + lb)) ∧ Row w' w.heap.size (ints c) ∧ Below w.heap.size w w' := by
  have hmk : ∀ w, (Instr.makeSlice 34 (.int .i64 ((la : Int) + (lb : Int))) (.int .i64 ((la : Int) + (lb : Int)))).run Tryz.prog w = .ok (.slice (some ⟨w.heap.size, 0, none⟩) (la + lb) (la + lb)) (w.alloc (.cells (madeCells #[.int .i64 0] (la + lb)) 3)) := fun w => by
    have := run_make_row' (P := Tryz.prog) 34 3 (.int .i64 0) 8 Tryz.underlying34 infoInt rfl .i64 .i64 (la + lb) (by omega) (by omega) w
    rwa [Int.natCast_add] at this
  have hB1 := ra.lt
  have hB2 := rb.lt
  go_enter Tryz.func250, Tryz.ntmps250
  go_wp2
  clear hmk
  go_loopw [6] (fun v wr => ∃ (i : Nat) (c : List Nat), i ≤ la ∧ v = .int .i64 i ∧ Hid (c.length = la + lb) ∧ (∀ d ∈ c, d < 65536) ∧ Hid (dv c = part a b i 0) ∧ Row wr w.heap.size (ints c) ∧ Below w.heap.size w wr) (fun v _ => la - (intOf v).toNat)
  case atStart =>
    refine ⟨0, List.replicate (la + lb) 0, by omega, rfl, List.length_replicate .., ?_, ?_, row_made _ _ _, (Below.refl _ _).alloc (Nat.le_refl _) _⟩
    · intro d hd; rw [List.eq_of_mem_replicate hd]; omega
    · show dv _ = _; rw [dv_replicate]; simp [part, dv]
  case round =>
    obtain ⟨i, c, hi, rfl, hc, hd, hv, hr, hbl⟩ := hrel
    by_cases hlt : i < la
    · go_wp2
      go_loopw [7] (fun v wr => ∃ (j : Nat) (c : List Nat), j ≤ lb ∧ v = .int .i64 j ∧ Hid (c.length = la + lb) ∧ (∀ d ∈ c, d < 65536) ∧ Hid (dv c = part a b i j) ∧ Row wr w.heap.size (ints c) ∧ Below w.heap.size w wr) (fun v _ => lb - (intOf v).toNat)
      case atStart => exact ⟨0, c, Nat.zero_le _, rfl, hc, hd, hv, hr, hbl⟩
      case round =>
        clear hc hd hv hr hbl c
        obtain ⟨j, c, hj, rfl, hc, hd, hv, hr, hbl⟩ := hrel
        by_cases hlj : j < lb
        · have hai : i < a.length := by have := ea.out; omega
          have hbj : j < b.length := by have := eb.out; omega
          have hck : i + j < c.length := by have := hc.out; omega
          obtain ⟨x, hx⟩ : ∃ x, x = a[i] := ⟨_, rfl⟩
          obtain ⟨y, hy⟩ : ∃ y, y = b[j] := ⟨_, rfl⟩
          obtain ⟨z, hz⟩ : ∃ z, z = c[i + j] := ⟨_, rfl⟩
          have hx1 : x < 65536 := by rw [hx]; exact ha _ (List.getElem_mem _)
          have hy1 : y < 65536 := by rw [hy]; exact hb _ (List.getElem_mem _)
          have hz1 : z < 65536 := by rw [hz]; exact hd _ (List.getElem_mem _)
          have cx : wr.cell? ⟨ba, i, none⟩ = some (.int .i64 (x : Int)) := by rw [hx]; exact row_at (ra.on hbl hB1) i hai
          have cy : wr.cell? ⟨bb, j, none⟩ = some (.int .i64 (y : Int)) := by rw [hy]; exact row_at (rb.on hbl hB2) j hbj
          have cz : wr.cell? ⟨w.heap.size, i + j, none⟩ = some (.int .i64 (z : Int)) := by rw [hz]; exact row_at hr (i + j) hck
          have fz : wr.frozen? ⟨w.heap.size, i + j, none⟩ = false := hr.frozen _
          have HX : Hid (x = a[i]) := hx
          have HY : Hid (y = b[j]) := hy
          have HZ : Hid (z = c[i + j]) := hz
          clear hx hy hz
          have hxy : x * y ≤ 4294836225 := Nat.le_trans (Nat.mul_le_mul (Nat.le_of_lt_succ hx1) (Nat.le_of_lt_succ hy1)) (by decide)
          have hxyi : (x : Int) * (y : Int) ≤ 4294836225 := by
            have h : ((x * y : Nat) : Int) ≤ 4294836225 := by omega
            rwa [Int.natCast_mul] at h
          have hxy0 : 0 ≤ (x : Int) * (y : Int) := Int.mul_nonneg (Int.natCast_nonneg _) (Int.natCast_nonneg _)
          clear hxy
          go_wp2
          go_region
          go_wp2
          have hlt0 : part a b i (j + 1) < 65536 ^ (la + lb) := by
            have := part_lt a b ha hb i (j + 1) hai
            rwa [ea.out, eb.out] at this
          have HT : Hid (part a b i (j + 1) < 65536 ^ (la + lb)) := hlt0
          clear hlt0
          go_loopw [8] (fun v wr' => ∃ (k : Nat) (c' : List Nat), k < la + lb ∧ v = .int .i64 k ∧ Hid (c'.length = la + lb) ∧ (∀ m, m ≠ k → c'.getD m 0 < 65536) ∧ c'.getD k 0 < 4294967296 ∧ Hid (dv c' = part a b i (j + 1)) ∧ Row wr' w.heap.size (ints c') ∧ Below w.heap.size w wr') (fun v _ => (la + lb) - (intOf v).toNat)
          case atStart =>
            have hzx : z + x * y < 4294967296 := by
              have h : ((x * y : Nat) : Int) ≤ 4294836225 := by rw [Int.natCast_mul]; exact hxyi
              omega
            have e : ((z + x * y : Nat) : Int) = (z : Int) + (x : Int) * (y : Int) := by rw [Int.natCast_add, Int.natCast_mul]
            refine ⟨i + j, c.set (i + j) (z + x * y), by omega, by go_num, ?_, ?_, ?_, ?_, ?_, ?_⟩
            · show (c.set _ _).length = _; rw [List.length_set]; exact hc.out
            · intro m hm
              rw [List.getD_eq_getElem?_getD, List.getElem?_set_ne (by omega)]
              rcases Nat.lt_or_ge m c.length with h | h
              · rw [List.getElem?_eq_getElem h]; exact hd _ (List.getElem_mem _)
              · rw [List.getElem?_eq_none h]; decide
            · rw [List.getD_eq_getElem?_getD, List.getElem?_set_self hck]; exact hzx
            · show dv _ = _
              have h1 := dv_set c (i + j) (z + x * y) hck
              have h2 := part_step a b i j hbj
              rw [h2, ← hv.out]
              have e1 : a.getD i 0 = x := by rw [HX.out]; simp [List.getD, List.getElem?_eq_getElem hai]
              rw [e1, ← HY.out]
              rw [← HZ.out] at h1
              rw [Nat.add_mul] at h1
              omega
            · have := row_set hr (i + j) hck (z + x * y)
              rw [e] at this
              exact this
            · exact (hbl.setCell (p := ⟨w.heap.size, i + j, none⟩) (Nat.le_refl _) _).trans ⟨rfl, rfl, rfl, Nat.le_refl _, fun _ _ => rfl⟩
          case round =>
            clear hc hd hv hr hbl cx cy cz fz HX HY HZ hxyi hxy0 hx1 hy1 hz1 hck
            obtain ⟨k, c, hk, rfl, hc, hd0, hu, hv, hr, hbl⟩ := hrel
            have hd : Hid (∀ m, m ≠ k → c.getD m 0 < 65536) := hd0
            clear hd0
            have hkc : k < c.length := by have := hc.out; omega
            obtain ⟨u, hu0⟩ : ∃ u, u = c[k] := ⟨_, rfl⟩
            have hu1 : u < 4294967296 := by rw [List.getD_eq_getElem?_getD, List.getElem?_eq_getElem hkc] at hu; rw [hu0]; exact hu
            have cu : wr.cell? ⟨w.heap.size, k, none⟩ = some (.int .i64 (u : Int)) := by rw [hu0]; exact row_at hr k hkc
            have fu : wr.frozen? ⟨w.heap.size, k, none⟩ = false := hr.frozen _
            have HU : Hid (u = c[k]) := hu0
            have HU1 : Hid (u < 4294967296) := hu1
            have hui : (u : Int) < 4294967296 := by omega
            clear hu0 hu hu1
            by_cases hbig : (65536 : Int) ≤ (u : Int)
            · have hk1 : k + 1 < c.length := carry_in c k _ hkc hv.out (by rw [hc.out]; exact HT.out) (by rw [← HU.out]; omega)
              have hk2 : k + 1 < la + lb := by have := hc.out; omega
              obtain ⟨y, hy⟩ : ∃ y, y = c[k + 1] := ⟨_, rfl⟩
              have hy1 : y < 65536 := by
                have := hd.out (k + 1) (by omega)
                rw [List.getD_eq_getElem?_getD, List.getElem?_eq_getElem hk1] at this
                rw [hy]; exact this
              have cy : wr.cell? ⟨w.heap.size, k + 1, none⟩ = some (.int .i64 (y : Int)) := by rw [hy]; exact row_at hr (k + 1) hk1
              have fy : wr.frozen? ⟨w.heap.size, k + 1, none⟩ = false := hr.frozen _
              have HY : Hid (y = c[k + 1]) := hy
              clear hy
              clear hlt hlj hi hj HT ra rb
              go_wp2
              go_region
              go_wp2
              go_roundw
              case rel =>
                have e1 : ((y + u / 65536 : Nat) : Int) = (y : Int) + (u : Int) / 65536 := by omega
                have e2 : ((u % 65536 : Nat) : Int) = (u : Int) % 65536 := by omega
                refine ⟨k + 1, (c.set (k + 1) (y + u / 65536)).set k (u % 65536), by omega, by go_num, ?_, ?_, ?_, ?_, ?_, ?_⟩
                · show List.length _ = _; rw [List.length_set, List.length_set]; exact hc.out
                · intro m hm
                  rw [List.getD_eq_getElem?_getD]
                  by_cases hmk : m = k
                  · subst hmk
                    rw [List.getElem?_set_self (by rw [List.length_set]; omega)]
                    exact Nat.mod_lt _ (by decide)
                  · rw [List.getElem?_set_ne (by omega), List.getElem?_set_ne (by omega)]
                    have := hd.out m hmk
                    rwa [List.getD_eq_getElem?_getD] at this
                · rw [List.getD_eq_getElem?_getD, List.getElem?_set_ne (by omega), List.getElem?_set_self hk1]
                  show y + u / 65536 < _
                  have := HU1.out
                  omega
                · show dv _ = _
                  rw [HU.out, HY.out, carry_same c k hk1]
                  exact hv.out
                · have h1 := row_set hr (k + 1) hk1 (y + u / 65536)
                  have h2 := row_set h1.drew k (by rw [List.length_set]; omega) (u % 65536)
                  rw [e1, e2] at h2
                  exact h2
                · exact ((hbl.setCell (p := ⟨w.heap.size, k + 1, none⟩) (Nat.le_refl _) _).setCell (p := ⟨w.heap.size, k, none⟩) (Nat.le_refl _) _).drew
              case measure => simp [intOf]; omega
            · go_wp2
              go_roundw
              case rel =>
                refine ⟨j + 1, c, by omega, by go_num, hc, ?_, hv, hr, hbl⟩
                intro d hdm
                obtain ⟨m, hm, rfl⟩ := List.getElem_of_mem hdm
                by_cases hmk : m = k
                · subst hmk; rw [← HU.out]; omega
                · have := hd.out m hmk
                  rwa [List.getD_eq_getElem?_getD, List.getElem?_eq_getElem hm] at this
              case measure => simp [intOf]; omega
        · go_wp2
          go_roundw
          case rel =>
            have : j = lb := by omega
            subst this
            refine ⟨i + 1, c, by omega, by go_num, hc, hd, ?_, hr, hbl⟩
            show dv c = _
            rw [hv.out, ← eb.out]
            exact part_row a b i (by have := ea.out; omega)
          case measure => simp [intOf]; omega
    · go_wp2
      go_ret
      refine ⟨c, hc, hd, ?_, rfl, hr, hbl⟩
      have : i = la := by omega
      subst this
      rw [hv.out]
      simp [part, dv, ← ea.out]
end Go.Proofs.YtbnokhdofkpcjaaGreatDoor
