/- OWN TEXT: joined of:  Words Sha Mem Rot Digits Times Below Root Primes Maker Sched Rowlaw Bytes Tab Crc Once. -/
import Derived.WalkKit
import Derived.Laws.BitsAllLaws
import Derived.WalkSpells
import Derived.BigRegion
import Derived.Deep.QuietTactic
import Derived.BigQuiet
import Derived.Test.YtapijhhmjjplmaaGreatDoorProg
import Derived.Deep.WholeRow
import Derived.Below
import Derived.Deep.OwnRows
import Derived.Laws.Rows
import Derived.Deep.RegionWith
import Derived.Tactics
import Derived.Laws.CopyRow
import Derived.Lib.SliceRun
import Derived.ChangeKeysEq
import Derived.Deep.RegionLaw
import Derived.LoopN
import Derived.Laws.IdiomCopy
import Derived.Laws.IdiomStrings
import Derived.Lib.FrozenHead2
import Derived.Tactics2
import Derived.Defers
import Derived.Laws.Pointers
import Derived.Laws.LoneSync
import Derived.RegionTactic
import Derived.RegionCalls
namespace Go.Proofs.YtapijhhmjjplmaaGreatDoor
theorem heapOldI (w : World) (o : Obj) {r : Nat} (h : r < w.heap.size) : (w.alloc o).heap[r]? = w.heap[r]? := by
  show (w.heap.push o)[r]? = w.heap[r]?
  rw [Array.getElem?_push, if_neg (Nat.ne_of_lt h)]
theorem heapOldE (w : World) (o : Obj) (r : Nat) (h : r < w.heap.size) : (w.alloc o).heap[r]? = w.heap[r]? := heapOldI w o h
end Go.Proofs.YtapijhhmjjplmaaGreatDoor
namespace Go.Proofs.YtapijhhmjjplmaaGreatDoor
open Go.RowKit
theorem ofInt_64 (a : Nat) (ha : a < 9223372036854775808) : (BitVec.ofInt 64 (a : Int)).toNat = a := by
  rw [BitVec.ofInt_natCast, BitVec.toNat_ofNat]; exact Nat.mod_eq_of_lt (by omega)
theorem wrap_i64_nat (a : Nat) (ha : a < 9223372036854775808) : IntKind.i64.wrap (a : Int) = (a : Int) := by
  simp [IntKind.wrap, IntKind.bits, IntKind.signed]
  omega
theorem i64_xor_nat (a b : Nat) (ha : a < 9223372036854775808) (hb : b < 9223372036854775808) : bits .xor .i64 (a : Int) (b : Int) = ((a ^^^ b : Nat) : Int) := by
  have hx : a ^^^ b < 2 ^ 63 := Nat.xor_lt_two_pow (by omega) (by omega)
  show IntKind.i64.wrap ((BitVec.ofInt 64 (a : Int) ^^^ BitVec.ofInt 64 (b : Int)).toNat : Int) = _
  rw [BitVec.toNat_xor, ofInt_64 a ha, ofInt_64 b hb, wrap_i64_nat _ (by omega)]
/-- 2^32, as a name. -/
def w32 : Nat := 4294967296
theorem xor_w32 {a b : Nat} (ha : a < w32) (hb : b < w32) : a ^^^ b < w32 := by
  have : a ^^^ b < 2 ^ 32 := Nat.xor_lt_two_pow (by unfold w32 at ha; omega) (by unfold w32 at hb; omega)
  unfold w32; omega
def crcStep (r : Nat) : Nat := if r % 2 = 1 then (r / 2) ^^^ 3988292384 else r / 2
def crcSteps : Nat → Nat → Nat
  | 0, r => r
  | k + 1, r => crcSteps k (crcStep r)
def crcTo (l : List UInt8) (r : Nat) : Nat := l.foldl (fun r c => crcSteps 8 (r ^^^ c.toNat)) r
def crcN (l : List UInt8) : Nat := 4294967295 - crcTo l 4294967295
theorem crcStep_lt (r : Nat) (h : r < w32) : crcStep r < w32 := by
  unfold crcStep
  split
  · exact xor_w32 (by unfold w32 at *; omega) (by unfold w32; omega)
  · unfold w32 at *; omega
theorem crcTo_snoc (l : List UInt8) (c : UInt8) (r : Nat) : crcTo (l ++ [c]) r = crcSteps 8 (crcTo l r ^^^ c.toNat) := by
  unfold crcTo; rw [List.foldl_append]; rfl
theorem byte_w32 (c : UInt8) : c.toNat < w32 := by have := c.toNat_lt; unfold w32; omega
theorem take_snoc (s : ByteArray) (k : Nat) (h : k < s.size) : s.data.toList.take (k + 1) = s.data.toList.take k ++ [s[k]] := by
  rw [List.take_succ_eq_append_getElem (by simpa using h)]; rfl
end Go.Proofs.YtapijhhmjjplmaaGreatDoor
namespace Go.Proofs.YtapijhhmjjplmaaGreatDoor
open Go.RowKit
def rotN (x n : Nat) : Nat := (x / 2 ^ n ||| x * 2 ^ (32 - n)) % 4294967296
def s0 (a : Nat) : Nat := rotN a 7 ^^^ rotN a 18 ^^^ a / 8
def s1 (b : Nat) : Nat := rotN b 17 ^^^ rotN b 19 ^^^ b / 1024
theorem getD_lt {l : List Nat} {m : Nat} (h : ∀ d ∈ l, d < m) (hm : 0 < m) (i : Nat) : l.getD i 0 < m := by
  rw [List.getD_eq_getElem?_getD]
  rcases Nat.lt_or_ge i l.length with h' | h'
  · rw [List.getElem?_eq_getElem h']; exact h _ (List.getElem_mem _)
  · rw [List.getElem?_eq_none h']; exact hm
theorem addTo_set (h a : List Nat) (i : Nat) (hl : h.length = a.length) (hi : i < h.length) : (a.take i ++ h.drop i).set i a[i] = a.take (i + 1) ++ h.drop (i + 1) := by
  rw [List.set_append_right _ _ (by rw [List.length_take]; omega), List.length_take, Nat.min_eq_left (by omega), Nat.sub_self, List.drop_eq_getElem_cons hi, List.set_cons_zero]
  have e : a.take (i + 1) = a.take i ++ [a[i]] := List.take_succ_eq_append_getElem (by omega)
  rw [e, List.append_assoc]
  rfl
theorem get_getD (l : List Nat) (i : Nat) (h : i < l.length) : l[i] = l.getD i 0 := by
  rw [List.getD_eq_getElem?_getD, List.getElem?_eq_getElem h]; rfl
def blk (p : List Nat) (j : Nat) : List Nat := (p.drop (64 * j)).take 64
def four4 (n : Nat) : List UInt8 := [UInt8.ofNat (n / 16777216 % 256), UInt8.ofNat (n / 65536 % 256), UInt8.ofNat (n / 256 % 256), UInt8.ofNat (n % 256)]
end Go.Proofs.YtapijhhmjjplmaaGreatDoor
namespace Go.Proofs.YtapijhhmjjplmaaGreatDoor
open Go.RowKit
/-- Block b holds the ints l, and perhaps more behind them; nothing of it is frozen. -/
def Row (w : World) (b : Nat) (l : List Int) : Prop := ∃ t tail, w.heap[b]? = some (.cells (l.map (Value.int .i64) ++ tail).toArray t (0, 0))
theorem Row.lt {w : World} {b : Nat} {l : List Int} (h : Row w b l) : b < w.heap.size := by
  obtain ⟨t, tail, h⟩ := h
  exact (Array.getElem?_eq_some_iff.1 h).1
theorem Row.cell {w : World} {b : Nat} {l : List Int} (h : Row w b l) (j : Nat) (hj : j < l.length) : w.cell? ⟨b, j, none⟩ = some (.int .i64 l[j]) := by
  obtain ⟨t, tail, h⟩ := h
  simp [World.cell?, h, List.getElem?_append, hj]
theorem Row.frozen {w : World} {b : Nat} {l : List Int} (h : Row w b l) (j : Nat) : w.frozen? ⟨b, j, none⟩ = false := by
  obtain ⟨t, tail, h⟩ := h
  simp [World.frozen?, h]
theorem Row.of_heap {w w' : World} {b : Nat} {l : List Int} (h : Row w b l) (e : w'.heap[b]? = w.heap[b]?) : Row w' b l := by
  obtain ⟨t, tail, h⟩ := h
  exact ⟨t, tail, by rw [e]; exact h⟩
theorem Row.on {B : Nat} {w w' : World} {b : Nat} {l : List Int} (h : Row w b l) (hb : Below B w w') (hB : b < B) : Row w' b l := h.of_heap (hb.block b hB)
theorem Row.set {w : World} {b : Nat} {l : List Int} (h : Row w b l) (k : Nat) (hk : k < l.length) (y : Int) : Row (w.setCell ⟨b, k, none⟩ (.int .i64 y)) b (l.set k y) := by
  obtain ⟨t, tail, h⟩ := h
  refine ⟨t, tail, ?_⟩
  simp only [World.setCell, Array.getElem?_modify, ↓reduceIte, h, Option.map_some]
  simp [List.map_set, hk]
theorem Row.setOther {w : World} {b : Nat} {l : List Int} (h : Row w b l) (a : Addr) (ha : a.block ≠ b) (v : Value) : Row (w.setCell a v) b l := by
  refine h.of_heap ?_
  simp [World.setCell, Array.getElem?_modify, ha]
theorem Row.new {w : World} (c : List Int) (t : TypeId) : Row (w.alloc (.cells (c.map (Value.int .i64)).toArray t)) w.heap.size c := by
  refine ⟨t, [], ?_⟩
  show (w.heap.push _)[w.heap.size]? = _
  rw [Array.getElem?_push_size, List.append_nil]
theorem Row.drew {w : World} {b : Nat} {l : List Int} (h : Row w b l) : Row w.drew b l := h
theorem below_drewN' {B : Nat} {a w : World} (h : Below B a w) (n : Nat) : Below B a (w.drewN n) := h.trans ⟨rfl, rfl, rfl, Nat.le_refl _, fun _ _ => rfl⟩
end Go.Proofs.YtapijhhmjjplmaaGreatDoor
namespace Go.Proofs.YtapijhhmjjplmaaGreatDoor
open Go.RowKit
theorem xor_ones (x : Nat) (h : x < 4294967296) : 4294967295 ^^^ x = 4294967295 - x := by
  have h1 : (BitVec.allOnes 32 ^^^ BitVec.ofNat 32 x).toNat = (~~~ BitVec.ofNat 32 x).toNat := by rw [BitVec.allOnes_xor]
  rw [BitVec.toNat_xor, BitVec.toNat_not, BitVec.toNat_allOnes, BitVec.toNat_ofNat, Nat.mod_eq_of_lt h] at h1
  exact h1
theorem u32_not (x : Nat) (h : x < 4294967296) : bits .xor .u32 IntKind.u32.max (x : Int) = ((4294967295 - x : Nat) : Int) := by
  have e : IntKind.u32.max = ((4294967295 : Nat) : Int) := by decide +kernel
  rw [e, u32_xor_nat _ _ (by decide) h, xor_ones x h]
end Go.Proofs.YtapijhhmjjplmaaGreatDoor
namespace Go.Proofs.YtapijhhmjjplmaaGreatDoor
/-- The number that digits tell, the lowest first. -/
def dv : List Nat → Nat
  | [] => 0
  | d :: r => d + 65536 * dv r
theorem dv_append (l m : List Nat) : dv (l ++ m) = dv l + 65536 ^ l.length * dv m := by
  induction l with
  | nil => simp [dv]
  | cons d r ih => simp only [List.cons_append, dv, ih, List.length_cons, Nat.pow_succ]; grind
theorem dv_set (l : List Nat) : ∀ (k y : Nat) (h : k < l.length), dv (l.set k y) + l[k] * 65536 ^ k = dv l + y * 65536 ^ k := by
  induction l with
  | nil => intro k y h; simp at h
  | cons d r ih =>
    intro k y h
    cases k with
    | zero => simp [dv]; omega
    | succ k =>
      have := ih k y (by simpa using h)
      simp only [List.set_cons_succ, dv, List.getElem_cons_succ, Nat.pow_succ]
      grind
theorem dv_ge (l : List Nat) : ∀ (k : Nat) (h : k < l.length), l[k] * 65536 ^ k ≤ dv l := by
  induction l with
  | nil => intro k h; simp at h
  | cons d r ih =>
    intro k h
    cases k with
    | zero => simp [dv]
    | succ k =>
      have := ih k (by simpa using h)
      simp only [dv, List.getElem_cons_succ, Nat.pow_succ]
      grind
theorem dv_lt (l : List Nat) (h : ∀ d ∈ l, d < 65536) : dv l < 65536 ^ l.length := by
  induction l with
  | nil => simp [dv]
  | cons d r ih =>
    have h1 := h d (by simp)
    have h2 := ih (fun x hx => h x (by simp [hx]))
    simp only [dv, List.length_cons, Nat.pow_succ]
    omega
theorem dv_replicate (n : Nat) : dv (List.replicate n 0) = 0 := by
  induction n with
  | zero => rfl
  | succ n ih => simp [List.replicate_succ, dv, ih]
theorem dv_take_succ (l : List Nat) (i : Nat) (h : i < l.length) : dv (l.take (i + 1)) = dv (l.take i) + l[i] * 65536 ^ i := by
  rw [List.take_succ_eq_append_getElem h, dv_append]
  simp only [dv, List.length_take, Nat.min_eq_left (Nat.le_of_lt h)]
  grind
theorem dv_take_le (l : List Nat) (i : Nat) : dv (l.take i) ≤ dv l := by
  have := dv_append (l.take i) (l.drop i)
  rw [List.take_append_drop] at this
  omega
/-- What has been added up when the product stands at (i, j). -/
def part (a b : List Nat) (i j : Nat) : Nat := dv (a.take i) * dv b + a.getD i 0 * 65536 ^ i * dv (b.take j)
theorem part_step (a b : List Nat) (i j : Nat) (hj : j < b.length) : part a b i (j + 1) = part a b i j + a.getD i 0 * b[j] * 65536 ^ (i + j) := by
  unfold part
  rw [dv_take_succ b j hj, Nat.pow_add]
  grind
theorem part_row (a b : List Nat) (i : Nat) (hi : i < a.length) : part a b i b.length = part a b (i + 1) 0 := by
  unfold part
  rw [List.take_length, dv_take_succ a i hi]
  have e : a.getD i 0 = a[i] := by simp [List.getD, List.getElem?_eq_getElem hi]
  rw [e]
  simp only [List.take_zero, dv]
  grind
theorem part_lt (a b : List Nat) (ha : ∀ d ∈ a, d < 65536) (hb : ∀ d ∈ b, d < 65536) (i j : Nat) (hi : i < a.length) : part a b i j < 65536 ^ (a.length + b.length) := by
  have h1 : part a b i j ≤ dv (a.take (i + 1)) * dv b := by
    unfold part
    rw [dv_take_succ a i hi]
    have e : a.getD i 0 = a[i] := by simp [List.getD, List.getElem?_eq_getElem hi]
    rw [e, Nat.add_mul]
    exact Nat.add_le_add_left (Nat.mul_le_mul_left _ (dv_take_le b j)) _
  have h2 : dv (a.take (i + 1)) * dv b ≤ dv a * dv b := Nat.mul_le_mul_right _ (dv_take_le a (i + 1))
  have h3 := dv_lt a ha
  have h4 := dv_lt b hb
  rw [Nat.pow_add]
  rcases Nat.eq_zero_or_pos (dv b) with h0 | h0
  · rw [h0] at h1 h2
    have : 0 < 65536 ^ a.length * 65536 ^ b.length := Nat.mul_pos (Nat.pos_of_ne_zero (by simp)) (Nat.pos_of_ne_zero (by simp))
    omega
  · exact Nat.lt_of_le_of_lt (Nat.le_trans h1 h2) (Nat.lt_of_lt_of_le (Nat.mul_lt_mul_of_pos_right h3 h0) (Nat.mul_le_mul_left _ (Nat.le_of_lt h4)))
/-- A carry is never out of the list. -/
theorem carry_in (c : List Nat) (k T : Nat) (hk : k < c.length) (hT : dv c = T) (hlt : T < 65536 ^ c.length) (hc : 65536 ≤ c[k]) : k + 1 < c.length := by
  rcases Nat.lt_or_ge (k + 1) c.length with h | h
  · exact h
  · have e : c.length = k + 1 := by omega
    have := dv_ge c k hk
    rw [e, Nat.pow_succ] at hlt
    have h5 : 65536 * 65536 ^ k ≤ c[k] * 65536 ^ k := Nat.mul_le_mul_right _ hc
    rw [Nat.mul_comm] at hlt
    omega
/-- One carry leaves the number as it was. -/
theorem carry_same (c : List Nat) (k : Nat) (hk : k + 1 < c.length) :
    dv ((c.set (k + 1) (c[k + 1] + c[k] / 65536)).set k (c[k] % 65536)) = dv c := by
  have h1 := dv_set c (k + 1) (c[k + 1] + c[k] / 65536) hk
  have h2 := dv_set (c.set (k + 1) (c[k + 1] + c[k] / 65536)) k (c[k] % 65536) (by simp; omega)
  have e : (c.set (k + 1) (c[k + 1] + c[k] / 65536))[k]'(by simp; omega) = c[k] := by
    rw [List.getElem_set_ne (by omega)]
  rw [e] at h2
  have hm := Nat.div_add_mod c[k] 65536
  rw [Nat.pow_succ] at h1
  generalize dv (c.set (k + 1) (c[k + 1] + c[k] / 65536)) = X at h1 h2
  generalize dv ((c.set (k + 1) (c[k + 1] + c[k] / 65536)).set k (c[k] % 65536)) = Y at h2 ⊢
  generalize c[k] / 65536 = q at *
  generalize c[k] % 65536 = r at *
  generalize c[k + 1] = z at *
  generalize c[k] = u at *
  generalize 65536 ^ k = p at *
  subst hm
  grind
theorem dv_drop (c : List Nat) (m : Nat) (h : m < c.length) : dv (c.drop m) = c[m] + 65536 * dv (c.drop (m + 1)) := by
  rw [List.drop_eq_getElem_cons h]
  rfl
theorem dv_drop_lt (c : List Nat) (hd : ∀ d ∈ c, d < 65536) (m : Nat) (h : c.length - m ≤ 2) : dv (c.drop m) < 4294967296 := by
  have h1 := dv_lt (c.drop m) (fun d hx => hd d (List.mem_of_mem_drop hx))
  rw [List.length_drop] at h1
  have h2 : 65536 ^ (c.length - m) ≤ 65536 ^ 2 := Nat.pow_le_pow_right (by decide) h
  have h3 : 65536 ^ 2 = 4294967296 := by decide
  omega
theorem sum_drop (c : List Nat) (pt m : Nat) (h : m < pt) (hp : pt ≤ c.length) : ((c.take pt).drop m).sum = c[m] + ((c.take pt).drop (m + 1)).sum := by
  rw [List.drop_eq_getElem_cons (by rw [List.length_take]; omega), List.sum_cons, List.getElem_take]
theorem sum_lt (l : List Nat) (hd : ∀ d ∈ l, d < 65536) : l.sum ≤ 65535 * l.length := by
  induction l with
  | nil => simp
  | cons d r ih =>
    have h1 := hd d (by simp)
    have h2 := ih (fun x hx => hd x (by simp [hx]))
    simp only [List.sum_cons, List.length_cons]
    omega
theorem sum_drop_lt (c : List Nat) (hd : ∀ d ∈ c, d < 65536) (pt m : Nat) (hp : pt ≤ 6) : ((c.take pt).drop m).sum ≤ 393210 := by
  have h1 := sum_lt ((c.take pt).drop m) (fun d hx => hd d (List.mem_of_mem_take (List.mem_of_mem_drop hx)))
  have h2 : ((c.take pt).drop m).length ≤ 6 := by rw [List.length_drop, List.length_take]; omega
  have h3 := Nat.mul_le_mul_left 65535 h2
  omega
theorem dv_zero (l : List Nat) : dv l = 0 ↔ l.sum = 0 := by
  induction l with
  | nil => simp [dv]
  | cons d r ih => simp only [dv, List.sum_cons]; omega
/-- What the last line of 'below' asks. -/
theorem below_iff (c : List Nat) (pt p : Nat) (hd : ∀ d ∈ c, d < 65536) (hp : pt ≤ c.length) :
    (dv (c.drop pt) < p ∨ dv (c.drop pt) = p ∧ (c.take pt).sum = 0) ↔ dv c ≤ p * 65536 ^ pt := by
  have h1 := dv_append (c.take pt) (c.drop pt)
  rw [List.take_append_drop, List.length_take, Nat.min_eq_left hp] at h1
  have h2 := dv_lt (c.take pt) (fun d hx => hd d (List.mem_of_mem_take hx))
  rw [List.length_take, Nat.min_eq_left hp] at h2
  have h3 := dv_zero (c.take pt)
  generalize dv (c.take pt) = x at *
  generalize (c.take pt).sum = s at *
  generalize dv (c.drop pt) = n at *
  generalize hq : 65536 ^ pt = q at *
  have hq0 : 0 < q := by omega
  rw [h1, Nat.mul_comm q n]
  constructor
  · rintro (h | ⟨h, hs⟩)
    · have : (n + 1) * q ≤ p * q := Nat.mul_le_mul_right q h
      rw [Nat.add_mul, Nat.one_mul] at this
      omega
    · have : x = 0 := h3.2 hs
      rw [h, this]
      omega
  · intro h
    rcases Nat.lt_trichotomy n p with h' | h' | h'
    · exact .inl h'
    · refine .inr ⟨h', h3.1 ?_⟩
      subst h'
      omega
    · exfalso
      have : (p + 1) * q ≤ n * q := Nat.mul_le_mul_right q h'
      rw [Nat.add_mul, Nat.one_mul] at this
      omega
theorem dv3 (t whole : Nat) : dv [t % 65536, t / 65536, whole] = whole * 4294967296 + t := by
  simp only [dv]
  omega
end Go.Proofs.YtapijhhmjjplmaaGreatDoor
namespace Go.Proofs.YtapijhhmjjplmaaGreatDoor
open Go.RowKit
/-- Digits as ints. -/
def ints (l : List Nat) : List Int := l.map (fun x : Nat => (x : Int))
theorem ints_length (l : List Nat) : (ints l).length = l.length := by simp [ints]
theorem ints_at (l : List Nat) (j : Nat) (h : j < l.length) : (ints l)[j]'(by rw [ints_length]; exact h) = (l[j] : Int) := by simp [ints]
theorem ints_set (l : List Nat) (k y : Nat) : (ints l).set k (y : Int) = ints (l.set k y) := by simp [ints, List.map_set]
theorem row_at {w : World} {b : Nat} {l : List Nat} (h : Row w b (ints l)) (j : Nat) (hj : j < l.length) : w.cell? ⟨b, j, none⟩ = some (.int .i64 (l[j] : Int)) := by
  have := h.cell j (by rw [ints_length]; exact hj)
  rw [ints_at l j hj] at this
  exact this
theorem row_set {w : World} {b : Nat} {l : List Nat} (h : Row w b (ints l)) (k : Nat) (hk : k < l.length) (y : Nat) : Row (w.setCell ⟨b, k, none⟩ (.int .i64 (y : Int))) b (ints (l.set k y)) := by
  have := h.set k (by rw [ints_length]; exact hk) (y : Int)
  rw [ints_set] at this
  exact this
theorem infoInt : (Tryz.prog.info? 3).map (fun i => (i.zero, i.size, i.bytes)) = some (some (.int .i64 0), 1, 8) := by kernel_rfl
theorem row_made (w : World) (n : Nat) (t : TypeId) : Row (w.alloc (.cells (madeCells #[.int .i64 0] n) t)) w.heap.size (ints (List.replicate n 0)) := by
  refine ⟨t, [], ?_⟩
  show (w.heap.push _)[w.heap.size]? = _
  rw [Array.getElem?_push_size, List.append_nil]
  have : madeCells #[.int .i64 0] n = ((ints (List.replicate n 0)).map (Value.int .i64)).toArray := by
    apply Array.toList_inj.1
    rw [toList_madeCells_one]
    simp [ints]
  rw [this]
set_option maxRecDepth 100000 in
set_option maxHeartbeats 1000000 in
theorem times_any (ba bb ca cb la lb : Nat) (a b : List Nat) (w : World) (ra : Row w ba (ints a)) (rb : Row w bb (ints b)) (ha : ∀ d ∈ a, d < 65536) (hb : ∀ d ∈ b, d < 65536) (ea : Hid (a.length = la)) (eb : Hid (b.length = lb)) (hla : la ≤ 6) (hlb : lb ≤ 6) :
    Calls Tryz.prog 249 #[.slice (some ⟨ba, 0, none⟩) la ca, .slice (some ⟨bb, 0, none⟩) lb cb] w fun e w' =>
      ∃ c : List Nat, c.length = la + lb ∧ (∀ d ∈ c, d < 65536) ∧ dv c = dv a * dv b ∧
        e = .returned (.slice (some ⟨w.heap.size, 0, none⟩) (la + lb) (la + lb)) ∧ Row w' w.heap.size (ints c) ∧ Below w.heap.size w w' := by
  have hmk : ∀ w, (Instr.makeSlice 34 (.int .i64 ((la : Int) + (lb : Int))) (.int .i64 ((la : Int) + (lb : Int)))).run Tryz.prog w = .ok (.slice (some ⟨w.heap.size, 0, none⟩) (la + lb) (la + lb)) (w.alloc (.cells (madeCells #[.int .i64 0] (la + lb)) 3)) := fun w => by
    have := run_make_row' (P := Tryz.prog) 34 3 (.int .i64 0) 8 Tryz.underlying34 infoInt rfl .i64 .i64 (la + lb) (by omega) (by omega) w
    rwa [Int.natCast_add] at this
  have hB1 := ra.lt
  have hB2 := rb.lt
  go_enter Tryz.func249, Tryz.ntmps249
  go_wp2
  clear hmk
  go_loopw [6] (fun v wr => ∃ (i : Nat) (c : List Nat), i ≤ la ∧ v = .int .i64 i ∧ Hid (c.length = la + lb) ∧ (∀ d ∈ c, d < 65536) ∧ Hid (dv c = part a b i 0) ∧ Row wr w.heap.size (ints c) ∧ Below w.heap.size w wr) (fun v _ => la - (intOf v).toNat)
  case atStart =>
    refine ⟨0, List.replicate (la + lb) 0, by omega, rfl, List.length_replicate .., ?_, ?_, row_made _ _ _, (Below.refl _ _).alloc (Nat.le_refl _) _⟩
    · intro d hd; rw [List.eq_of_mem_replicate hd]; omega
    · show dv _ = _; rw [dv_replicate]; simp [part, dv]
  case round =>
    obtain ⟨i, c, hi, rfl, hc, hd, hv, hr, hbl⟩ := hrel
    by_cases hlt : i < la
    · go_wp2
      go_loopw [7] (fun v wr => ∃ (j : Nat) (c : List Nat), j ≤ lb ∧ v = .int .i64 j ∧ Hid (c.length = la + lb) ∧ (∀ d ∈ c, d < 65536) ∧ Hid (dv c = part a b i j) ∧ Row wr w.heap.size (ints c) ∧ Below w.heap.size w wr) (fun v _ => lb - (intOf v).toNat)
      case atStart => exact ⟨0, c, Nat.zero_le _, rfl, hc, hd, hv, hr, hbl⟩
      case round =>
        clear hc hd hv hr hbl c
        obtain ⟨j, c, hj, rfl, hc, hd, hv, hr, hbl⟩ := hrel
        by_cases hlj : j < lb
        · have hai : i < a.length := by have := ea.out; omega
          have hbj : j < b.length := by have := eb.out; omega
          have hck : i + j < c.length := by have := hc.out; omega
          obtain ⟨x, hx⟩ : ∃ x, x = a[i] := ⟨_, rfl⟩
          obtain ⟨y, hy⟩ : ∃ y, y = b[j] := ⟨_, rfl⟩
          obtain ⟨z, hz⟩ : ∃ z, z = c[i + j] := ⟨_, rfl⟩
          have hx1 : x < 65536 := by rw [hx]; exact ha _ (List.getElem_mem _)
          have hy1 : y < 65536 := by rw [hy]; exact hb _ (List.getElem_mem _)
          have hz1 : z < 65536 := by rw [hz]; exact hd _ (List.getElem_mem _)
          have cx : wr.cell? ⟨ba, i, none⟩ = some (.int .i64 (x : Int)) := by rw [hx]; exact row_at (ra.on hbl hB1) i hai
          have cy : wr.cell? ⟨bb, j, none⟩ = some (.int .i64 (y : Int)) := by rw [hy]; exact row_at (rb.on hbl hB2) j hbj
          have cz : wr.cell? ⟨w.heap.size, i + j, none⟩ = some (.int .i64 (z : Int)) := by rw [hz]; exact row_at hr (i + j) hck
          have fz : wr.frozen? ⟨w.heap.size, i + j, none⟩ = false := hr.frozen _
          have HX : Hid (x = a[i]) := hx
          have HY : Hid (y = b[j]) := hy
          have HZ : Hid (z = c[i + j]) := hz
          clear hx hy hz
          have hxy : x * y ≤ 4294836225 := Nat.le_trans (Nat.mul_le_mul (Nat.le_of_lt_succ hx1) (Nat.le_of_lt_succ hy1)) (by decide)
          have hxyi : (x : Int) * (y : Int) ≤ 4294836225 := by
            have h : ((x * y : Nat) : Int) ≤ 4294836225 := by omega
            rwa [Int.natCast_mul] at h
          have hxy0 : 0 ≤ (x : Int) * (y : Int) := Int.mul_nonneg (Int.natCast_nonneg _) (Int.natCast_nonneg _)
          clear hxy
          go_wp2
          go_region
          go_wp2
          have hlt0 : part a b i (j + 1) < 65536 ^ (la + lb) := by
            have := part_lt a b ha hb i (j + 1) hai
            rwa [ea.out, eb.out] at this
          have HT : Hid (part a b i (j + 1) < 65536 ^ (la + lb)) := hlt0
          clear hlt0
          go_loopw [8] (fun v wr' => ∃ (k : Nat) (c' : List Nat), k < la + lb ∧ v = .int .i64 k ∧ Hid (c'.length = la + lb) ∧ (∀ m, m ≠ k → c'.getD m 0 < 65536) ∧ c'.getD k 0 < 4294967296 ∧ Hid (dv c' = part a b i (j + 1)) ∧ Row wr' w.heap.size (ints c') ∧ Below w.heap.size w wr') (fun v _ => (la + lb) - (intOf v).toNat)
          case atStart =>
            have hzx : z + x * y < 4294967296 := by
              have h : ((x * y : Nat) : Int) ≤ 4294836225 := by rw [Int.natCast_mul]; exact hxyi
              omega
            have e : ((z + x * y : Nat) : Int) = (z : Int) + (x : Int) * (y : Int) := by rw [Int.natCast_add, Int.natCast_mul]
            refine ⟨i + j, c.set (i + j) (z + x * y), by omega, by go_num, ?_, ?_, ?_, ?_, ?_, ?_⟩
            · show (c.set _ _).length = _; rw [List.length_set]; exact hc.out
            · intro m hm
              rw [List.getD_eq_getElem?_getD, List.getElem?_set_ne (by omega)]
              rcases Nat.lt_or_ge m c.length with h | h
              · rw [List.getElem?_eq_getElem h]; exact hd _ (List.getElem_mem _)
              · rw [List.getElem?_eq_none h]; decide
            · rw [List.getD_eq_getElem?_getD, List.getElem?_set_self hck]; exact hzx
            · show dv _ = _
              have h1 := dv_set c (i + j) (z + x * y) hck
              have h2 := part_step a b i j hbj
              rw [h2, ← hv.out]
              have e1 : a.getD i 0 = x := by rw [HX.out]; simp [List.getD, List.getElem?_eq_getElem hai]
              rw [e1, ← HY.out]
              rw [← HZ.out] at h1
              rw [Nat.add_mul] at h1
              omega
            · have := row_set hr (i + j) hck (z + x * y)
              rw [e] at this
              exact this
            · exact (hbl.setCell (p := ⟨w.heap.size, i + j, none⟩) (Nat.le_refl _) _).trans ⟨rfl, rfl, rfl, Nat.le_refl _, fun _ _ => rfl⟩
          case round =>
            clear hc hd hv hr hbl cx cy cz fz HX HY HZ hxyi hxy0 hx1 hy1 hz1 hck
            obtain ⟨k, c, hk, rfl, hc, hd0, hu, hv, hr, hbl⟩ := hrel
            have hd : Hid (∀ m, m ≠ k → c.getD m 0 < 65536) := hd0
            clear hd0
            have hkc : k < c.length := by have := hc.out; omega
            obtain ⟨u, hu0⟩ : ∃ u, u = c[k] := ⟨_, rfl⟩
            have hu1 : u < 4294967296 := by rw [List.getD_eq_getElem?_getD, List.getElem?_eq_getElem hkc] at hu; rw [hu0]; exact hu
            have cu : wr.cell? ⟨w.heap.size, k, none⟩ = some (.int .i64 (u : Int)) := by rw [hu0]; exact row_at hr k hkc
            have fu : wr.frozen? ⟨w.heap.size, k, none⟩ = false := hr.frozen _
            have HU : Hid (u = c[k]) := hu0
            have HU1 : Hid (u < 4294967296) := hu1
            have hui : (u : Int) < 4294967296 := by omega
            clear hu0 hu hu1
            by_cases hbig : (65536 : Int) ≤ (u : Int)
            · have hk1 : k + 1 < c.length := carry_in c k _ hkc hv.out (by rw [hc.out]; exact HT.out) (by rw [← HU.out]; omega)
              have hk2 : k + 1 < la + lb := by have := hc.out; omega
              obtain ⟨y, hy⟩ : ∃ y, y = c[k + 1] := ⟨_, rfl⟩
              have hy1 : y < 65536 := by
                have := hd.out (k + 1) (by omega)
                rw [List.getD_eq_getElem?_getD, List.getElem?_eq_getElem hk1] at this
                rw [hy]; exact this
              have cy : wr.cell? ⟨w.heap.size, k + 1, none⟩ = some (.int .i64 (y : Int)) := by rw [hy]; exact row_at hr (k + 1) hk1
              have fy : wr.frozen? ⟨w.heap.size, k + 1, none⟩ = false := hr.frozen _
              have HY : Hid (y = c[k + 1]) := hy
              clear hy
              clear hlt hlj hi hj HT ra rb
              go_wp2
              go_region
              go_wp2
              go_roundw
              case rel =>
                have e1 : ((y + u / 65536 : Nat) : Int) = (y : Int) + (u : Int) / 65536 := by omega
                have e2 : ((u % 65536 : Nat) : Int) = (u : Int) % 65536 := by omega
                refine ⟨k + 1, (c.set (k + 1) (y + u / 65536)).set k (u % 65536), by omega, by go_num, ?_, ?_, ?_, ?_, ?_, ?_⟩
                · show List.length _ = _; rw [List.length_set, List.length_set]; exact hc.out
                · intro m hm
                  rw [List.getD_eq_getElem?_getD]
                  by_cases hmk : m = k
                  · subst hmk
                    rw [List.getElem?_set_self (by rw [List.length_set]; omega)]
                    exact Nat.mod_lt _ (by decide)
                  · rw [List.getElem?_set_ne (by omega), List.getElem?_set_ne (by omega)]
                    have := hd.out m hmk
                    rwa [List.getD_eq_getElem?_getD] at this
                · rw [List.getD_eq_getElem?_getD, List.getElem?_set_ne (by omega), List.getElem?_set_self hk1]
                  show y + u / 65536 < _
                  have := HU1.out
                  omega
                · show dv _ = _
                  rw [HU.out, HY.out, carry_same c k hk1]
                  exact hv.out
                · have h1 := row_set hr (k + 1) hk1 (y + u / 65536)
                  have h2 := row_set h1.drew k (by rw [List.length_set]; omega) (u % 65536)
                  rw [e1, e2] at h2
                  exact h2
                · exact ((hbl.setCell (p := ⟨w.heap.size, k + 1, none⟩) (Nat.le_refl _) _).setCell (p := ⟨w.heap.size, k, none⟩) (Nat.le_refl _) _).drew
              case measure => simp [intOf]; omega
            · go_wp2
              go_roundw
              case rel =>
                refine ⟨j + 1, c, by omega, by go_num, hc, ?_, hv, hr, hbl⟩
                intro d hdm
                obtain ⟨m, hm, rfl⟩ := List.getElem_of_mem hdm
                by_cases hmk : m = k
                · subst hmk; rw [← HU.out]; omega
                · have := hd.out m hmk
                  rwa [List.getD_eq_getElem?_getD, List.getElem?_eq_getElem hm] at this
              case measure => simp [intOf]; omega
        · go_wp2
          go_roundw
          case rel =>
            have : j = lb := by omega
            subst this
            refine ⟨i + 1, c, by omega, by go_num, hc, hd, ?_, hr, hbl⟩
            show dv c = _
            rw [hv.out, ← eb.out]
            exact part_row a b i (by have := ea.out; omega)
          case measure => simp [intOf]; omega
    · go_wp2
      go_ret
      refine ⟨c, hc, hd, ?_, rfl, hr, hbl⟩
      have : i = la := by omega
      subst this
      rw [hv.out]
      simp [part, dv, ← ea.out]
end Go.Proofs.YtapijhhmjjplmaaGreatDoor
namespace Go.Proofs.YtapijhhmjjplmaaGreatDoor
open Go.RowKit
/-- Is (whole + t / 2^32)^k at most p? (pt: 2 k.) -/
def belowB (whole t p k pt : Nat) : Bool := decide ((whole * 4294967296 + t) ^ k ≤ p * 65536 ^ pt)
set_option maxRecDepth 100000 in
set_option maxHeartbeats 1000000 in
theorem below2 (whole t p : Nat) (w : World) (hw : whole < 65536) (ht : t < 4294967296) :
    Calls Tryz.prog 181 #[.int .i64 (whole : Int), .int .i64 (t : Int), .int .i64 (p : Int), .int .i64 2] w fun e w' =>
      e = .returned (.bool (belowB whole t p 2 4)) ∧ Below w.heap.size w w' := by
  have hti : (t : Int) < 4294967296 := by omega
  have HT : Hid (t < 4294967296) := ht
  clear ht
  have R0 : Row (w.alloc (.cells #[.int .i64 ((t : Int) % 65536), .int .i64 ((t : Int) / 65536), .int .i64 (whole : Int)] 3)) w.heap.size (ints [t % 65536, t / 65536, whole]) :=
    Row.new [(t : Int) % 65536, (t : Int) / 65536, (whole : Int)] 3
  have hdig : ∀ d ∈ [t % 65536, t / 65536, whole], d < 65536 := by
    have := HT.out
    intro d hd
    simp only [List.mem_cons, List.not_mem_nil, or_false] at hd
    omega
  have hal := (Below.refl w.heap.size w).alloc (Nat.le_refl _) (.cells #[.int .i64 ((t : Int) % 65536), .int .i64 ((t : Int) / 65536), .int .i64 (whole : Int)] 3)
  go_enter Tryz.func181, Tryz.ntmps181
  go_wp2_with fail
  refine (times_any w.heap.size w.heap.size 3 3 3 3 _ _ _ R0 R0 hdig hdig (show List.length _ = 3 from rfl) (show List.length _ = 3 from rfl) (by omega) (by omega)).mono ?_
  rintro e w1 ⟨c1, hl1, hd1, hv1, rfl, hr1, hb1⟩
  have hbW : Below w.heap.size w w1 := hal.trans (hb1.mono (by simp))
  generalize hcc : c1 = c at *
  have HV : Hid (dv c = (whole * 4294967296 + t) ^ 2) := by
    show dv c = _
    rw [hv1, dv3, Nat.pow_succ, Nat.pow_one]
  have hrow : Row w1 (w.heap.size + 1) (ints c) := by simpa using hr1
  have hd := hd1
  have hl := hl1
  clear hv1 hd1 hl1 hr1 hal hb1 R0 hcc
  have HD : Hid (∀ d ∈ c, d < 65536) := hd
  have HL : Hid (c.length = 6) := hl
  clear hd hl hdig
  go_wp2
  go_loop [12, 13, 14] (fun n r i => ∃ m n0 r0 : Nat, m ≤ 6 ∧ i = .int .i64 ((m : Int) - 1) ∧ n = .int .i64 (n0 : Int) ∧ r = .int .i64 (r0 : Int) ∧ Hid (n0 = dv (c.drop (max m 4))) ∧ Hid (r0 = ((c.take 4).drop m).sum)) (fun _ _ i => (intOf i + 1).toNat)
  case atStart =>
    refine ⟨6, 0, 0, by omega, rfl, rfl, rfl, ?_, ?_⟩
    · show 0 = _
      rw [List.drop_of_length_le (by rw [HL.out]; decide)]; rfl
    · show 0 = _
      rw [List.drop_of_length_le (by rw [List.length_take]; omega)]; rfl
  case round =>
    obtain ⟨m, n0, r0, hm, rfl, rfl, rfl, hn, hr⟩ := hrel
    by_cases hm0 : 0 < m
    · obtain ⟨m, rfl⟩ : ∃ m', m = m' + 1 := ⟨m - 1, by omega⟩
      have hmc : m < c.length := by have := HL.out; omega
      obtain ⟨x, hx⟩ : ∃ x, x = c[m] := ⟨_, rfl⟩
      have hx1 : x < 65536 := by rw [hx]; exact HD.out _ (List.getElem_mem _)
      have cx : w1.cell? ⟨(w.heap.size + 1), m, none⟩ = some (.int .i64 (x : Int)) := by rw [hx]; exact row_at hrow m hmc
      have HX : Hid (x = c[m]) := hx
      clear hx
      have em : ((m + 1 : Nat) : Int) - 1 = (m : Int) := by omega
      rw [em]
      clear em
      by_cases hmp : 4 ≤ m
      · have hn1 : (n0 : Int) ≤ 4294967295 := by
          have h1 := dv_drop_lt c HD.out (m + 1) (by have := HL.out; omega)
          have h2 := hn.out
          rw [Nat.max_eq_left (by omega)] at h2
          omega
        clear HL HD HV HT hti hw hbW hrow
        go_wp2
        go_round
        case rel =>
          refine ⟨m, x + 65536 * n0, r0, by omega, by go_num, ?_, rfl, ?_, ?_⟩
          · have e : ((x + 65536 * n0 : Nat) : Int) = 65536 * (n0 : Int) + (x : Int) := by omega
            rw [e]
          · show _ = _
            have h2 := hn.out
            rw [Nat.max_eq_left (by omega)] at h2
            rw [Nat.max_eq_left hmp, dv_drop c m hmc, ← HX.out, h2]
          · show _ = _
            rw [hr.out, List.drop_of_length_le (by rw [List.length_take]; omega), List.drop_of_length_le (by rw [List.length_take]; omega)]
        case measure => (simp [intOf]; try omega)
      · have hr1 : r0 ≤ 393210 := by rw [hr.out]; exact sum_drop_lt c HD.out 4 (m + 1) (by omega)
        have hle : 4 ≤ c.length := by have := HL.out; omega
        clear HL HD HV HT hti hw hbW hrow
        go_wp2
        go_round
        case rel =>
          refine ⟨m, n0, x + r0, by omega, by go_num, rfl, ?_, ?_, ?_⟩
          · have e : ((x + r0 : Nat) : Int) = (r0 : Int) + (x : Int) := by omega
            rw [e]
          · show _ = _
            rw [hn.out, Nat.max_eq_right (by omega), Nat.max_eq_right (by omega)]
          · show _ = _
            rw [hr.out, sum_drop c 4 m (by omega) hle, ← HX.out]
        case measure => (simp [intOf]; try omega)
    · have hm1 : m = 0 := by omega
      subst hm1
      have hfin := below_iff c 4 p HD.out (by rw [HL.out]; decide)
      have h1 := hn.out
      have h2 := hr.out
      rw [Nat.max_eq_right (by omega)] at h1
      rw [List.drop_zero] at h2
      rw [← h1, ← h2, HV.out] at hfin
      have HF : Hid ((n0 < p ∨ n0 = p ∧ r0 = 0) ↔ (whole * 4294967296 + t) ^ 2 ≤ p * 65536 ^ 4) := hfin
      clear hfin h1 h2 hn hr HL HD HV HT hrow
      by_cases q1 : n0 < p
      · have hres : belowB whole t p 2 4 = true := decide_eq_true (HF.out.1 (.inl q1))
        have HR : Hid (belowB whole t p 2 4 = true) := hres
        clear hres HF
        go_wp2
        go_ret
        exact ⟨by rw [HR.out]; rfl, hbW⟩
      · by_cases q2 : n0 = p
        · by_cases q3 : r0 = 0
          · have HR : Hid (belowB whole t p 2 4 = true) := decide_eq_true (HF.out.1 (.inr ⟨q2, q3⟩))
            have b1 : ((n0 : Int) == (p : Int)) = true := by rw [q2]; exact beq_self_eq_true _
            have b2 : ((r0 : Int) == 0) = true := by rw [q3]; rfl
            clear q2 q3 HF
            go_wp2
            go_ret
            exact ⟨by rw [HR.out]; rfl, hbW⟩
          · have HR : Hid (belowB whole t p 2 4 = false) := decide_eq_false fun h => by
              rcases HF.out.2 h with h | h
              · exact q1 h
              · exact q3 h.2
            have b1 : ((n0 : Int) == (p : Int)) = true := by rw [q2]; exact beq_self_eq_true _
            have b2 : ((r0 : Int) == 0) = false := by rw [beq_eq_false_iff_ne]; omega
            clear q2 q3 HF
            go_wp2
            go_ret
            exact ⟨by rw [HR.out]; rfl, hbW⟩
        · have HR : Hid (belowB whole t p 2 4 = false) := decide_eq_false fun h => by
            rcases HF.out.2 h with h | h
            · exact q1 h
            · exact q2 h.1
          have b1 : ((n0 : Int) == (p : Int)) = false := by rw [beq_eq_false_iff_ne]; omega
          clear q2 HF
          go_wp2
          go_ret
          exact ⟨by rw [HR.out]; rfl, hbW⟩
set_option maxRecDepth 100000 in
set_option maxHeartbeats 1000000 in
theorem below3 (whole t p : Nat) (w : World) (hw : whole < 65536) (ht : t < 4294967296) :
    Calls Tryz.prog 181 #[.int .i64 (whole : Int), .int .i64 (t : Int), .int .i64 (p : Int), .int .i64 3] w fun e w' =>
      e = .returned (.bool (belowB whole t p 3 6)) ∧ Below w.heap.size w w' := by
  have hti : (t : Int) < 4294967296 := by omega
  have HT : Hid (t < 4294967296) := ht
  clear ht
  have R0 : Row (w.alloc (.cells #[.int .i64 ((t : Int) % 65536), .int .i64 ((t : Int) / 65536), .int .i64 (whole : Int)] 3)) w.heap.size (ints [t % 65536, t / 65536, whole]) :=
    Row.new [(t : Int) % 65536, (t : Int) / 65536, (whole : Int)] 3
  have hdig : ∀ d ∈ [t % 65536, t / 65536, whole], d < 65536 := by
    have := HT.out
    intro d hd
    simp only [List.mem_cons, List.not_mem_nil, or_false] at hd
    omega
  have hal := (Below.refl w.heap.size w).alloc (Nat.le_refl _) (.cells #[.int .i64 ((t : Int) % 65536), .int .i64 ((t : Int) / 65536), .int .i64 (whole : Int)] 3)
  go_enter Tryz.func181, Tryz.ntmps181
  go_wp2_with fail
  refine (times_any w.heap.size w.heap.size 3 3 3 3 _ _ _ R0 R0 hdig hdig (show List.length _ = 3 from rfl) (show List.length _ = 3 from rfl) (by omega) (by omega)).mono ?_
  rintro e w1 ⟨c1, hl1, hd1, hv1, rfl, hr1, hb1⟩
  have R1 : Row w1 w.heap.size (ints [t % 65536, t / 65536, whole]) := R0.on hb1 (by simp)
  have hr1' : Row w1 (w.heap.size + 1) (ints c1) := by simpa using hr1
  have hbW1 : Below w.heap.size w w1 := hal.trans (hb1.mono (by simp))
  clear hr1 hal hb1 R0
  simp only [World.size_alloc]
  go_wp2_with fail
  refine (times_any (w.heap.size + 1) w.heap.size 6 3 6 3 _ _ _ hr1' R1 hd1 hdig hl1 (show List.length _ = 3 from rfl) (by omega) (by omega)).mono ?_
  rintro e w2 ⟨c, hl, hd, hv2, rfl, hrow, hb2⟩
  have hsz := hbW1.size
  have hbW : Below w.heap.size w w2 := hbW1.trans (hb2.mono hsz)
  have HV : Hid (dv c = (whole * 4294967296 + t) ^ 3) := by
    show dv c = _
    rw [hv2, hv1, dv3, Nat.pow_succ, Nat.pow_succ, Nat.pow_one]
  clear hv1 hv2 hd1 hl1 hr1' R1 hbW1 hb2 c1
  have HD : Hid (∀ d ∈ c, d < 65536) := hd
  have HL : Hid (c.length = 9) := hl
  clear hd hl hdig
  go_wp2
  go_loop [12, 13, 14] (fun n r i => ∃ m n0 r0 : Nat, m ≤ 9 ∧ i = .int .i64 ((m : Int) - 1) ∧ n = .int .i64 (n0 : Int) ∧ r = .int .i64 (r0 : Int) ∧ Hid (n0 = dv (c.drop (max m 6))) ∧ Hid (r0 = ((c.take 6).drop m).sum)) (fun _ _ i => (intOf i + 1).toNat)
  case atStart =>
    refine ⟨9, 0, 0, by omega, rfl, rfl, rfl, ?_, ?_⟩
    · show 0 = _
      rw [List.drop_of_length_le (by rw [HL.out]; decide)]; rfl
    · show 0 = _
      rw [List.drop_of_length_le (by rw [List.length_take]; omega)]; rfl
  case round =>
    obtain ⟨m, n0, r0, hm, rfl, rfl, rfl, hn, hr⟩ := hrel
    by_cases hm0 : 0 < m
    · obtain ⟨m, rfl⟩ : ∃ m', m = m' + 1 := ⟨m - 1, by omega⟩
      have hmc : m < c.length := by have := HL.out; omega
      obtain ⟨x, hx⟩ : ∃ x, x = c[m] := ⟨_, rfl⟩
      have hx1 : x < 65536 := by rw [hx]; exact HD.out _ (List.getElem_mem _)
      have cx : w2.cell? ⟨w1.heap.size, m, none⟩ = some (.int .i64 (x : Int)) := by rw [hx]; exact row_at hrow m hmc
      have HX : Hid (x = c[m]) := hx
      clear hx
      have em : ((m + 1 : Nat) : Int) - 1 = (m : Int) := by omega
      rw [em]
      clear em
      by_cases hmp : 6 ≤ m
      · have hn1 : (n0 : Int) ≤ 4294967295 := by
          have h1 := dv_drop_lt c HD.out (m + 1) (by have := HL.out; omega)
          have h2 := hn.out
          rw [Nat.max_eq_left (by omega)] at h2
          omega
        clear HL HD HV HT hti hw hbW hrow
        go_wp2
        go_round
        case rel =>
          refine ⟨m, x + 65536 * n0, r0, by omega, by go_num, ?_, rfl, ?_, ?_⟩
          · have e : ((x + 65536 * n0 : Nat) : Int) = 65536 * (n0 : Int) + (x : Int) := by omega
            rw [e]
          · show _ = _
            have h2 := hn.out
            rw [Nat.max_eq_left (by omega)] at h2
            rw [Nat.max_eq_left hmp, dv_drop c m hmc, ← HX.out, h2]
          · show _ = _
            rw [hr.out, List.drop_of_length_le (by rw [List.length_take]; omega), List.drop_of_length_le (by rw [List.length_take]; omega)]
        case measure => (simp [intOf]; try omega)
      · have hr1 : r0 ≤ 393210 := by rw [hr.out]; exact sum_drop_lt c HD.out 6 (m + 1) (by omega)
        have hle : 6 ≤ c.length := by have := HL.out; omega
        clear HL HD HV HT hti hw hbW hrow
        go_wp2
        go_round
        case rel =>
          refine ⟨m, n0, x + r0, by omega, by go_num, rfl, ?_, ?_, ?_⟩
          · have e : ((x + r0 : Nat) : Int) = (r0 : Int) + (x : Int) := by omega
            rw [e]
          · show _ = _
            rw [hn.out, Nat.max_eq_right (by omega), Nat.max_eq_right (by omega)]
          · show _ = _
            rw [hr.out, sum_drop c 6 m (by omega) hle, ← HX.out]
        case measure => (simp [intOf]; try omega)
    · have hm1 : m = 0 := by omega
      subst hm1
      have hfin := below_iff c 6 p HD.out (by rw [HL.out]; decide)
      have h1 := hn.out
      have h2 := hr.out
      rw [Nat.max_eq_right (by omega)] at h1
      rw [List.drop_zero] at h2
      rw [← h1, ← h2, HV.out] at hfin
      have HF : Hid ((n0 < p ∨ n0 = p ∧ r0 = 0) ↔ (whole * 4294967296 + t) ^ 3 ≤ p * 65536 ^ 6) := hfin
      clear hfin h1 h2 hn hr HL HD HV HT hrow
      by_cases q1 : n0 < p
      · have hres : belowB whole t p 3 6 = true := decide_eq_true (HF.out.1 (.inl q1))
        have HR : Hid (belowB whole t p 3 6 = true) := hres
        clear hres HF
        go_wp2
        go_ret
        exact ⟨by rw [HR.out]; rfl, hbW⟩
      · by_cases q2 : n0 = p
        · by_cases q3 : r0 = 0
          · have HR : Hid (belowB whole t p 3 6 = true) := decide_eq_true (HF.out.1 (.inr ⟨q2, q3⟩))
            have b1 : ((n0 : Int) == (p : Int)) = true := by rw [q2]; exact beq_self_eq_true _
            have b2 : ((r0 : Int) == 0) = true := by rw [q3]; rfl
            clear q2 q3 HF
            go_wp2
            go_ret
            exact ⟨by rw [HR.out]; rfl, hbW⟩
          · have HR : Hid (belowB whole t p 3 6 = false) := decide_eq_false fun h => by
              rcases HF.out.2 h with h | h
              · exact q1 h
              · exact q3 h.2
            have b1 : ((n0 : Int) == (p : Int)) = true := by rw [q2]; exact beq_self_eq_true _
            have b2 : ((r0 : Int) == 0) = false := by rw [beq_eq_false_iff_ne]; omega
            clear q2 q3 HF
            go_wp2
            go_ret
            exact ⟨by rw [HR.out]; rfl, hbW⟩
        · have HR : Hid (belowB whole t p 3 6 = false) := decide_eq_false fun h => by
            rcases HF.out.2 h with h | h
            · exact q1 h
            · exact q2 h.1
          have b1 : ((n0 : Int) == (p : Int)) = false := by rw [beq_eq_false_iff_ne]; omega
          clear q2 HF
          go_wp2
          go_ret
          exact ⟨by rw [HR.out]; rfl, hbW⟩
end Go.Proofs.YtapijhhmjjplmaaGreatDoor
namespace Go.Proofs.YtapijhhmjjplmaaGreatDoor
open Go.RowKit
/-- The whole part of a root, from x on. -/
def whl (p k : Nat) : Nat → Nat → Nat
  | 0, x => x
  | f + 1, x => if (x + 1) ^ k ≤ p then whl p k f (x + 1) else x
/-- The bits behind the point, from bit b - 1 on. -/
def bt (wh p k : Nat) : Nat → Nat → Nat
  | 0, v => v
  | b + 1, v => bt wh p k b (if belowB wh (v + 2 ^ b) p k (2 * k) then v + 2 ^ b else v)
def rootN (p k : Nat) : Nat := bt (whl p k 399 1) p k 32 0
theorem two32 : 0 + 2 ^ 32 ≤ 4294967296 := by rw [Nat.zero_add]; exact Nat.le_refl _
theorem power2 (n : Nat) (w : World) (h : n ≤ 1000) : Calls Tryz.prog 180 #[.int .i64 (n : Int), .int .i64 2] w fun e w' => e = .returned (.int .i64 ((n ^ 2 : Nat) : Int)) ∧ w = w' := by
  have h1 : (n : Int) * (n : Int) ≤ 1000000 := by
    have : n * n ≤ 1000 * 1000 := Nat.mul_le_mul h h
    have h2 : ((n * n : Nat) : Int) ≤ 1000000 := by omega
    rwa [Int.natCast_mul] at h2
  have h0 : 0 ≤ (n : Int) * (n : Int) := Int.mul_nonneg (Int.natCast_nonneg _) (Int.natCast_nonneg _)
  go_enter Tryz.func180, Tryz.ntmps180
  go_wp2
  go_ret
  exact ⟨by rw [Nat.pow_succ, Nat.pow_one, Int.natCast_mul]; rfl, rfl⟩
theorem power3 (n : Nat) (w : World) (h : n ≤ 1000) : Calls Tryz.prog 180 #[.int .i64 (n : Int), .int .i64 3] w fun e w' => e = .returned (.int .i64 ((n ^ 3 : Nat) : Int)) ∧ w = w' := by
  have h1 : (n : Int) * (n : Int) ≤ 1000000 := by
    have : n * n ≤ 1000 * 1000 := Nat.mul_le_mul h h
    have h2 : ((n * n : Nat) : Int) ≤ 1000000 := by omega
    rwa [Int.natCast_mul] at h2
  have h0 : 0 ≤ (n : Int) * (n : Int) := Int.mul_nonneg (Int.natCast_nonneg _) (Int.natCast_nonneg _)
  have h3 : (n : Int) * (n : Int) * (n : Int) ≤ 1000000000 := by
    have : n * n * n ≤ 1000 * 1000 * 1000 := Nat.mul_le_mul (Nat.mul_le_mul h h) h
    have h2 : ((n * n * n : Nat) : Int) ≤ 1000000000 := by omega
    rwa [Int.natCast_mul, Int.natCast_mul] at h2
  have h4 : 0 ≤ (n : Int) * (n : Int) * (n : Int) := Int.mul_nonneg h0 (Int.natCast_nonneg _)
  go_enter Tryz.func180, Tryz.ntmps180
  go_wp2
  go_ret
  exact ⟨by rw [Nat.pow_succ, Nat.pow_succ, Nat.pow_one, Int.natCast_mul, Int.natCast_mul]; rfl, rfl⟩
set_option maxRecDepth 100000 in
set_option maxHeartbeats 1000000 in
theorem root2 (p : Nat) (w : World) (hp : p ≤ 398) (hp1 : 1 ≤ p) :
    Calls Tryz.prog 106 #[.int .i64 (p : Int), .int .i64 2] w fun e w' => e = .returned (.int .i64 (rootN p 2 : Int)) ∧ Below w.heap.size w w' := by
  go_enter Tryz.func106, Tryz.ntmps106
  go_wp2
  go_loop [5] (fun v => ∃ x f : Nat, x + f = 400 ∧ 1 ≤ x ∧ x ≤ p ∧ v = .int .i64 (x : Int) ∧ Hid (whl p 2 f x = whl p 2 399 1)) (fun v => 400 - (intOf v).toNat)
  case atStart => exact ⟨1, 399, rfl, by omega, hp1, rfl, rfl⟩
  case round =>
    obtain ⟨x, f, hf, hx1, hx2, rfl, hw⟩ := hrel
    obtain ⟨f, rfl⟩ : ∃ f', f = f' + 1 := ⟨f - 1, by omega⟩
    have e1 : ((x + 1 : Nat) : Int) = (x : Int) + 1 := by omega
    have hpw := power2 (x + 1)
    rw [e1] at hpw
    clear e1
    have HF : Hid (x + (f + 1) = 400) := hf
    clear hf
    obtain ⟨q, hq⟩ : ∃ q : Nat, q = (x + 1) ^ 2 := ⟨_, rfl⟩
    rw [← hq] at hpw
    have HQ : Hid (q = (x + 1) ^ 2) := hq
    clear hq
    have HP : Hid (∀ (w : World), x + 1 ≤ 1000 → Calls Tryz.prog 180 #[.int .i64 ((x : Int) + 1), .int .i64 2] w fun e w' => e = .returned (.int .i64 (q : Int)) ∧ w = w') := hpw
    clear hpw
    by_cases hle : q ≤ p
    · have hx3 : x + 1 ≤ p := by
        have := Nat.le_self_pow (n := 2) (by decide) (x + 1)
        rw [← HQ.out] at this
        omega
      go_wp2_with (go_at_call 180; refine (HP.out _ (by omega)).mono ?_; rintro e w' ⟨rfl, rfl⟩)
      go_round
      case rel =>
        have := HF.out
        refine ⟨x + 1, f, by omega, by omega, hx3, by go_num, ?_⟩
        show _ = _
        rw [← hw.out]
        conv => rhs; unfold whl
        rw [if_pos (by rw [← HQ.out]; exact hle)]
      case measure => (simp [intOf]; try omega)
    · have hwh : whl p 2 399 1 = x := by
        rw [← hw.out]
        unfold whl
        rw [if_neg (by rw [← HQ.out]; exact hle)]
      have HW : Hid (whl p 2 399 1 = x) := hwh
      clear hwh hw
      go_wp2_with (go_at_call 180; refine (HP.out _ (by omega)).mono ?_; rintro e w' ⟨rfl, rfl⟩)
      clear HP HQ HF hle
      go_loopw [6, 7] (fun v i wr => ∃ b y : Nat, b ≤ 32 ∧ i = .int .i64 ((b : Int) - 1) ∧ v = .int .i64 (y : Int) ∧ Hid (y + 2 ^ b ≤ 4294967296) ∧ Hid (bt x p 2 b y = bt x p 2 32 0) ∧ Below w.heap.size w wr) (fun _ i _ => (intOf i + 1).toNat)
      case atStart => exact ⟨32, 0, by omega, rfl, rfl, two32, rfl, Below.refl _ _⟩
      case round =>
        obtain ⟨b, y, hb, rfl, rfl, hy, hbt, hbl⟩ := hrel
        by_cases hb0 : 0 < b
        · obtain ⟨b, rfl⟩ : ∃ b', b = b' + 1 := ⟨b - 1, by omega⟩
          have em : ((b + 1 : Nat) : Int) - 1 = (b : Int) := by omega
          rw [em]
          clear em
          have hp2 : 2 ^ b ≤ 2147483648 := Nat.le_trans (Nat.pow_le_pow_right (by decide) (by omega : b ≤ 31)) (Nat.le_refl _)
          have hy1 := hy.out
          rw [Nat.pow_succ] at hy1
          have hyy : y + 2 ^ b < 4294967296 := by have : 0 < 2 ^ b := Nat.pos_of_ne_zero (by simp); omega
          have ep : (2 : Int) ^ b = ((2 ^ b : Nat) : Int) := by rw [Int.natCast_pow]; rfl
          have ew : wrap64 ((y : Int) + wrap64 (2 ^ b)) = ((y + 2 ^ b : Nat) : Int) := by
            rw [ep, Go.IntWalk.wrap64_in ((2 ^ b : Nat) : Int) (by omega), Go.IntWalk.wrap64_in _ (by omega)]
            omega
          have EW : Hid (wrap64 ((y : Int) + wrap64 (2 ^ b)) = ((y + 2 ^ b : Nat) : Int)) := ew
          have HY : Hid (y + 2 ^ b < 4294967296) := hyy
          have HY2 : Hid (y + 2 ^ b * 2 ≤ 4294967296) := hy1
          clear ew ep hp2 hyy hy1 hy
          go_wp2_with fail
          rw [EW.out]
          refine (below2 x (y + 2 ^ b) p _ (by omega) HY.out).mono ?_
          rintro e w1 ⟨rfl, hw1⟩
          have hbl1 : Below w.heap.size w w1 := hbl.trans (hw1.mono hbl.size)
          have HB : Hid (Below w.heap.size w w1) := hbl1
          clear hbl1 hw1 hbl EW
          obtain ⟨z, hz⟩ : ∃ z, z = y + 2 ^ b := ⟨_, rfl⟩
          rw [← hz]
          have HZ : Hid (z = y + 2 ^ b) := hz
          clear hz
          cases hres : belowB x z p 2 4
          · have HR : Hid (belowB x z p 2 (2 * 2) = false) := hres
            clear hres
            go_wp2
            go_roundw
            case rel =>
              refine ⟨b, y, by omega, by go_num, rfl, ?_, ?_, HB.out⟩
              · show _ ≤ _; have := HY2.out; omega
              · show _ = _
                rw [← hbt.out]
                conv => rhs; unfold bt
                rw [← HZ.out, HR.out]
                rfl
            case measure => (simp [intOf]; try omega)
          · have HR : Hid (belowB x z p 2 (2 * 2) = true) := hres
            clear hres
            go_wp2
            go_roundw
            case rel =>
              refine ⟨b, z, by omega, by go_num, rfl, ?_, ?_, HB.out⟩
              · show _ ≤ _; have := HY2.out; have := HZ.out; omega
              · show _ = _
                rw [← hbt.out]
                conv => rhs; unfold bt
                rw [← HZ.out, HR.out]
                rfl
            case measure => (simp [intOf]; try omega)
        · have hb1 : b = 0 := by omega
          subst hb1
          go_wp2
          go_ret
          refine ⟨?_, hbl⟩
          have : rootN p 2 = y := by
            unfold rootN
            rw [HW.out, ← hbt.out]
            rfl
          rw [this]
          rfl
set_option maxRecDepth 100000 in
set_option maxHeartbeats 1000000 in
theorem root3 (p : Nat) (w : World) (hp : p ≤ 398) (hp1 : 1 ≤ p) :
    Calls Tryz.prog 106 #[.int .i64 (p : Int), .int .i64 3] w fun e w' => e = .returned (.int .i64 (rootN p 3 : Int)) ∧ Below w.heap.size w w' := by
  go_enter Tryz.func106, Tryz.ntmps106
  go_wp2
  go_loop [5] (fun v => ∃ x f : Nat, x + f = 400 ∧ 1 ≤ x ∧ x ≤ p ∧ v = .int .i64 (x : Int) ∧ Hid (whl p 3 f x = whl p 3 399 1)) (fun v => 400 - (intOf v).toNat)
  case atStart => exact ⟨1, 399, rfl, by omega, hp1, rfl, rfl⟩
  case round =>
    obtain ⟨x, f, hf, hx1, hx2, rfl, hw⟩ := hrel
    obtain ⟨f, rfl⟩ : ∃ f', f = f' + 1 := ⟨f - 1, by omega⟩
    have e1 : ((x + 1 : Nat) : Int) = (x : Int) + 1 := by omega
    have hpw := power3 (x + 1)
    rw [e1] at hpw
    clear e1
    have HF : Hid (x + (f + 1) = 400) := hf
    clear hf
    obtain ⟨q, hq⟩ : ∃ q : Nat, q = (x + 1) ^ 3 := ⟨_, rfl⟩
    rw [← hq] at hpw
    have HQ : Hid (q = (x + 1) ^ 3) := hq
    clear hq
    have HP : Hid (∀ (w : World), x + 1 ≤ 1000 → Calls Tryz.prog 180 #[.int .i64 ((x : Int) + 1), .int .i64 3] w fun e w' => e = .returned (.int .i64 (q : Int)) ∧ w = w') := hpw
    clear hpw
    by_cases hle : q ≤ p
    · have hx3 : x + 1 ≤ p := by
        have := Nat.le_self_pow (n := 3) (by decide) (x + 1)
        rw [← HQ.out] at this
        omega
      go_wp2_with (go_at_call 180; refine (HP.out _ (by omega)).mono ?_; rintro e w' ⟨rfl, rfl⟩)
      go_round
      case rel =>
        have := HF.out
        refine ⟨x + 1, f, by omega, by omega, hx3, by go_num, ?_⟩
        show _ = _
        rw [← hw.out]
        conv => rhs; unfold whl
        rw [if_pos (by rw [← HQ.out]; exact hle)]
      case measure => (simp [intOf]; try omega)
    · have hwh : whl p 3 399 1 = x := by
        rw [← hw.out]
        unfold whl
        rw [if_neg (by rw [← HQ.out]; exact hle)]
      have HW : Hid (whl p 3 399 1 = x) := hwh
      clear hwh hw
      go_wp2_with (go_at_call 180; refine (HP.out _ (by omega)).mono ?_; rintro e w' ⟨rfl, rfl⟩)
      clear HP HQ HF hle
      go_loopw [6, 7] (fun v i wr => ∃ b y : Nat, b ≤ 32 ∧ i = .int .i64 ((b : Int) - 1) ∧ v = .int .i64 (y : Int) ∧ Hid (y + 2 ^ b ≤ 4294967296) ∧ Hid (bt x p 3 b y = bt x p 3 32 0) ∧ Below w.heap.size w wr) (fun _ i _ => (intOf i + 1).toNat)
      case atStart => exact ⟨32, 0, by omega, rfl, rfl, two32, rfl, Below.refl _ _⟩
      case round =>
        obtain ⟨b, y, hb, rfl, rfl, hy, hbt, hbl⟩ := hrel
        by_cases hb0 : 0 < b
        · obtain ⟨b, rfl⟩ : ∃ b', b = b' + 1 := ⟨b - 1, by omega⟩
          have em : ((b + 1 : Nat) : Int) - 1 = (b : Int) := by omega
          rw [em]
          clear em
          have hp2 : 2 ^ b ≤ 2147483648 := Nat.le_trans (Nat.pow_le_pow_right (by decide) (by omega : b ≤ 31)) (Nat.le_refl _)
          have hy1 := hy.out
          rw [Nat.pow_succ] at hy1
          have hyy : y + 2 ^ b < 4294967296 := by have : 0 < 2 ^ b := Nat.pos_of_ne_zero (by simp); omega
          have ep : (2 : Int) ^ b = ((2 ^ b : Nat) : Int) := by rw [Int.natCast_pow]; rfl
          have ew : wrap64 ((y : Int) + wrap64 (2 ^ b)) = ((y + 2 ^ b : Nat) : Int) := by
            rw [ep, Go.IntWalk.wrap64_in ((2 ^ b : Nat) : Int) (by omega), Go.IntWalk.wrap64_in _ (by omega)]
            omega
          have EW : Hid (wrap64 ((y : Int) + wrap64 (2 ^ b)) = ((y + 2 ^ b : Nat) : Int)) := ew
          have HY : Hid (y + 2 ^ b < 4294967296) := hyy
          have HY2 : Hid (y + 2 ^ b * 2 ≤ 4294967296) := hy1
          clear ew ep hp2 hyy hy1 hy
          go_wp2_with fail
          rw [EW.out]
          refine (below3 x (y + 2 ^ b) p _ (by omega) HY.out).mono ?_
          rintro e w1 ⟨rfl, hw1⟩
          have hbl1 : Below w.heap.size w w1 := hbl.trans (hw1.mono hbl.size)
          have HB : Hid (Below w.heap.size w w1) := hbl1
          clear hbl1 hw1 hbl EW
          obtain ⟨z, hz⟩ : ∃ z, z = y + 2 ^ b := ⟨_, rfl⟩
          rw [← hz]
          have HZ : Hid (z = y + 2 ^ b) := hz
          clear hz
          cases hres : belowB x z p 3 6
          · have HR : Hid (belowB x z p 3 (2 * 3) = false) := hres
            clear hres
            go_wp2
            go_roundw
            case rel =>
              refine ⟨b, y, by omega, by go_num, rfl, ?_, ?_, HB.out⟩
              · show _ ≤ _; have := HY2.out; omega
              · show _ = _
                rw [← hbt.out]
                conv => rhs; unfold bt
                rw [← HZ.out, HR.out]
                rfl
            case measure => (simp [intOf]; try omega)
          · have HR : Hid (belowB x z p 3 (2 * 3) = true) := hres
            clear hres
            go_wp2
            go_roundw
            case rel =>
              refine ⟨b, z, by omega, by go_num, rfl, ?_, ?_, HB.out⟩
              · show _ ≤ _; have := HY2.out; have := HZ.out; omega
              · show _ = _
                rw [← hbt.out]
                conv => rhs; unfold bt
                rw [← HZ.out, HR.out]
                rfl
            case measure => (simp [intOf]; try omega)
        · have hb1 : b = 0 := by omega
          subst hb1
          go_wp2
          go_ret
          refine ⟨?_, hbl⟩
          have : rootN p 3 = y := by
            unfold rootN
            rw [HW.out, ← hbt.out]
            rfl
          rw [this]
          rfl
end Go.Proofs.YtapijhhmjjplmaaGreatDoor
namespace Go.Proofs.YtapijhhmjjplmaaGreatDoor
open Go.RowKit
/-- Does no earlier prime up to the root divide p? -/
def okp (l : List Nat) (p : Nat) : Bool := (l.takeWhile fun q => decide (q * q ≤ p)).all fun q => p % q != 0
def okTo (l : List Nat) (p i : Nat) : Bool := (l.take i).all fun q => p % q != 0
/-- What is found when 2 .. n + 1 have been asked. -/
def prs : Nat → List Nat
  | 0 => []
  | n + 1 => if okp (prs n) (n + 2) then prs n ++ [n + 2] else prs n
theorem prs_range : ∀ n, ∀ q ∈ prs n, 2 ≤ q ∧ q ≤ n + 1
  | 0, q, h => by cases h
  | n + 1, q, h => by
    unfold prs at h
    split at h
    · rcases List.mem_append.1 h with h | h
      · have := prs_range n q h; omega
      · rw [List.mem_singleton] at h; omega
    · have := prs_range n q h; omega
theorem prs_few : ((List.range 310).all fun n => decide ((prs n).length < 64)) = true := by decide +kernel
theorem prs_all : (prs 310).length = 64 := by decide +kernel
theorem prs_lt (n : Nat) (h : n < 310) : (prs n).length < 64 := by
  have := List.all_eq_true.1 prs_few n (List.mem_range.2 h)
  simpa using this
theorem takeWhile_take (l : List Nat) (p : Nat) : ∀ i, i ≤ l.length → (∀ j (h : j < l.length), j < i → l[j] * l[j] ≤ p) → (∀ h : i < l.length, ¬ l[i] * l[i] ≤ p) → (l.takeWhile fun q => decide (q * q ≤ p)) = l.take i := by
  induction l with
  | nil => intro i _ _ _; simp
  | cons q r ih =>
    intro i hi h1 h2
    cases i with
    | zero =>
      have := h2 (by simp)
      simp only [List.getElem_cons_zero] at this
      simp [this]
    | succ i =>
      have h0 := h1 0 (by simp) (by omega)
      simp only [List.getElem_cons_zero] at h0
      rw [List.takeWhile_cons, if_pos (by simpa using h0), List.take_succ_cons]
      rw [ih i (by simpa using hi) (fun j hj hji => by have := h1 (j + 1) (by simpa using hj) (by omega); simpa using this) (fun h => by have := h2 (by simpa using h); simpa using this)]
theorem okp_eq (l : List Nat) (p i : Nat) (hi : i ≤ l.length) (h1 : ∀ j (h : j < l.length), j < i → l[j] * l[j] ≤ p) (h2 : ∀ h : i < l.length, ¬ l[i] * l[i] ≤ p) : okp l p = okTo l p i := by
  unfold okp okTo
  rw [takeWhile_take l p i hi h1 h2]
theorem okTo_succ (l : List Nat) (p i : Nat) (h : i < l.length) : okTo l p (i + 1) = (okTo l p i && (p % l[i] != 0)) := by
  unfold okTo
  rw [List.take_succ_eq_append_getElem h, List.all_append]
  simp
def iv (l : List Nat) : List Value := l.map fun q : Nat => Value.int .i64 (q : Int)
theorem iv_length (l : List Nat) : (iv l).length = l.length := by simp [iv]
theorem iv_append (l m : List Nat) : iv (l ++ m) = iv l ++ iv m := by simp [iv]
theorem iv_at (l : List Nat) (j : Nat) (h : j < l.length) : (iv l)[j]? = some (.int .i64 (l[j] : Int)) := by simp [iv, h]
theorem own_drewN {w : World} {B : Nat} {e : TypeId} {size : Nat} {v : Value} {n : Nat} {xs : List Value} (h : w.ownsRow B e size v n xs) (k : Nat) : (w.drewN k).ownsRow B e size v n xs := h
/-- A slice of ints of the call's own: nil, or cells in a row. -/
theorem own_open {w : World} {B n : Nat} {e : TypeId} {v : Value} {l : List Nat} (h : w.ownsRow B e 1 v n (iv l)) :
    (v = .slice none 0 0 ∧ l = []) ∨ ∃ g cap, v = .slice (some ⟨g, 0, none⟩) n cap ∧ B ≤ g ∧ n = l.length ∧ ∀ j (hj : j < l.length), w.cell? ⟨g, j, none⟩ = some (.int .i64 (l[j] : Int)) := by
  obtain ⟨hl, h⟩ := h
  rw [iv_length, Nat.mul_one] at hl
  rcases h with ⟨rfl, rfl⟩ | ⟨g, cap, cur, rfl, hB, hb, h1, h2, h3, h4⟩
  · exact .inl ⟨rfl, List.eq_nil_of_length_eq_zero hl⟩
  · refine .inr ⟨g, cap, rfl, hB, hl.symm, fun j hj => ?_⟩
    have := iv_at l j hj
    rw [← h4, Nat.mul_one, List.getElem?_take_of_lt (by omega)] at this
    simp only [World.cell?, hb]
    simpa using this
set_option maxRecDepth 100000 in
set_option maxHeartbeats 2000000 in
theorem primes64 (w : World) :
    Calls Tryz.prog 105 #[.int .i64 64] w fun e w' => ∃ v, e = .returned v ∧ w'.ownsRow w.heap.size 3 1 v 64 (iv (prs 310)) ∧ Below w.heap.size w w' := by
  obtain ⟨i0, hi0, hz0, hz1, hz2⟩ := info_parts infoInt
  go_enter Tryz.func105, Tryz.ntmps105
  go_wp2
  go_loopw [3, 4] (fun v pv wr => ∃ n : Nat, n ≤ 310 ∧ pv = .int .i64 ((n : Int) + 2) ∧ wr.ownsRow w.heap.size 3 1 v (prs n).length (iv (prs n)) ∧ Below w.heap.size w wr) (fun _ p _ => 312 - (intOf p).toNat)
  case atStart => exact ⟨0, by omega, rfl, World.ownsRow_nil _ _ _ _, Below.refl _ _⟩
  case round =>
    obtain ⟨n, hn, rfl, hown, hbl⟩ := hrel
    obtain ⟨l, hl⟩ : ∃ l, l = prs n := ⟨_, rfl⟩
    rw [← hl] at hown
    have HL : Hid (l = prs n) := hl
    clear hl
    obtain ⟨len, hlen⟩ : ∃ len, len = l.length := ⟨_, rfl⟩
    rw [← hlen] at hown
    have HLen : Hid (len = l.length) := hlen
    clear hlen
    by_cases hn9 : n < 310
    · have hlt : len < 64 := by rw [HLen.out, HL.out]; exact prs_lt n hn9
      have HO : Hid (wr.ownsRow w.heap.size 3 1 u3 len (iv l)) := hown
      have HBL : Hid (Below w.heap.size w wr) := hbl
      rcases own_open hown with ⟨rfl, hnil⟩ | ⟨g, cap, rfl, hBg, -, hcell⟩
      · have hl0 : len = 0 := by rw [HLen.out, hnil]; rfl
        subst hl0
        clear hown hbl
        have hpn : prs (n + 1) = [n + 2] := by
          conv => lhs; unfold prs
          rw [← HL.out, hnil]
          rfl
        have HPN : Hid (prs (n + 1) = [n + 2]) := hpn
        have HON : Hid (wr.ownsRow w.heap.size 3 1 (.slice none 0 0) 0 []) := World.ownsRow_nil _ _ _ _
        clear hnil hpn HO
        go_wp2
        go_loopw [5, 6] (fun ok i wr' => i = .int .i64 0 ∧ ok = .bool true ∧ Hid (Below w.heap.size w wr')) (fun _ _ _ => 0)
        case atStart => exact ⟨rfl, rfl, HBL⟩
        case round =>
          clear HBL
          obtain ⟨rfl, rfl, HBL⟩ := hrel
          go_wp2
          go_quiet (fail)
          go_wp2_with (at_builtin; refine wpList_append_own_at _ rfl _ _ 34 rfl w.heap.size 3 i0 (.int .i64 0) 1 8 Tryz.underlying34 hi0 hz0 hz1 hz2 rfl (by decide) _ _ _ rfl (World.ownsRow_nil _ _ _ _) _ 1 1 [.int .i64 ((n : Int) + 2)] rfl rfl (cell_one_new _ _ _) ?e2 ?e3 ?e4 ?e5 ?_)
          case e2 => intro u hu; rw [List.mem_singleton] at hu; subst hu; rfl
          case e3 => unfold maxLen; omega
          case e4 => omega
          case e5 => have := HBL.out.size; simp; omega
          intro v' w1 hown' hgrow _ _
          have HO1 : Hid (w1.ownsRow w.heap.size 3 1 v' (0 + 1) ([] ++ [.int .i64 ((n : Int) + 2)])) := hown'
          have HB1 : Hid (Below w.heap.size w w1) := ((below_drewN' HBL.out _).alloc HBL.out.size _).grown hgrow (by have := HBL.out.size; simp; omega) (fun k hk => by cases hk)
          clear hown' hgrow
          go_wp2
          go_roundw
          case rel =>
            refine ⟨n + 1, by omega, by go_num, ?_, HB1.out⟩
            have h2 := HO1.out
            rw [HPN.out]
            exact h2
          case measure => (simp [intOf]; try omega)
      · clear hown hbl
        have HC : Hid (∀ j (hj : j < l.length), wr.cell? ⟨g, j, none⟩ = some (.int .i64 (l[j] : Int))) := hcell
        clear hcell
        go_wp2
        go_loopw [5, 6] (fun ok i wr' => ∃ (m : Nat) (b : Bool), m ≤ len ∧ i = .int .i64 m ∧ ok = .bool b ∧ Hid (b = okTo l (n + 2) m) ∧ Hid (∀ j (h : j < l.length), j < m → l[j] * l[j] ≤ n + 2) ∧ Hid (wr'.ownsRow w.heap.size 3 1 (.slice (some ⟨g, 0, none⟩) len cap) len (iv l)) ∧ Hid (Below w.heap.size w wr')) (fun _ i _ => len - (intOf i).toNat)
        case atStart => exact ⟨0, true, by omega, rfl, rfl, rfl, fun j h hj => absurd hj (Nat.not_lt_zero _), HO, HBL⟩
        case round =>
          clear HO HBL HC
          obtain ⟨m, b, hm, rfl, rfl, hok, hsq, HO, HBL⟩ := hrel
          have hlenl := HLen.out
          by_cases hgo : m < len ∧ l.getD m 0 * l.getD m 0 ≤ n + 2
          · obtain ⟨hml, hgo⟩ := hgo
            have hmc : m < l.length := by omega
            obtain ⟨q, hq⟩ : ∃ q, q = l[m] := ⟨_, rfl⟩
            have hqd : l.getD m 0 = q := by rw [List.getD_eq_getElem?_getD, List.getElem?_eq_getElem hmc, hq]; rfl
            rw [hqd] at hgo
            have hqr : 2 ≤ q ∧ q ≤ n + 1 := by rw [hq]; exact prs_range n _ (by rw [← HL.out]; exact List.getElem_mem _)
            have HQ : Hid (q = l[m]) := hq
            have cq : wr.cell? ⟨g, m, none⟩ = some (.int .i64 (q : Int)) := by
              rcases own_open HO.out with ⟨h, _⟩ | ⟨g', cap', h, _, _, hc⟩
              · cases h
              · cases h
                rw [hq]; exact hc m hmc
            clear hq hqd hlenl
            have hqi : (q : Int) * (q : Int) ≤ (n : Int) + 2 := by
              have h : ((q * q : Nat) : Int) ≤ (n : Int) + 2 := by omega
              rwa [Int.natCast_mul] at h
            have hq0 : 0 ≤ (q : Int) * (q : Int) := Int.mul_nonneg (Int.natCast_nonneg _) (Int.natCast_nonneg _)
            have em : ((n : Int) + 2) % (q : Int) = (((n + 2) % q : Nat) : Int) := by rw [Int.natCast_emod]; rfl
            have hq2 := hqr.1
            have hsq' : Hid (∀ j (h : j < l.length), j < m + 1 → l[j] * l[j] ≤ n + 2) := fun j h hj => by
              rcases Nat.lt_or_ge j m with h' | h'
              · exact hsq.out j h h'
              · have : j = m := by omega
                subst this
                rw [← HQ.out]; exact hgo
            clear hgo
            cases hr : ((n + 2) % q != 0)
            · have hb1 : (((n : Int) + 2) % (q : Int) != 0) = false := by
                rw [em]
                simp only [bne_eq_false_iff_eq] at hr ⊢
                omega
              have HS : Hid (okTo l (n + 2) (m + 1) = false) := by
                show _ = _
                rw [okTo_succ l (n + 2) m hmc, ← HQ.out, hr, Bool.and_false]
              clear hr em hqr
              cases b
              all_goals
                go_wp2
                go_quiet (fail)
                go_wp2
                go_roundw
                case rel => exact ⟨m + 1, false, by omega, by go_num, rfl, HS.out.symm, hsq', HO, below_drewN' HBL.out _⟩
                case measure => (simp [intOf]; try omega)
            · have hb1 : (((n : Int) + 2) % (q : Int) != 0) = true := by
                rw [em]
                simp only [bne_iff_ne, ne_eq] at hr ⊢
                omega
              have HS : Hid (okTo l (n + 2) (m + 1) = b) := by
                show _ = _
                rw [okTo_succ l (n + 2) m hmc, ← HQ.out, hr, Bool.and_true, hok.out]
              clear hr em hqr
              cases b
              all_goals
                go_wp2
                go_quiet (fail)
                go_wp2
                go_roundw
                case rel => exact ⟨m + 1, _, by omega, by go_num, rfl, HS.out.symm, hsq', HO, below_drewN' HBL.out _⟩
                case measure => (simp [intOf]; try omega)
          · have hfin : okp l (n + 2) = b := by
              rw [hok.out]
              refine okp_eq l (n + 2) m (by omega) hsq.out (fun h h' => hgo ⟨by omega, ?_⟩)
              rw [List.getD_eq_getElem?_getD, List.getElem?_eq_getElem h]; exact h'
            have HF : Hid (okp l (n + 2) = b) := hfin
            clear hfin hok hsq
            have hpn : prs (n + 1) = if b then l ++ [n + 2] else l := by
              conv => lhs; unfold prs
              rw [← HL.out, HF.out]
            have HPN : Hid (prs (n + 1) = if b then l ++ [n + 2] else l) := hpn
            clear hpn HF
            by_cases hml : m < len
            · have hmc : m < l.length := by omega
              obtain ⟨q, hq⟩ : ∃ q, q = l[m] := ⟨_, rfl⟩
              have hqd : l.getD m 0 = q := by rw [List.getD_eq_getElem?_getD, List.getElem?_eq_getElem hmc, hq]; rfl
              have hqr : 2 ≤ q ∧ q ≤ n + 1 := by rw [hq]; exact prs_range n _ (by rw [← HL.out]; exact List.getElem_mem _)
              have hq3 := hqr.2
              have cq : wr.cell? ⟨g, m, none⟩ = some (.int .i64 (q : Int)) := by
                rcases own_open HO.out with ⟨h, _⟩ | ⟨g', cap', h, _, _, hc⟩
                · cases h
                · cases h
                  rw [hq]; exact hc m hmc
              have hqq : q * q ≤ 311 * 311 := Nat.mul_le_mul (by omega) (by omega)
              have hqu : (q : Int) * (q : Int) ≤ 96721 := by
                have h : ((q * q : Nat) : Int) ≤ 96721 := by omega
                rwa [Int.natCast_mul] at h
              have hq0 : 0 ≤ (q : Int) * (q : Int) := Int.mul_nonneg (Int.natCast_nonneg _) (Int.natCast_nonneg _)
              have hqi : decide ((q : Int) * (q : Int) ≤ (n : Int) + 2) = false := by
                refine decide_eq_false fun h => hgo ⟨hml, ?_⟩
                rw [hqd]
                rw [← Int.natCast_mul] at h
                omega
              clear hq hqd hqr hqq hgo hlenl
              cases b
              · go_wp2
                go_quiet (fail)
                go_wp2
                go_roundw
                case rel =>
                  refine ⟨n + 1, by omega, by go_num, ?_, below_drewN' HBL.out _⟩
                  have h1 := HPN.out
                  rw [if_neg (by decide)] at h1
                  rw [h1, ← HLen.out]
                  exact HO.out
                case measure => (simp [intOf]; try omega)
              · go_wp2
                go_quiet (fail)
                go_wp2_with (at_builtin; refine wpList_append_own_at _ rfl _ _ 34 rfl w.heap.size 3 i0 (.int .i64 0) 1 8 Tryz.underlying34 hi0 hz0 hz1 hz2 rfl (by decide) _ _ _ rfl (World.ownsRow.alloc (own_drewN HO.out _) _) _ 1 1 [.int .i64 ((n : Int) + 2)] rfl rfl (cell_one_new _ _ _) ?c2 ?c3 ?c4 ?c5 ?_)
                case c2 => intro u hu; rw [List.mem_singleton] at hu; subst hu; rfl
                case c3 => unfold maxLen; omega
                case c4 => omega
                case c5 => have := HBL.out.size; simp; omega
                intro v' w1 hown' hgrow _ _
                have HO1 : Hid (w1.ownsRow w.heap.size 3 1 v' (len + 1) (iv l ++ [.int .i64 ((n : Int) + 2)])) := hown'
                have HB1 : Hid (Below w.heap.size w w1) := ((below_drewN' HBL.out _).alloc HBL.out.size _).grown hgrow (by have := HBL.out.size; simp; omega) (fun k hk => by cases hk; exact hBg)
                clear hown' hgrow
                go_wp2
                go_roundw
                case rel =>
                  refine ⟨n + 1, by omega, by go_num, ?_, HB1.out⟩
                  have h1 := HPN.out
                  rw [if_pos (by first | trivial | rfl)] at h1
                  have h2 := HO1.out
                  rw [h1, iv_append, List.length_append, ← HLen.out]
                  exact h2
                case measure => (simp [intOf]; try omega)
            · have hd0 : decide ((m : Int) < (len : Int)) = false := decide_eq_false (by omega)
              clear hgo hlenl
              cases b
              · go_wp2
                go_quiet (fail)
                go_wp2
                go_roundw
                case rel =>
                  refine ⟨n + 1, by omega, by go_num, ?_, below_drewN' HBL.out _⟩
                  have h1 := HPN.out
                  rw [if_neg (by decide)] at h1
                  rw [h1, ← HLen.out]
                  exact HO.out
                case measure => (simp [intOf]; try omega)
              · go_wp2
                go_quiet (fail)
                go_wp2_with (at_builtin; refine wpList_append_own_at _ rfl _ _ 34 rfl w.heap.size 3 i0 (.int .i64 0) 1 8 Tryz.underlying34 hi0 hz0 hz1 hz2 rfl (by decide) _ _ _ rfl (World.ownsRow.alloc (own_drewN HO.out _) _) _ 1 1 [.int .i64 ((n : Int) + 2)] rfl rfl (cell_one_new _ _ _) ?d2 ?d3 ?d4 ?d5 ?_)
                case d2 => intro u hu; rw [List.mem_singleton] at hu; subst hu; rfl
                case d3 => unfold maxLen; omega
                case d4 => omega
                case d5 => have := HBL.out.size; simp; omega
                intro v' w1 hown' hgrow _ _
                have HO1 : Hid (w1.ownsRow w.heap.size 3 1 v' (len + 1) (iv l ++ [.int .i64 ((n : Int) + 2)])) := hown'
                have HB1 : Hid (Below w.heap.size w w1) := ((below_drewN' HBL.out _).alloc HBL.out.size _).grown hgrow (by have := HBL.out.size; simp; omega) (fun k hk => by cases hk; exact hBg)
                clear hown' hgrow
                go_wp2
                go_roundw
                case rel =>
                  refine ⟨n + 1, by omega, by go_num, ?_, HB1.out⟩
                  have h1 := HPN.out
                  rw [if_pos (by first | trivial | rfl)] at h1
                  have h2 := HO1.out
                  rw [h1, iv_append, List.length_append, ← HLen.out]
                  exact h2
                case measure => (simp [intOf]; try omega)
    · have : n = 310 := by omega
      subst this
      have h64 : len = 64 := by rw [HLen.out, HL.out]; exact prs_all
      subst h64
      have HB : Hid (Below w.heap.size w wr) := hbl
      rcases own_open hown with ⟨rfl, hnil⟩ | ⟨g, cap, rfl, hBg, -, -⟩
      · have := HLen.out
        rw [hnil] at this
        cases this
      · have HO : Hid (wr.ownsRow w.heap.size 3 1 (.slice (some ⟨g, 0, none⟩) 64 cap) 64 (iv l)) := hown
        clear hown hbl
        go_wp2
        go_ret
        have h1 := HO.out
        rw [HL.out] at h1
        exact ⟨_, rfl, h1, HB.out⟩
end Go.Proofs.YtapijhhmjjplmaaGreatDoor
namespace Go.Proofs.YtapijhhmjjplmaaGreatDoor
open Go.RowKit
def kc (i : Nat) : List Nat := ((prs 310).take i).map fun p => rootN p 3
def hc (i : Nat) : List Nat := ((prs 310).take i).map fun p => rootN p 2
theorem kc_succ (i : Nat) (h : i < (prs 310).length) : kc (i + 1) = kc i ++ [rootN (prs 310)[i] 3] := by
  unfold kc; rw [List.take_succ_eq_append_getElem h, List.map_append]; rfl
theorem hc_succ (i : Nat) (h : i < (prs 310).length) : hc (i + 1) = hc i ++ [rootN (prs 310)[i] 2] := by
  unfold hc; rw [List.take_succ_eq_append_getElem h, List.map_append]; rfl
theorem cell_later' {B : Nat} {w w' : World} (hb : Below B w w') {p : Addr} {v : Value} (h : w.cell? p = some v) (hp : p.block < B) : w'.cell? p = some v := by
  rw [hb.cell hp]; exact h
theorem own_on {w w' : World} {B C : Nat} {e : TypeId} {size : Nat} {v : Value} {n : Nat} {xs : List Value} (h : w.ownsRow B e size v n xs) (hb : Below C w w') (hC : w.heap.size ≤ C) : w'.ownsRow B e size v n xs := by
  obtain ⟨h1, h2⟩ := h
  refine ⟨h1, ?_⟩
  rcases h2 with h2 | ⟨g, cap, cur, rfl, hB, hg, h3⟩
  · exact .inl h2
  · exact .inr ⟨g, cap, cur, rfl, hB, by rw [hb.block g (Nat.lt_of_lt_of_le (Array.getElem?_eq_some_iff.1 hg).1 hC)]; exact hg, h3⟩
theorem own_base {w : World} {B C : Nat} {e : TypeId} {size : Nat} {v : Value} {n : Nat} {xs : List Value} (h : w.ownsRow B e size v n xs) (hC : C ≤ B) : w.ownsRow C e size v n xs := by
  obtain ⟨h1, h2⟩ := h
  refine ⟨h1, ?_⟩
  rcases h2 with h2 | ⟨g, cap, cur, rfl, hB, hg, h3⟩
  · exact .inl h2
  · exact .inr ⟨g, cap, cur, rfl, Nat.le_trans hC hB, hg, h3⟩
theorem own_base_of {w : World} {B : Nat} {e : TypeId} {size : Nat} {v : Value} {n : Nat} {xs : List Value} (h : w.ownsRow B e size v n xs) : ∀ k, v.ownBlock = some k → B ≤ k := fun k hk => (h.lt k hk).1
theorem own_block {w : World} {B n : Nat} {e : TypeId} {v : Value} {l : List Nat} (h : w.ownsRow B e 1 v n (iv l)) (hn : 0 < n) : ∃ k, v.ownBlock = some k ∧ B ≤ k ∧ k < w.heap.size := by
  have h0 := h
  obtain ⟨h1, h2⟩ := h
  rcases h2 with ⟨_, h2⟩ | ⟨g, cap, cur, rfl, hB, hg, h3⟩
  · omega
  · exact ⟨g, rfl, hB, (Array.getElem?_eq_some_iff.1 hg).1⟩
set_option maxRecDepth 100000 in
set_option maxHeartbeats 2000000 in
theorem constants_any (w : World) :
    Calls Tryz.prog 64 #[] w fun e w' => ∃ kv hv, e = .returned (.tuple #[kv, hv]) ∧ w'.ownsRow w.heap.size 3 1 kv 64 (iv (kc 64)) ∧ w'.ownsRow w.heap.size 3 1 hv 8 (iv (hc 8)) ∧ kv.ownBlock ≠ hv.ownBlock ∧ Below w.heap.size w w' := by
  obtain ⟨i0, hi0, hz0, hz1, hz2⟩ := info_parts infoInt
  go_enter Tryz.func64, Tryz.ntmps64
  go_wp2_with fail
  refine (primes64 w).mono ?_
  rintro e w1 ⟨v, rfl, hown, hbl⟩
  have hsz1 := hbl.size
  rcases own_open hown with ⟨-, hnil⟩ | ⟨g, cap, rfl, hBg, -, hcell⟩
  · have := prs_all
    rw [hnil] at this
    cases this
  have hg1 : g < w1.heap.size := (hown.lt g rfl).2
  have HC : Hid (∀ j (hj : j < (prs 310).length), w1.cell? ⟨g, j, none⟩ = some (.int .i64 ((prs 310)[j] : Int))) := hcell
  have HBL : Hid (Below w.heap.size w w1) := hbl
  clear hcell hown hbl
  go_wp2
  go_loopw [3, 5] (fun kv ci wr => ∃ i : Nat, i ≤ 64 ∧ ci = .int .i64 i ∧ Hid (wr.ownsRow w1.heap.size 3 1 kv i (iv (kc i))) ∧ Hid (Below w1.heap.size w1 wr)) (fun _ i _ => 64 - (intOf i).toNat)
  case atStart => exact ⟨0, by omega, rfl, World.ownsRow_nil _ _ _ _, Below.refl _ _⟩
  case round =>
    obtain ⟨i, hi, rfl, HK, HB⟩ := hrel
    by_cases hlt : i < 64
    · have hip : i < (prs 310).length := by rw [prs_all]; exact hlt
      obtain ⟨p, hp⟩ : ∃ p, p = (prs 310)[i] := ⟨_, rfl⟩
      have hpr : 2 ≤ p ∧ p ≤ 310 + 1 := by rw [hp]; exact prs_range 310 _ (List.getElem_mem _)
      have cp : wr.cell? ⟨g, i, none⟩ = some (.int .i64 (p : Int)) := by rw [hp]; exact cell_later' HB.out (HC.out i hip) hg1
      have HP : Hid (p = (prs 310)[i]) := hp
      clear hp
      go_wp2_with fail
      refine (root3 p _ (by omega) (by omega)).mono ?_
      rintro e w2 ⟨rfl, hb2⟩
      obtain ⟨r, hr⟩ : ∃ r, r = rootN p 3 := ⟨_, rfl⟩
      rw [← hr]
      have HR : Hid (r = rootN p 3) := hr
      clear hr cp
      have HK2 : Hid (w2.ownsRow w1.heap.size 3 1 u3 i (iv (kc i))) := own_on HK.out hb2 (Nat.le_refl _)
      have HB2 : Hid (Below w1.heap.size w1 w2) := HB.out.trans (hb2.mono HB.out.size)
      clear hb2 HK HB
      go_wp2_with (at_builtin; refine wpList_append_own_at _ rfl _ _ 34 rfl w1.heap.size 3 i0 (.int .i64 0) 1 8 Tryz.underlying34 hi0 hz0 hz1 hz2 rfl (by decide) _ _ _ rfl (World.ownsRow.alloc HK2.out _) _ 1 1 [.int .i64 (r : Int)] rfl rfl (cell_one_new _ _ _) ?c2 ?c3 ?c4 ?c5 ?_)
      case c2 => intro u hu; rw [List.mem_singleton] at hu; subst hu; rfl
      case c3 => unfold maxLen; omega
      case c4 => omega
      case c5 => have := HB2.out.size; simp; omega
      intro v' w3 hown' hgrow _ _
      have HK3 : Hid (w3.ownsRow w1.heap.size 3 1 v' (i + 1) (iv (kc i) ++ [.int .i64 (r : Int)])) := hown'
      have HB3 : Hid (Below w1.heap.size w1 w3) := (HB2.out.alloc HB2.out.size _).grown hgrow (by have := HB2.out.size; simp; omega) (own_base_of HK2.out)
      clear hown' hgrow
      go_wp2
      go_roundw
      case rel =>
        refine ⟨i + 1, by omega, by go_num, ?_, HB3⟩
        show World.ownsRow _ _ _ _ _ _ _
        rw [kc_succ i hip, iv_append, ← HP.out, ← HR.out]
        exact HK3.out
      case measure => (simp [intOf]; try omega)
    · have hi64 : i = 64 := by omega
      obtain ⟨i1, hi1⟩ : ∃ i1, i1 = i := ⟨_, rfl⟩
      subst hi1
      have HK64 : Hid (wr.ownsRow w1.heap.size 3 1 u3 64 (iv (kc 64))) := by
        have h := HK.out
        rw [hi64] at h
        exact h
      clear HK hi64
      obtain ⟨wk, hwk⟩ : ∃ wk, wk = wr := ⟨_, rfl⟩
      subst hwk
      have hszk := HB.out.size
      go_wp2
      go_loopw [4, 7] (fun hv ci wr' => ∃ i : Nat, i ≤ 8 ∧ ci = .int .i64 i ∧ Hid (wr'.ownsRow wk.heap.size 3 1 hv i (iv (hc i))) ∧ Hid (Below wk.heap.size wk wr')) (fun _ i _ => 8 - (intOf i).toNat)
      case atStart => exact ⟨0, by omega, rfl, World.ownsRow_nil _ _ _ _, Below.refl _ _⟩
      case round =>
        have HBk := HB
        have HKk := HK64
        clear HB HK64
        obtain ⟨i, hi, rfl, HK, HB⟩ := hrel
        by_cases hlt : i < 8
        · have hip : i < (prs 310).length := by rw [prs_all]; omega
          obtain ⟨p, hp⟩ : ∃ p, p = (prs 310)[i] := ⟨_, rfl⟩
          have hpr : 2 ≤ p ∧ p ≤ 310 + 1 := by rw [hp]; exact prs_range 310 _ (List.getElem_mem _)
          have cp : wr.cell? ⟨g, i, none⟩ = some (.int .i64 (p : Int)) := by
            rw [hp]
            exact cell_later' HB.out (cell_later' HBk.out (HC.out i hip) hg1) (by show g < _; omega)
          have HP : Hid (p = (prs 310)[i]) := hp
          clear hp
          go_wp2_with fail
          refine (root2 p _ (by omega) (by omega)).mono ?_
          rintro e w2 ⟨rfl, hb2⟩
          obtain ⟨r, hr⟩ : ∃ r, r = rootN p 2 := ⟨_, rfl⟩
          rw [← hr]
          have HR : Hid (r = rootN p 2) := hr
          clear hr cp
          have HK2 : Hid (w2.ownsRow wk.heap.size 3 1 u4 i (iv (hc i))) := own_on HK.out hb2 (Nat.le_refl _)
          have HB2 : Hid (Below wk.heap.size wk w2) := HB.out.trans (hb2.mono HB.out.size)
          clear hb2 HK HB
          go_wp2_with (at_builtin; refine wpList_append_own_at _ rfl _ _ 34 rfl wk.heap.size 3 i0 (.int .i64 0) 1 8 Tryz.underlying34 hi0 hz0 hz1 hz2 rfl (by decide) _ _ _ rfl (World.ownsRow.alloc HK2.out _) _ 1 1 [.int .i64 (r : Int)] rfl rfl (cell_one_new _ _ _) ?d2 ?d3 ?d4 ?d5 ?_)
          case d2 => intro u hu; rw [List.mem_singleton] at hu; subst hu; rfl
          case d3 => unfold maxLen; omega
          case d4 => omega
          case d5 => have := HB2.out.size; simp; omega
          intro v' w3 hown' hgrow _ _
          have HK3 : Hid (w3.ownsRow wk.heap.size 3 1 v' (i + 1) (iv (hc i) ++ [.int .i64 (r : Int)])) := hown'
          have HB3 : Hid (Below wk.heap.size wk w3) := (HB2.out.alloc HB2.out.size _).grown hgrow (by have := HB2.out.size; simp; omega) (own_base_of HK2.out)
          clear hown' hgrow
          go_wp2
          go_roundw
          case rel =>
            refine ⟨i + 1, by omega, by go_num, ?_, HB3⟩
            show World.ownsRow _ _ _ _ _ _ _
            rw [hc_succ i hip, iv_append, ← HP.out, ← HR.out]
            exact HK3.out
          case measure => (simp [intOf]; try omega)
        · have hi8 : i = 8 := by omega
          subst hi8
          go_wp2
          go_ret2
          refine ⟨_, _, rfl, ?_, ?_, ?_, ?_⟩
          · exact own_base (own_on HKk.out HB.out (Nat.le_refl _)) hsz1
          · exact own_base HK.out (by omega)
          · obtain ⟨a, ha, _, ha2⟩ := own_block HKk.out (by omega)
            obtain ⟨b, hb, hb1, _⟩ := own_block HK.out (by omega)
            intro h
            have h' := ha.symm.trans (h.trans hb)
            cases h'
            omega
          · exact HBL.out.trans ((HBk.out.trans (HB.out.mono hszk)).mono hsz1)
theorem maker_any (w : World) :
    Calls Tryz.prog 39 #[] w fun e w' => ∃ b kv hv, e = .returned (.pointer (some ⟨b, 0, none⟩)) ∧ w.heap.size ≤ b ∧ w'.heap[b]? = some (.cells #[kv, hv] 142 (0, 0)) ∧ w'.ownsRow w.heap.size 3 1 kv 64 (iv (kc 64)) ∧ w'.ownsRow w.heap.size 3 1 hv 8 (iv (hc 8)) ∧ kv.ownBlock ≠ hv.ownBlock ∧ kv.ownBlock ≠ some b ∧ hv.ownBlock ≠ some b ∧ Below w.heap.size w w' := by
  go_enter Tryz.func39, Tryz.ntmps39
  go_wp2_with fail
  refine (constants_any w).mono ?_
  rintro e w1 ⟨kv, hv, rfl, hk, hh, hne, hbl⟩
  have HK : Hid (w1.ownsRow w.heap.size 3 1 kv 64 (iv (kc 64))) := hk
  have HH : Hid (w1.ownsRow w.heap.size 3 1 hv 8 (iv (hc 8))) := hh
  have HN : Hid (kv.ownBlock ≠ hv.ownBlock) := hne
  have HBL : Hid (Below w.heap.size w w1) := hbl
  have hl1 : (kc 64).length = 64 := by unfold kc; rw [List.length_map, List.length_take, prs_all]; rfl
  have hl2 : (hc 8).length = 8 := by unfold hc; rw [List.length_map, List.length_take, prs_all]; rfl
  rcases own_open hk with ⟨-, h0⟩ | ⟨g1, c1, rfl, -, -, -⟩
  · rw [h0] at hl1; cases hl1
  rcases own_open hh with ⟨-, h0⟩ | ⟨g2, c2, rfl, -, -, -⟩
  · rw [h0] at hl2; cases hl2
  clear hk hh hne hbl hl1 hl2
  go_wp2
  go_ret
  obtain ⟨a, ha, _, ha2⟩ := own_block HK.out (by omega)
  obtain ⟨b, hb, _, hb2⟩ := own_block HH.out (by omega)
  refine ⟨w1.heap.size, _, _, rfl, HBL.out.size, ?_, HK.out.alloc _, HH.out.alloc _, HN.out, ?_, ?_, HBL.out.alloc HBL.out.size _⟩
  · show (w1.heap.push _)[w1.heap.size]? = _
    rw [Array.getElem?_push_size]
  · rw [ha]; intro h; cases h; omega
  · rw [hb]; intro h; cases h; omega
end Go.Proofs.YtapijhhmjjplmaaGreatDoor
namespace Go.Proofs.YtapijhhmjjplmaaGreatDoor
open Go.RowKit
theorem below_setRow {B : Nat} {a w : World} (h : Below B a w) {g : Nat} (hg : B ≤ g) (cs : Array Value) : Below B a (w.setRow g cs) :=
  h.trans ⟨rfl, rfl, rfl, by simp, fun k hk => setRow_other w g k cs (by omega)⟩
end Go.Proofs.YtapijhhmjjplmaaGreatDoor
namespace Go.Proofs.YtapijhhmjjplmaaGreatDoor
open Go.RowKit
variable {P : Program}
def bcells (l : List UInt8) : List Value := l.map fun b : UInt8 => Value.int .u8 (b.toNat : Int)
theorem bcells_length (l : List UInt8) : (bcells l).length = l.length := by simp [bcells]
theorem bcells_one (l : List UInt8) : ∀ v ∈ bcells l, v.oneCell' = true := by
  intro v hv
  simp only [bcells, List.mem_map] at hv
  obtain ⟨b, _, rfl⟩ := hv
  rfl
/-- copy of a string, whole or its head, into row g. -/
theorem run_copy_str (w : World) (dT sT ty elem : TypeId) (g o dLen dCap : Nat) (s : ByteArray) (cur : Array Value) (t : TypeId) (cs : List Value)
    (hu : P.underlying dT = some (.slice elem)) (hs : (P.info? elem).map (·.size) = some 1) (hg : w.heap[g]? = some (.cells cur t (0, 0))) (hcs : cs = bcells (s.data.toList.take dLen)) (hfit : o + cs.length ≤ cur.size) :
    (Builtin.copy_ #[dT, sT] ty #[.slice (some ⟨g, o, none⟩) dLen dCap, .string s]).run P w =
      .ok (goInt cs.length) (w.setRow g (cur.toList.take o ++ cs ++ cur.toList.drop (o + cs.length)).toArray) := by
  have hlen : cs.length = Nat.min s.size dLen := by
    rw [hcs, bcells_length, List.length_take, Nat.min_comm]
    rfl
  have hone : ∀ v ∈ cs, v.oneCell' = true := by rw [hcs]; exact bcells_one _
  have hst := run_storeCells_at P g o t cs 0 cur w hg (by simpa using hfit) hone
  simp only [Nat.add_zero] at hst
  have hx : ((s.extract 0 (Nat.min s.size dLen)).data.map fun b => Value.int .u8 b.toNat).toList = cs := by
    rw [hcs]
    unfold bcells
    rw [Array.toList_map, ByteArray.data_extract, Array.toList_extract, List.extract_eq_take_drop, List.drop_zero, Nat.sub_zero]
    congr 1
    show List.take (min s.data.size dLen) s.data.toList = _
    rcases Nat.le_total s.data.size dLen with h | h
    · rw [Nat.min_eq_left h, List.take_of_length_le (by simp), List.take_of_length_le (by simpa using h)]
    · rw [Nat.min_eq_right h]
  cases hq : P.info? elem with
  | none => simp [hq] at hs
  | some i =>
    simp only [Builtin.copy_, Builtin.lenOf, Builtin.firstCells, sizeOf, typeInfo]
    simp [run_underlying hu, hq, -Array.toList_map, -ByteArray.data_extract, -Array.toList_extract]
    rw [hx, hst]
    simp [Result.andThen, hlen]
theorem step_copy_str {w : World} {ops : Array Oper} {o : Oper} {a : Act} {K : Act → World → Prop} {Q : Exit → Act → World → Prop} {E : Prop} (hgd : o.guard = none) (d s : Operand) (dT sT : TypeId)
    (ho : o.op = .call { callee := .builtin .copy, args := #[d, s], argTypes := #[dT, sT] }) (elem : TypeId) (hu : P.underlying dT = some (.slice elem)) (hsz : (P.info? elem).map (·.size) = some 1)
    (g off dLen dCap : Nat) (str : ByteArray) (hd : a.eval d = .slice (some ⟨g, off, none⟩) dLen dCap) (hs : a.eval s = .string str)
    (cur : Array Value) (t : TypeId) (hg : w.heap[g]? = some (.cells cur t (0, 0))) (cs : List Value) (hcs : cs = bcells (str.data.toList.take dLen)) (hfit : off + cs.length ≤ cur.size)
    (R : Array Value) (hR : (cur.toList.take off ++ cs ++ cur.toList.drop (off + cs.length)).toArray = R) (n : Int) (hn : (cs.length : Int) = n)
    (h : K (a.put o.dst (.int .i64 n)) (w.setRow g R)) : if Region.wanted o (yielded ops a.tmps) = true then Oper.wp P o a w K Q else E := by
  have hw : Region.wanted o (yielded ops a.tmps) = true := by simp [Region.wanted, hgd]
  rw [if_pos hw]
  have hrun := run_copy_str (P := P) w dT sT o.type elem g off dLen dCap str cur t cs hu hsz hg hcs hfit
  rw [hR] at hrun
  unfold Oper.wp
  simp [execOp, ho, resolve, invoke, builtin, hd, hs, hrun, Result.andThen]
  have h' : K (a.put o.dst (goInt cs.length)) (w.setRow g R) := by rw [goInt, hn]; exact h
  exact h'
end Go.Proofs.YtapijhhmjjplmaaGreatDoor
namespace Go.Proofs.YtapijhhmjjplmaaGreatDoor
open Go.RowKit
def bv (l : List Nat) : List Value := l.map fun c : Nat => Value.int .u8 (c : Int)
theorem infoByte : (Tryz.prog.info? 5).map (fun i => (i.zero, i.size, i.bytes)) = some (some (.int .u8 0), 1, 1) := by kernel_rfl
end Go.Proofs.YtapijhhmjjplmaaGreatDoor
namespace Go.Proofs.YtapijhhmjjplmaaGreatDoor
open Go.RowKit
theorem half_xor (u v : Nat) : (u ^^^ v) / 2 = (u / 2) ^^^ (v / 2) := by
  have h := Nat.shiftRight_xor_distrib (a := u) (b := v) (i := 1)
  simpa [Nat.shiftRight_eq_div_pow] using h
theorem odd_xor (u v : Nat) : (u ^^^ v) % 2 = (u % 2 + v % 2) % 2 := by
  have h : (u ^^^ v) % 2 ^ 1 = (u % 2 ^ 1) ^^^ (v % 2 ^ 1) := Nat.xor_mod_two_pow
  simp only [Nat.pow_one] at h
  rw [h]
  rcases Nat.mod_two_eq_zero_or_one u with hu | hu <;> rcases Nat.mod_two_eq_zero_or_one v with hv | hv <;> rw [hu, hv] <;> rfl
theorem crcStep_xor (u v : Nat) : crcStep (u ^^^ v) = crcStep u ^^^ crcStep v := by
  unfold crcStep
  rw [half_xor, odd_xor]
  rcases Nat.mod_two_eq_zero_or_one u with hu | hu <;> rcases Nat.mod_two_eq_zero_or_one v with hv | hv <;> rw [hu, hv] <;> simp
  · ac_rfl
  · ac_rfl
  · rw [show u / 2 ^^^ 3988292384 ^^^ (v / 2 ^^^ 3988292384) = u / 2 ^^^ v / 2 ^^^ (3988292384 ^^^ 3988292384) by ac_rfl, Nat.xor_self, Nat.xor_zero]
theorem crcSteps_xor : ∀ k u v, crcSteps k (u ^^^ v) = crcSteps k u ^^^ crcSteps k v
  | 0, _, _ => rfl
  | k + 1, u, v => by
    show crcSteps k (crcStep (u ^^^ v)) = _
    rw [crcStep_xor, crcSteps_xor k]
    rfl
theorem crcStep_even (q : Nat) : crcStep (2 * q) = q := by
  unfold crcStep
  rw [if_neg (by omega)]
  omega
theorem crcSteps_16 (q : Nat) : crcSteps 4 (16 * q) = q := by
  show crcStep (crcStep (crcStep (crcStep (16 * q)))) = q
  rw [show 16 * q = 2 * (2 * (2 * (2 * q))) by omega, crcStep_even, crcStep_even, crcStep_even, crcStep_even]
theorem crcSteps_four (x : Nat) : crcSteps 4 x = (x / 16) ^^^ crcSteps 4 (x % 16) := by
  have e : x = (16 * (x / 16)) ^^^ (x % 16) := by
    have h := Nat.two_pow_add_eq_or_of_lt (i := 4) (b := x % 16) (by omega) (x / 16)
    have h2 : 16 * (x / 16) + x % 16 = x := by omega
    have h3 : 2 ^ 4 * (x / 16) + x % 16 = x := by omega
    rw [h3] at h
    have h4 : (2 ^ 4 * (x / 16)) &&& (x % 16) = 0 := by
      apply Nat.eq_of_testBit_eq
      intro i
      rw [Nat.testBit_and, show x % 16 = x % 2 ^ 4 by rfl, Nat.testBit_mod_two_pow, Nat.testBit_two_pow_mul, Nat.zero_testBit]
      rcases Nat.lt_or_ge i 4 with h5 | h5
      · rw [show decide (i ≥ 4) = false by simp; omega]; simp
      · rw [show decide (i < 4) = false by simp; omega]; simp
    rw [show 16 * (x / 16) = 2 ^ 4 * (x / 16) by omega]
    have h8 : (2 ^ 4 * (x / 16)) ||| (x % 16) = (2 ^ 4 * (x / 16)) ^^^ (x % 16) := by
      apply Nat.eq_of_testBit_eq
      intro i
      have h9 := congrArg (fun t => Nat.testBit t i) h4
      simp only [Nat.testBit_and, Nat.zero_testBit] at h9
      simp only [Nat.testBit_or, Nat.testBit_xor]
      revert h9
      cases Nat.testBit (2 ^ 4 * (x / 16)) i <;> cases Nat.testBit (x % 16) i <;> simp
    rw [← h8]
    exact h
  have h := crcSteps_xor 4 (16 * (x / 16)) (x % 16)
  rw [← e, crcSteps_16] at h
  exact h
theorem crcSteps_add : ∀ j k r, crcSteps (j + k) r = crcSteps k (crcSteps j r)
  | 0, k, r => by rw [Nat.zero_add]; rfl
  | j + 1, k, r => by
    rw [show j + 1 + k = (j + k) + 1 by omega]
    show crcSteps (j + k) (crcStep r) = _
    rw [crcSteps_add j k]
    rfl
/-- What four steps do to each of sixteen numbers. -/
def tabN : List Nat := (List.range 16).map (crcSteps 4)
theorem tabN_at (i : Nat) (h : i < 16) : tabN.getD i 0 = crcSteps 4 i := by
  unfold tabN
  rw [List.getD_eq_getElem?_getD]
  simp [h]
theorem crcSteps_eight (x : Nat) : crcSteps 8 x = ((x / 16) ^^^ tabN.getD (x % 16) 0) / 16 ^^^ tabN.getD (((x / 16) ^^^ tabN.getD (x % 16) 0) % 16) 0 := by
  rw [tabN_at _ (by omega), tabN_at _ (by omega), show 8 = 4 + 4 by rfl, crcSteps_add, crcSteps_four x]
  exact crcSteps_four _
end Go.Proofs.YtapijhhmjjplmaaGreatDoor
namespace Go.Proofs.YtapijhhmjjplmaaGreatDoor
open Go.RowKit
theorem u32_and_one (z : Nat) (h : (z : Int) ≤ 4294967295) : bits .and .u32 (z : Int) 1 = ((z % 2 : Nat) : Int) := by
  have h1 := u32_and_nat z 1 (by omega) (by omega)
  rw [Nat.and_one_is_mod] at h1
  exact h1
set_option maxRecDepth 100000 in
set_option maxHeartbeats 1000000 in
theorem four_shifts (x : Nat) (w : World) (hx : (x : Int) ≤ 4294967295) :
    Calls Tryz.prog 295 #[.int .u32 (x : Int)] w fun e w' => e = .returned (.int .u32 (crcSteps 4 x : Int)) ∧ w = w' := by
  go_enter Tryz.func295, Tryz.ntmps295
  go_wp2
  go_loop [0, 4] (fun r j => ∃ m z : Nat, m ≤ 4 ∧ j = .int .i64 ((4 : Int) - m) ∧ r = .int .u32 (z : Int) ∧ (z : Int) ≤ 4294967295 ∧ Hid (crcSteps m z = crcSteps 4 x)) (fun _ j => 4 - (intOf j).toNat)
  case atStart => exact ⟨4, x, by omega, rfl, rfl, hx, rfl⟩
  case round =>
    obtain ⟨m, z, hm, rfl, rfl, hz, Hz⟩ := hrel
    by_cases hm0 : 0 < m
    · obtain ⟨m, rfl⟩ : ∃ m', m = m' + 1 := ⟨m - 1, by omega⟩
      have hzw : z < w32 := by unfold w32; omega
      have hand := u32_and_one z hz
      by_cases hodd : z % 2 = 1
      · rw [hodd] at hand
        obtain ⟨u, hu⟩ : ∃ u, u = (z / 2) ^^^ 3988292384 := ⟨_, rfl⟩
        have hxor : bits .xor .u32 ((z : Int) / 2) 3988292384 = (u : Int) := by
          have h := u32_xor_nat (z / 2) 3988292384 (by omega) (by omega)
          rw [hu, ← h]
          rfl
        have hcs : crcStep z = u := by unfold crcStep; rw [if_pos hodd, hu]
        have huw : u < w32 := by rw [← hcs]; exact crcStep_lt z hzw
        have hui : (u : Int) ≤ 4294967295 := by unfold w32 at huw; omega
        have HU : Hid (crcSteps m u = crcSteps 4 x) := by
          show _ = _
          rw [← Hz.out, ← hcs]; rfl
        clear hcs huw hu hzw hodd
        go_wp2
        go_round
        case rel => exact ⟨m, u, by omega, by go_num, rfl, hui, HU⟩
        case measure => (simp [intOf]; try omega)
      · have h0 : z % 2 = 0 := by omega
        rw [h0] at hand
        have hcs : crcStep z = z / 2 := by unfold crcStep; rw [if_neg hodd]
        have HU : Hid (crcSteps m (z / 2) = crcSteps 4 x) := by
          show _ = _
          rw [← Hz.out, ← hcs]; rfl
        clear hcs hzw hodd h0
        go_wp2
        go_round
        case rel => exact ⟨m, z / 2, by omega, by go_num, by go_num, by omega, HU⟩
        case measure => (simp [intOf]; try omega)
    · have hm1 : m = 0 := by omega
      subst hm1
      go_wp2
      go_ret
      refine ⟨?_, rfl⟩
      rw [← Hz.out]
      rfl
/-- All but the blocks S, and what is new, is as it was. -/
structure Same (S : Nat → Prop) (w w' : World) : Prop where
  os : w'.os = w.os
  tape : w'.tape = w.tape
  output : w'.output = w.output
  size : w.heap.size ≤ w'.heap.size
  block : ∀ k, k < w.heap.size → ¬ S k → w'.heap[k]? = w.heap[k]?
theorem Same.refl (S : Nat → Prop) (w : World) : Same S w w := ⟨rfl, rfl, rfl, Nat.le_refl _, fun _ _ _ => rfl⟩
theorem Same.trans {S : Nat → Prop} {a b c : World} (h : Same S a b) (h' : Same S b c) : Same S a c :=
  ⟨h'.os.trans h.os, h'.tape.trans h.tape, h'.output.trans h.output, Nat.le_trans h.size h'.size, fun k hk hs => (h'.block k (Nat.lt_of_lt_of_le hk h.size) hs).trans (h.block k hk hs)⟩
theorem Same.alloc {S : Nat → Prop} {a b : World} (h : Same S a b) (o : Obj) : Same S a (b.alloc o) :=
  h.trans ⟨rfl, rfl, rfl, by simp, fun k hk _ => Below.heap_alloc b o k hk⟩
theorem Same.setCell {S : Nat → Prop} {a b : World} (h : Same S a b) (p : Addr) (hp : S p.block) (v : Value) : Same S a (b.setCell p v) :=
  h.trans ⟨rfl, rfl, rfl, by simp [World.setCell], fun k _ hs => heap_setCell_other b p k v (fun e => hs (e ▸ hp))⟩
theorem Same.drew {S : Nat → Prop} {a b : World} (h : Same S a b) : Same S a b.drew := ⟨h.os, h.tape, h.output, h.size, h.block⟩
theorem Same.below {S : Nat → Prop} {a b : World} (h : Same S a b) {B : Nat} (hB : ∀ k, S k → B ≤ k) (hs : B ≤ a.heap.size) : Below B a b :=
  ⟨h.os, h.tape, h.output, h.size, fun k hk => h.block k (Nat.lt_of_lt_of_le hk hs) (fun hS => by have := hB k hS; omega)⟩
theorem Same.cell {S : Nat → Prop} {a b : World} (h : Same S a b) {p : Addr} {v : Value} (hp : ¬ S p.block) (hc : a.cell? p = some v) : b.cell? p = some v := by
  have hlt : p.block < a.heap.size := block_lt_of_cell hc
  have hb := h.block p.block hlt hp
  unfold World.cell? at *
  rw [hb]
  exact hc
/-- A CRC's table in memory: the Once's word, its lock, its words. -/
def tabRow (d m : Int) (ws : List Nat) : List Value := [.int .u32 d, .int .i32 m, .int .u32 0] ++ ws.map fun x : Nat => Value.int .u32 (x : Int)
def TabAt (w : World) (b : Nat) (d m : Int) (ws : List Nat) : Prop := w.heap[b]? = some (.cells (tabRow d m ws).toArray 127 (0, 0))
theorem TabAt.lt {w : World} {b : Nat} {d m : Int} {ws : List Nat} (h : TabAt w b d m ws) : b < w.heap.size := (Array.getElem?_eq_some_iff.1 h).1
theorem TabAt.frozen {w : World} {b : Nat} {d m : Int} {ws : List Nat} (h : TabAt w b d m ws) (j : Nat) : w.frozen? ⟨b, j, none⟩ = false := frozen_of_row w b j _ _ h
theorem TabAt.c0 {w : World} {b : Nat} {d m : Int} {ws : List Nat} (h : TabAt w b d m ws) : w.cell? ⟨b, 0, none⟩ = some (.int .u32 d) := by
  rw [cell_of_row w b 0 _ _ _ h]; simp [tabRow]
theorem TabAt.c1 {w : World} {b : Nat} {d m : Int} {ws : List Nat} (h : TabAt w b d m ws) : w.cell? ⟨b, 1, none⟩ = some (.int .i32 m) := by
  rw [cell_of_row w b 1 _ _ _ h]; simp [tabRow]
theorem TabAt.word {w : World} {b : Nat} {d m : Int} {ws : List Nat} (h : TabAt w b d m ws) (j : Nat) (hj : j < ws.length) : w.cell? ⟨b, 3 + j, none⟩ = some (.int .u32 (ws[j] : Int)) := by
  rw [cell_of_row w b (3 + j) _ _ _ h, Nat.add_comm]; simp [tabRow, hj]
theorem TabAt.set0 {w : World} {b : Nat} {d m : Int} {ws : List Nat} (h : TabAt w b d m ws) (x : Int) : TabAt (w.setCell ⟨b, 0, none⟩ (.int .u32 x)) b x m ws := by
  unfold TabAt
  rw [heap_setCell_same w b 0 _ _ _ h]
  simp [tabRow]
theorem TabAt.set1 {w : World} {b : Nat} {d m : Int} {ws : List Nat} (h : TabAt w b d m ws) (x : Int) : TabAt (w.setCell ⟨b, 1, none⟩ (.int .i32 x)) b d x ws := by
  unfold TabAt
  rw [heap_setCell_same w b 1 _ _ _ h]
  simp [tabRow]
theorem TabAt.setW {w : World} {b : Nat} {d m : Int} {ws : List Nat} (h : TabAt w b d m ws) (j x : Nat) : TabAt (w.setCell ⟨b, 3 + j, none⟩ (.int .u32 (x : Int))) b d m (ws.set j x) := by
  unfold TabAt
  rw [heap_setCell_same w b (3 + j) _ _ _ h, Nat.add_comm]
  simp [tabRow, List.map_set]
theorem TabAt.alloc {w : World} {b : Nat} {d m : Int} {ws : List Nat} (h : TabAt w b d m ws) (o : Obj) : TabAt (w.alloc o) b d m ws := (Below.heap_alloc w o b h.lt).trans h
/-- The words, as far as they are made. -/
def tabTo (ws : List Nat) (i : Nat) : List Nat := tabN.take i ++ ws.drop i
theorem tabN_length : tabN.length = 16 := rfl
theorem tabTo_length (ws : List Nat) (i : Nat) (hw : ws.length = 16) (hi : i ≤ 16) : (tabTo ws i).length = 16 := by
  simp [tabTo, tabN_length, hw]; omega
theorem tabTo_set (ws : List Nat) (i : Nat) (hw : ws.length = 16) (hi : i < 16) : (tabTo ws i).set i (crcSteps 4 i) = tabTo ws (i + 1) := by
  have h := addTo_set ws tabN i (by rw [hw, tabN_length]) (by omega)
  have e : tabN[i]'(by rw [tabN_length]; exact hi) = crcSteps 4 i := by simp [tabN]
  rw [e] at h
  exact h
theorem tabTo_all (ws : List Nat) (hw : ws.length = 16) : tabTo ws 16 = tabN := by
  unfold tabTo
  rw [List.take_of_length_le (by rw [tabN_length]; omega), List.drop_eq_nil_of_le (by omega), List.append_nil]
set_option maxRecDepth 100000 in
set_option maxHeartbeats 1000000 in
theorem word1_any (b : Nat) (pl : Addr) (d m : Int) (ws : List Nat) (w : World) (hp : w.cell? pl = some (.pointer (some ⟨b, 0, none⟩))) (hpb : pl.block ≠ b) (hw : ws.length = 16) (ht : TabAt w b d m ws) :
    Calls Tryz.prog 294 #[.pointer (some pl)] w fun e w' => e = .returned (.tuple #[]) ∧ TabAt w' b d m tabN ∧ Same (· = b) w w' := by
  have HW : Hid (ws.length = 16) := hw
  have HT : Hid (TabAt w b d m ws) := ht
  clear hw ht
  go_enter Tryz.func294, Tryz.ntmps294
  go_wp2
  have HP : Hid (w.cell? pl = some (.pointer (some ⟨b, 0, none⟩))) := hp
  clear hp
  go_loopw [2] (fun iv_ wr => ∃ i : Nat, i ≤ 16 ∧ iv_ = .int .u32 (i : Int) ∧ Hid (TabAt wr b d m (tabTo ws i)) ∧ Hid (Same (· = b) w wr)) (fun iv_ _ => 16 - (intOf iv_).toNat)
  case atStart => exact ⟨0, by omega, rfl, HT, Same.refl _ _⟩
  case round =>
    clear HT
    obtain ⟨i, hi, rfl, HT, HS⟩ := hrel
    by_cases hlt : i < 16
    · have hpr : wr.cell? pl = some (.pointer (some ⟨b, 0, none⟩)) := HS.out.cell hpb HP.out
      obtain ⟨z, cz⟩ : ∃ z : Int, wr.cell? ⟨b, 3 + i, none⟩ = some (.int .u32 z) := ⟨_, HT.out.word i (by rw [tabTo_length ws i HW.out (by omega)]; exact hlt)⟩
      have fz := HT.out.frozen (3 + i)
      go_wp2
      go_region_with (go_at_call 295; go_must (refine (four_shifts i _ (by omega)).mono ?_; rintro e w' ⟨rfl, rfl⟩))
      all_goals
        go_wp2
        go_roundw
        case rel =>
          refine ⟨i + 1, by omega, by go_num, ?_, ?_⟩
          · have h1 := HT.out.setW i (crcSteps 4 i)
            rw [tabTo_set ws i HW.out hlt] at h1
            exact h1
          · exact (HS.out.setCell ⟨b, 3 + i, none⟩ rfl _).drew
        case measure => (simp [intOf]; try omega)
    · have hi16 : i = 16 := by omega
      obtain ⟨i1, hi1⟩ : ∃ i1, i1 = i := ⟨_, rfl⟩
      subst hi1
      have HT1 : Hid (TabAt wr b d m tabN) := by
        have h1 := HT.out
        rw [hi16, tabTo_all ws HW.out] at h1
        exact h1
      clear HT hi16
      go_wp2
      go_end0
      exact ⟨rfl, HT1.out, HS.out⟩
end Go.Proofs.YtapijhhmjjplmaaGreatDoor
namespace Go.Proofs.YtapijhhmjjplmaaGreatDoor
open Go.RowKit
theorem race_disable (w : World) : (callFunc 170 #[]).run Tryz.prog w = .ok (.value (.tuple #[])) w := run_call_mark0 Tryz.func170 (by kernel_rfl) (by kernel_rfl) (by kernel_rfl) .disable (by kernel_rfl) w
theorem race_enable (w : World) : (callFunc 172 #[]).run Tryz.prog w = .ok (.value (.tuple #[])) w := run_call_mark0 Tryz.func172 (by kernel_rfl) (by kernel_rfl) (by kernel_rfl) .enable (by kernel_rfl) w
theorem race_acquire (a : Addr) (w : World) : (callFunc 173 #[.pointer (some a)]).run Tryz.prog w = .ok (.value (.tuple #[])) w := run_call_marked Tryz.func173 (by kernel_rfl) (by kernel_rfl) (by kernel_rfl) .acquire (by kernel_rfl) a w
theorem race_release (a : Addr) (w : World) : (callFunc 175 #[.pointer (some a)]).run Tryz.prog w = .ok (.value (.tuple #[])) w := run_call_marked Tryz.func175 (by kernel_rfl) (by kernel_rfl) (by kernel_rfl) .releaseMerge (by kernel_rfl) a w
/-- (*atomic.Bool).Store(true), deferred: the cell holds 1. -/
theorem store_deferred (a : Addr) (x : Value) (u : FrameMode) (w : World) (hc : w.cell? a = some x) (hz : w.frozen? a = false) :
    CallsD Tryz.prog 323 #[.pointer (some a), .bool true] u w fun e u' w' => u' = u ∧ (e = .returned (.tuple #[]) ∧ w' = w.drew.setCell a (.int .u32 1)) := by
  have hc' : w.drew.cell? a = some x := by go_simp
  have hz' : w.drew.frozen? a = false := by go_simp
  have hst := run_call_store (P := Tryz.prog) Tryz.func325 (by kernel_rfl) (by kernel_rfl) (by kernel_rfl) (by kernel_rfl) (k := .u32) (y := 1) hc' hz'
  go_enter_d Tryz.func323, Tryz.ntmps323
  go_wp2
  go_region_calls
  all_goals (go_end0; exact ⟨rfl, rfl⟩)
set_option maxRecDepth 100000 in
set_option maxHeartbeats 1000000 in
/-- (*sync.Mutex).Unlock, deferred, the lock held and nobody waiting. -/
theorem unlock_deferred (a : Addr) (u : FrameMode) (w : World) (hc : w.cell? a = some (.int .i32 1)) (hz : w.frozen? a = false) :
    CallsD Tryz.prog 58 #[.pointer (some a)] u w fun e u' w' => u' = u ∧ (e = .returned (.tuple #[]) ∧ w' = w.setCell a (.int .i32 0)) := by
  have hd := race_disable
  have he := race_enable
  have hr := race_release
  have hadd := run_call_add (P := Tryz.prog) Tryz.func176 (by kernel_rfl) (by kernel_rfl) (by kernel_rfl) .i32 (by kernel_rfl) (y := -1) (s := 0) hc hz (by simp [go_sem]; rfl)
  have hcv := run_convert_to_unsafe (P := Tryz.prog) (src := 292) (dst := 244) Tryz.underlying292 Tryz.underlying244 (by kernel_rfl) hc
  go_enter_d Tryz.func58, Tryz.ntmps58
  go_wp2
  go_end0
  go_wp2
  go_end0
  exact ⟨rfl, rfl⟩
set_option maxRecDepth 100000 in
set_option maxHeartbeats 1000000 in
/-- (*sync.Mutex).Lock, the lock free. -/
theorem lock_free (a : Addr) (w : World) (hc : w.cell? a = some (.int .i32 0)) (hz : w.frozen? a = false) :
    Calls Tryz.prog 57 #[.pointer (some a)] w fun e w' => e = .returned (.tuple #[]) ∧ w' = w.setCell a (.int .i32 1) := by
  have hd := race_disable
  have he := race_enable
  have ha := race_acquire
  have hcas := run_call_cas_hit (P := Tryz.prog) Tryz.func171 (by kernel_rfl) (by kernel_rfl) (by kernel_rfl) .i32 (by kernel_rfl) (y := 1) hc hz
  have hc' : (w.setCell a (.int .i32 1)).cell? a = some (.int .i32 1) := World.cell?_setCell_same w a _ hc
  have hcv := run_convert_to_unsafe (P := Tryz.prog) (src := 292) (dst := 244) Tryz.underlying292 Tryz.underlying244 (by kernel_rfl) hc'
  go_enter Tryz.func57, Tryz.ntmps57
  go_wp2
  first | go_end0 | (simp only [Exit.inBlock, Exit.then]; refine bodyPost_ret (results_none rfl _ _ _) rfl ?_) | refine bodyPost_ret (results_none rfl _ _ _) rfl ?_
  go_wp2
  go_end0
  exact ⟨rfl, rfl⟩
end Go.Proofs.YtapijhhmjjplmaaGreatDoor
