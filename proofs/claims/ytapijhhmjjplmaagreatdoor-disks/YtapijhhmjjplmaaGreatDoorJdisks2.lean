/- OWN TEXT: joined of: Sched Mix Rowlaw InBytes Pad Bytes Sum. -/
import Derived.Deep.WholeRow
import Derived.Laws.Rows
import Derived.Deep.RegionWith
import Derived.Tactics
import Derived.Laws.CopyRow
import Derived.Lib.SliceRun
import Derived.ChangeKeysEq
import Derived.Deep.RegionLaw
import Derived.LoopN
import Derived.Test.YtapijhhmjjplmaaGreatDoorProg
import Derived.Laws.IdiomCopy
import Derived.Laws.IdiomStrings
import Derived.Lib.FrozenHead2
import Derived.Test.YtapijhhmjjplmaaGreatDoorJdisks1
namespace Go.Proofs.YtapijhhmjjplmaaGreatDoor
open Go.RowKit

def u8s (l : List Nat) : Array Value := (l.map fun x : Nat => Value.int .u8 (x : Int)).toArray
/-- Block b holds the words l. -/
def URow (w : World) (b : Nat) (t : TypeId) (l : List Nat) : Prop := w.heap[b]? = some (.cells (u32s l) t (0, 0))
def BRow (w : World) (b : Nat) (t : TypeId) (l : List Nat) : Prop := w.heap[b]? = some (.cells (u8s l) t (0, 0))
theorem URow.cell {w : World} {b : Nat} {t : TypeId} {l : List Nat} (h : URow w b t l) (j : Nat) (hj : j < l.length) : w.cell? ⟨b, j, none⟩ = some (.int .u32 (l[j] : Int)) := by
  rw [cell_of_row w b j _ _ _ h]; simp [u32s, hj]
theorem BRow.cell {w : World} {b : Nat} {t : TypeId} {l : List Nat} (h : BRow w b t l) (j : Nat) (hj : j < l.length) : w.cell? ⟨b, j, none⟩ = some (.int .u8 (l[j] : Int)) := by
  rw [cell_of_row w b j _ _ _ h]; simp [u8s, hj]
theorem URow.frozen {w : World} {b : Nat} {t : TypeId} {l : List Nat} (h : URow w b t l) (j : Nat) : w.frozen? ⟨b, j, none⟩ = false := frozen_of_row w b j _ _ h
theorem BRow.frozen {w : World} {b : Nat} {t : TypeId} {l : List Nat} (h : BRow w b t l) (j : Nat) : w.frozen? ⟨b, j, none⟩ = false := frozen_of_row w b j _ _ h
theorem URow.set {w : World} {b : Nat} {t : TypeId} {l : List Nat} (h : URow w b t l) (k y : Nat) : URow (w.setCell ⟨b, k, none⟩ (.int .u32 (y : Int))) b t (l.set k y) := by
  unfold URow
  rw [heap_setCell_same w b k _ _ _ h]
  simp [u32s, List.map_set]
theorem BRow.set {w : World} {b : Nat} {t : TypeId} {l : List Nat} (h : BRow w b t l) (k y : Nat) : BRow (w.setCell ⟨b, k, none⟩ (.int .u8 (y : Int))) b t (l.set k y) := by
  unfold BRow
  rw [heap_setCell_same w b k _ _ _ h]
  simp [u8s, List.map_set]
theorem URow.other {w : World} {b : Nat} {t : TypeId} {l : List Nat} (h : URow w b t l) (a : Addr) (ha : b ≠ a.block) (v : Value) : URow (w.setCell a v) b t l := by
  unfold URow; rw [heap_setCell_other w a b v ha]; exact h
theorem BRow.other {w : World} {b : Nat} {t : TypeId} {l : List Nat} (h : BRow w b t l) (a : Addr) (ha : b ≠ a.block) (v : Value) : BRow (w.setCell a v) b t l := by
  unfold BRow; rw [heap_setCell_other w a b v ha]; exact h
theorem URow.lt {w : World} {b : Nat} {t : TypeId} {l : List Nat} (h : URow w b t l) : b < w.heap.size := (Array.getElem?_eq_some_iff.1 h).1
theorem BRow.lt {w : World} {b : Nat} {t : TypeId} {l : List Nat} (h : BRow w b t l) : b < w.heap.size := (Array.getElem?_eq_some_iff.1 h).1
theorem URow.drew {w : World} {b : Nat} {t : TypeId} {l : List Nat} (h : URow w b t l) : URow w.drew b t l := h
theorem BRow.drew {w : World} {b : Nat} {t : TypeId} {l : List Nat} (h : BRow w b t l) : BRow w.drew b t l := h
theorem URow.drewN {w : World} {b : Nat} {t : TypeId} {l : List Nat} (h : URow w b t l) (n : Nat) : URow (w.drewN n) b t l := h

theorem heap_third2 (w : World) (A B C : Obj) : (((w.alloc A).alloc B).alloc C).heap[w.heap.size + 1 + 1]? = some C := by
  have h := heap_alloc_new ((w.alloc A).alloc B) C
  have e : ((w.alloc A).alloc B).heap.size = w.heap.size + 1 + 1 := by simp
  rw [e] at h
  exact h
theorem heap_third1 (w : World) (A B C : Obj) : (((w.alloc A).alloc B).alloc C).heap[w.heap.size + 1]? = some B := by
  rw [Below.heap_alloc _ _ _ (by simp)]
  exact heap_alloc2_new w A B
theorem heap_third0 (w : World) (A B C : Obj) : (((w.alloc A).alloc B).alloc C).heap[w.heap.size]? = some A := by
  rw [Below.heap_alloc _ _ _ (by simp; omega)]
  exact heap_alloc2_old w A B
theorem u32s_one (l : List Nat) : (u32s l).all (·.oneCell') = true := by
  rw [Array.all_eq_true_iff_forall_mem]
  intro v hv
  unfold u32s at hv
  simp at hv
  obtain ⟨a, _, rfl⟩ := hv
  rfl
theorem below_setRow {B : Nat} {a w : World} (h : Below B a w) {g : Nat} (hg : B ≤ g) (cs : Array Value) : Below B a (w.setRow g cs) :=
  h.trans ⟨rfl, rfl, rfl, by simp, fun k hk => setRow_other w g k cs (by omega)⟩
def zeros64 : List Nat := List.replicate 64 0
/-- The first r bytes of word k. -/
def pw (p : List Nat) (k : Nat) : Nat → Nat
  | 0 => 0
  | r + 1 => pw p k r * 256 + p.getD (4 * k + r) 0
def sch1 (p : List Nat) (i : Nat) : List Nat := (List.range 64).map fun k => pw p k (min 4 (i - 4 * k))
theorem sch1_length (p : List Nat) (i : Nat) : (sch1 p i).length = 64 := by simp [sch1]
theorem sch1_at (p : List Nat) (i k : Nat) (h : k < 64) : (sch1 p i)[k]'(by rw [sch1_length]; exact h) = pw p k (min 4 (i - 4 * k)) := by simp [sch1]
theorem sch1_zero (p : List Nat) : sch1 p 0 = zeros64 := by
  unfold sch1 zeros64
  apply List.ext_getElem
  · simp
  · intro k h1 h2
    rw [List.getElem_map, List.getElem_replicate, Nat.zero_sub]
    rfl
theorem sch1_set (p : List Nat) (i : Nat) : (sch1 p i).set (i / 4) (pw p (i / 4) (i % 4) * 256 + p.getD i 0) = sch1 p (i + 1) := by
  apply List.ext_getElem
  · simp [sch1]
  · intro k h1 h2
    have hk : k < 64 := by rw [sch1_length] at h2; exact h2
    rw [List.getElem_set, sch1_at p (i + 1) k hk]
    split
    · rename_i e
      subst e
      have e1 : min 4 (i + 1 - 4 * (i / 4)) = i % 4 + 1 := by omega
      rw [e1]
      show _ = pw p (i / 4) (i % 4) * 256 + p.getD (4 * (i / 4) + i % 4) 0
      have e2 : 4 * (i / 4) + i % 4 = i := by omega
      rw [e2]
    · rename_i e
      rw [sch1_at p i k hk]
      have e1 : min 4 (i + 1 - 4 * k) = min 4 (i - 4 * k) := by omega
      rw [e1]
theorem sched16 (p : List Nat) : ∀ i, i ≤ 16 → schedTo p i = (List.range i).map (wd p)
  | 0, _ => rfl
  | i + 1, h => by
    rw [List.range_succ, List.map_append, ← sched16 p i (by omega)]
    show _ ++ [nxt _ p i] = _
    rw [nxt, if_pos (by omega)]
    rfl
theorem sch1_all (p : List Nat) : sch1 p 64 = fill (schedTo p 16) 64 := by
  rw [sched16 p 16 (by omega)]
  unfold fill
  apply List.ext_getElem
  · simp [sch1]
  · intro k h1 h2
    have hk : k < 64 := by rw [sch1_length] at h1; exact h1
    rw [sch1_at p 64 k hk]
    rcases Nat.lt_or_ge k 16 with h | h
    · rw [List.getElem_append_left (by simp; omega)]
      have e1 : min 4 (64 - 4 * k) = 4 := by omega
      rw [e1]
      simp [pw, wd]
      omega
    · rw [List.getElem_append_right (by simp; omega)]
      have e1 : min 4 (64 - 4 * k) = 0 := by omega
      rw [e1, List.getElem_replicate]
      rfl
theorem pw_lt (p : List Nat) (hpb : ∀ d ∈ p, d < 256) (k : Nat) : ∀ r, pw p k r < 256 ^ r
  | 0 => by simp [pw]
  | r + 1 => by
    have h := pw_lt p hpb k r
    have h2 := getD_lt hpb (by decide) (4 * k + r)
    rw [Nat.pow_succ]
    show pw p k r * 256 + _ < _
    omega
theorem pw_24 (p : List Nat) (hpb : ∀ d ∈ p, d < 256) (k r : Nat) (h : r < 4) : pw p k r < 16777216 := by
  have h1 := pw_lt p hpb k r
  have h2 : 256 ^ r ≤ 256 ^ 3 := Nat.pow_le_pow_right (by decide) (by omega)
  omega
theorem or_byte (x b : Nat) (hx : x < 16777216) (hb : b < 256) : bits .or .u32 ((x : Int) * 256) (b : Int) = ((x * 256 + b : Nat) : Int) := by
  have e : (x : Int) * 256 = ((x * 256 : Nat) : Int) := by omega
  rw [e, u32_or_nat _ _ (by omega) (by omega)]
  congr 1
  have := Nat.two_pow_add_eq_or_of_lt (i := 8) (b := b) (by omega) x
  rw [Nat.mul_comm x 256]
  exact this.symm

set_option maxRecDepth 100000 in
set_option maxHeartbeats 1000000 in
theorem sched_any (p : List Nat) (hpl : p.length = 64) (hpb : ∀ d ∈ p, d < 256) (w : World) :
    Calls Tryz.prog 250 #[.agg (u8s p)] w fun e w' =>
      e = .returned (.agg (u32s (schedTo p 64))) ∧ Below w.heap.size w w' := by
  obtain ⟨c, hc⟩ : ∃ c, c = u8s p := ⟨_, rfl⟩
  rw [← hc]
  have HC : Hid (c = u8s p) := hc
  clear hc
  have HPL : Hid (p.length = 64) := hpl
  have HPB : Hid (∀ d ∈ p, d < 256) := hpb
  clear hpl hpb
  go_enter Tryz.func250, Tryz.ntmps250
  go_wp2_with fail
  go_loopw [11] (fun iv_ wr => ∃ i : Nat, i ≤ 64 ∧ iv_ = .int .i64 (i : Int) ∧ Hid (BRow wr w.heap.size 192 p) ∧ Hid (URow wr (w.heap.size + 1) 394 zeros64) ∧ Hid (URow wr (w.heap.size + 1 + 1) 394 (sch1 p i)) ∧ Hid (Below w.heap.size w wr)) (fun iv_ _ => 64 - (intOf iv_).toNat)
  case atStart =>
    refine ⟨0, by omega, rfl, ?_, ?_, ?_, ?_⟩
    · show BRow _ _ _ _
      unfold BRow
      rw [← HC.out]
      exact heap_third0 w _ _ _
    · exact heap_third1 w _ _ _
    · show URow _ _ _ _
      rw [sch1_zero]
      exact heap_third2 w _ _ _
    · exact (((Below.refl _ _).alloc (Nat.le_refl _) _).alloc (by simp) _).alloc (by simp; omega) _
  case round =>
    obtain ⟨i, hi, rfl, HP, HR, HW, HB⟩ := hrel
    have hw3 := HW.out.lt
    by_cases hlt : i < 64
    · obtain ⟨x, hx⟩ : ∃ x, x = pw p (i / 4) (i % 4) := ⟨_, rfl⟩
      obtain ⟨b, hb⟩ : ∃ b, b = p.getD i 0 := ⟨_, rfl⟩
      have lx : x < 16777216 := by rw [hx]; exact pw_24 p HPB.out _ _ (by omega)
      have lb : b < 256 := by rw [hb]; exact getD_lt HPB.out (by decide) i
      have cw : wr.cell? ⟨w.heap.size + 1 + 1, i / 4, none⟩ = some (.int .u32 (x : Int)) := by
        rw [HW.out.cell (i / 4) (by rw [sch1_length]; omega), sch1_at p i (i / 4) (by omega), hx]
        have e1 : min 4 (i - 4 * (i / 4)) = i % 4 := by omega
        rw [e1]
      have cb : wr.cell? ⟨w.heap.size, i, none⟩ = some (.int .u8 (b : Int)) := by
        rw [HP.out.cell i (by rw [HPL.out]; exact hlt), hb, get_getD]
      have fw := HW.out.frozen (i / 4)
      have nor := or_byte x b lx lb
      have HX : Hid (x = pw p (i / 4) (i % 4)) := hx
      have HBB : Hid (b = p.getD i 0) := hb
      obtain ⟨q, hq⟩ : ∃ q, q = i / 4 := ⟨_, rfl⟩
      rw [← hq] at cw fw
      have hq' : (i : Int) / 4 = (q : Int) := by omega
      have hq64 : q < 64 := by omega
      have HQ : Hid (q = i / 4) := hq
      clear hx hb hq
      go_wp2
      go_region
      go_wp2
      go_roundw
      case rel =>
        refine ⟨i + 1, by omega, by go_num, ?_, ?_, ?_, ?_⟩
        · exact (HP.out.other _ (by show w.heap.size ≠ w.heap.size + 1 + 1; omega) _).drew
        · exact (HR.out.other _ (by show w.heap.size + 1 ≠ w.heap.size + 1 + 1; omega) _).drew
        · have h1 := HW.out.set q (x * 256 + b)
          have e1 : (sch1 p i).set q (x * 256 + b) = sch1 p (i + 1) := by rw [HQ.out, HX.out, HBB.out]; exact sch1_set p i
          have e2 : ((x * 256 + b : Nat) : Int) = (x : Int) * 256 + b := by omega
          rw [e1, e2] at h1
          exact h1
        · exact (HB.out.setCell (by show w.heap.size ≤ w.heap.size + 1 + 1; omega) _).drew
      case measure => (simp [intOf]; try omega)
    · have hi64 : i = 64 := by omega
      obtain ⟨i1, hi1⟩ : ∃ i1, i1 = i := ⟨_, rfl⟩
      subst hi1
      have HW1 : Hid (URow wr (w.heap.size + 1 + 1) 394 (fill (schedTo p 16) 64)) := by
        have h := HW.out
        rw [hi64, sch1_all p] at h
        exact h
      clear HW hi64 HP
      go_wp2
      go_loopw [28] (fun iv_ wr => ∃ k : Nat, k ≤ 48 ∧ iv_ = .int .i64 (k : Int) ∧ Hid (URow wr (w.heap.size + 1) 394 zeros64) ∧ Hid (URow wr (w.heap.size + 1 + 1) 394 (fill (schedTo p (16 + k)) 64)) ∧ Hid (Below w.heap.size w wr)) (fun iv_ _ => 48 - (intOf iv_).toNat)
      case atStart => exact ⟨0, by omega, rfl, HR, HW1, HB⟩
      case round =>
        clear HR HW1 HB hw3 hlt
        obtain ⟨k, hk, rfl, HR, HW, HB⟩ := hrel
        have hw3 := HW.out.lt
        by_cases hlt : k < 48
        · obtain ⟨i, hi⟩ : ∃ i, i = 16 + k := ⟨_, rfl⟩
          have hki : (k : Int) + 16 = (i : Int) := by omega
          have hi16 : 16 ≤ i := by omega
          have hi64 : i < 64 := by omega
          have HW2 : Hid (URow wr (w.heap.size + 1 + 1) 394 (fill (schedTo p i) 64)) := by rw [hi]; exact HW
          have HI : Hid (i = 16 + k) := hi
          clear hi HW
          have hfl : (fill (schedTo p i) 64).length = 64 := fill_length _ _ (by rw [schedTo_length]; omega)
          have hsl := schedTo_length p i
          have gat : ∀ j, j < i → wr.cell? ⟨w.heap.size + 1 + 1, j, none⟩ = some (.int .u32 ((schedTo p i).getD j 0 : Int)) := fun j hj => by
            rw [HW2.out.cell j (by omega), fill_at _ _ _ (by omega) (by omega), get_getD]
          have glt : ∀ j, (schedTo p i).getD j 0 < w32 := fun j => getD_lt (schedTo_lt p HPB.out i) (by decide) j
          obtain ⟨x16, e16⟩ : ∃ x, x = (schedTo p i).getD (i - 16) 0 := ⟨_, rfl⟩
          obtain ⟨x15, e15⟩ : ∃ x, x = (schedTo p i).getD (i - 15) 0 := ⟨_, rfl⟩
          obtain ⟨x7, e7⟩ : ∃ x, x = (schedTo p i).getD (i - 7) 0 := ⟨_, rfl⟩
          obtain ⟨x2, e2⟩ : ∃ x, x = (schedTo p i).getD (i - 2) 0 := ⟨_, rfl⟩
          have q15 : (x15 : Int) ≤ 4294967295 := by have := glt (i - 15); rw [← e15] at this; unfold w32 at this; omega
          have q2 : (x2 : Int) ≤ 4294967295 := by have := glt (i - 2); rw [← e2] at this; unfold w32 at this; omega
          have c16 : wr.cell? ⟨w.heap.size + 1 + 1, i - 16, none⟩ = some (.int .u32 (x16 : Int)) := by rw [e16]; exact gat _ (by omega)
          have c15 : wr.cell? ⟨w.heap.size + 1 + 1, i - 15, none⟩ = some (.int .u32 (x15 : Int)) := by rw [e15]; exact gat _ (by omega)
          have c7 : wr.cell? ⟨w.heap.size + 1 + 1, i - 7, none⟩ = some (.int .u32 (x7 : Int)) := by rw [e7]; exact gat _ (by omega)
          have c2 : wr.cell? ⟨w.heap.size + 1 + 1, i - 2, none⟩ = some (.int .u32 (x2 : Int)) := by rw [e2]; exact gat _ (by omega)
          obtain ⟨z, cz⟩ : ∃ z : Int, wr.cell? ⟨w.heap.size + 1 + 1, i, none⟩ = some (.int .u32 z) := ⟨_, HW2.out.cell i (by omega)⟩
          have fz := HW2.out.frozen i
          have HN : Hid (nxt (schedTo p i) p i = (x16 + x7 + s0 x15 + s1 x2) % 4294967296) := by
            show _ = _
            rw [nxt, if_neg (by omega), ← e16, ← e15, ← e7, ← e2]
          clear e16 e15 e7 e2 gat glt hsl
          go_wp2
          go_quiet (fail)
          go_wp2_with fail
          refine (rot_any x15 7 25 (-7) _ q15 (by decide +kernel) (by omega) (by omega) rfl).mono ?_
          rintro e w' ⟨rfl, rfl⟩
          obtain ⟨a7, ha7⟩ : ∃ a, a = rotN x15 7 := ⟨_, rfl⟩
          rw [← ha7]
          have ba7 : (a7 : Int) ≤ 4294967295 := by have := rotN_lt x15 7; rw [← ha7] at this; unfold w32 at this; omega
          have Ha7 : Hid (a7 = rotN x15 7) := ha7
          clear ha7
          go_wp2_with fail
          refine (rot_any x15 18 14 (-18) _ q15 (by decide +kernel) (by omega) (by omega) rfl).mono ?_
          rintro e w' ⟨rfl, rfl⟩
          obtain ⟨a18, ha18⟩ : ∃ a, a = rotN x15 18 := ⟨_, rfl⟩
          rw [← ha18]
          have ba18 : (a18 : Int) ≤ 4294967295 := by have := rotN_lt x15 18; rw [← ha18] at this; unfold w32 at this; omega
          have Ha18 : Hid (a18 = rotN x15 18) := ha18
          clear ha18
          obtain ⟨y1, hy1⟩ : ∃ y, y = a7 ^^^ a18 := ⟨_, rfl⟩
          obtain ⟨y2, hy2⟩ : ∃ y, y = y1 ^^^ (x15 / 8) := ⟨_, rfl⟩
          have ly1 : y1 < w32 := by rw [hy1]; exact xor_w32 (by unfold w32; omega) (by unfold w32; omega)
          have ly2 : y2 < w32 := by rw [hy2]; exact xor_w32 ly1 (by unfold w32; omega)
          unfold w32 at ly1 ly2
          have ny1 : bits .xor .u32 (a7 : Int) (a18 : Int) = (y1 : Int) := by rw [hy1]; exact u32_xor_nat _ _ (by omega) (by omega)
          have ny2 : bits .xor .u32 (y1 : Int) ((x15 : Int) / 8) = (y2 : Int) := by rw [hy2, ← u32_xor_nat _ _ (by omega) (by omega)]; rfl
          have HY : Hid (y2 = s0 x15) := by show _ = _; rw [hy2, hy1, Ha7.out, Ha18.out]; rfl
          clear hy1 hy2 ly1 ly2
          go_wp2_with fail
          refine (rot_any x2 17 15 (-17) _ q2 (by decide +kernel) (by omega) (by omega) rfl).mono ?_
          rintro e w' ⟨rfl, rfl⟩
          obtain ⟨c17, hc17⟩ : ∃ a, a = rotN x2 17 := ⟨_, rfl⟩
          rw [← hc17]
          have bc17 : (c17 : Int) ≤ 4294967295 := by have := rotN_lt x2 17; rw [← hc17] at this; unfold w32 at this; omega
          have Hc17 : Hid (c17 = rotN x2 17) := hc17
          clear hc17
          go_wp2_with fail
          refine (rot_any x2 19 13 (-19) _ q2 (by decide +kernel) (by omega) (by omega) rfl).mono ?_
          rintro e w' ⟨rfl, rfl⟩
          obtain ⟨c19, hc19⟩ : ∃ a, a = rotN x2 19 := ⟨_, rfl⟩
          rw [← hc19]
          have bc19 : (c19 : Int) ≤ 4294967295 := by have := rotN_lt x2 19; rw [← hc19] at this; unfold w32 at this; omega
          have Hc19 : Hid (c19 = rotN x2 19) := hc19
          clear hc19
          obtain ⟨z1, hz1⟩ : ∃ y, y = c17 ^^^ c19 := ⟨_, rfl⟩
          obtain ⟨z2, hz2⟩ : ∃ y, y = z1 ^^^ (x2 / 1024) := ⟨_, rfl⟩
          have lz1 : z1 < w32 := by rw [hz1]; exact xor_w32 (by unfold w32; omega) (by unfold w32; omega)
          have lz2 : z2 < w32 := by rw [hz2]; exact xor_w32 lz1 (by unfold w32; omega)
          unfold w32 at lz1 lz2
          have nz1 : bits .xor .u32 (c17 : Int) (c19 : Int) = (z1 : Int) := by rw [hz1]; exact u32_xor_nat _ _ (by omega) (by omega)
          have nz2 : bits .xor .u32 (z1 : Int) ((x2 : Int) / 1024) = (z2 : Int) := by rw [hz2, ← u32_xor_nat _ _ (by omega) (by omega)]; rfl
          have HZ : Hid (z2 = s1 x2) := by show _ = _; rw [hz2, hz1, Hc17.out, Hc19.out]; rfl
          clear hz1 hz2 lz1 lz2
          have HN2 : Hid (nxt (schedTo p i) p i = (x16 + x7 + y2 + z2) % 4294967296) := by
            show _ = _
            rw [HN.out, ← HY.out, ← HZ.out]
          clear HN
          go_wp2
          go_region
          go_wp2
          go_roundw
          case rel =>
            have ez : ((nxt (schedTo p i) p i : Nat) : Int) = ((x16 : Int) + (y2 : Int) + (x7 : Int) + (z2 : Int)) % 4294967296 := by rw [HN2.out]; omega
            refine ⟨k + 1, by omega, by go_num, ?_, ?_, ?_⟩
            · exact (HR.out.other _ (by show w.heap.size + 1 ≠ w.heap.size + 1 + 1; omega) _).drew
            · show URow _ _ _ _
              have h1 := HW2.out.set i (nxt (schedTo p i) p i)
              have h3 := fill_set (schedTo p i) 64 (nxt (schedTo p i) p i) (by rw [schedTo_length]; omega)
              rw [schedTo_length] at h3
              rw [h3, ez] at h1
              have e5 : 16 + (k + 1) = i + 1 := by rw [HI.out]; omega
              rw [e5]
              exact h1
            · exact ((below_drewN' HB.out nq).setCell (by show w.heap.size ≤ w.heap.size + 1 + 1; omega) _).drew
          case measure => (simp [intOf]; try omega)
        · have hk48 : k = 48 := by omega
          have HW3 : Hid (URow wr (w.heap.size + 1 + 1) 394 (schedTo p 64)) := by
            have h := HW.out
            rw [hk48] at h
            have e : fill (schedTo p (16 + 48)) 64 = schedTo p 64 := by unfold fill; rw [schedTo_length]; simp
            rw [e] at h
            exact h
          clear HW
          obtain ⟨S, hS⟩ : ∃ S, S = u32s (schedTo p 64) := ⟨_, rfl⟩
          obtain ⟨Z, hZ⟩ : ∃ Z, Z = u32s zeros64 := ⟨_, rfl⟩
          have HS : Hid (wr.heap[w.heap.size + 1 + 1]? = some (.cells S 394 (0, 0))) := by rw [hS]; exact HW3
          have HZ : Hid (wr.heap[w.heap.size + 1]? = some (.cells Z 394 (0, 0))) := by rw [hZ]; exact HR
          have hsz : S.size = 64 := by rw [hS]; simp [u32s, schedTo_length]
          have HI64 : Hid ((Tryz.prog.info? 394).map (·.size) = some S.size) := by
            show _ = _
            rw [hsz]
            kernel_rfl
          have HSZ : Hid (Z.size = S.size) := by show _ = _; rw [hsz, hZ]; rfl
          have HON : Hid (S.all (·.oneCell') = true) := by show _ = _; rw [hS]; exact u32s_one _
          have HSE : Hid (S = u32s (schedTo p 64)) := hS
          clear hsz hS hZ HW3 HR hk48
          go_wp2_with (first | refine wpList_load_row rfl 394 _ rfl (w.heap.size + 1 + 1) rfl 394 S (0, 0) _ HS.out Tryz.underlying394 rfl HI64.out ?_ | refine wpList_store_row rfl 394 _ _ rfl (w.heap.size + 1) S rfl rfl 394 Z HZ.out HI64.out HSZ.out HON.out ?_)
          refine bodyPost_ret (v := .agg (u32s (schedTo p 64))) ?_ rfl ⟨rfl, ?_⟩
          · rw [← HSE.out]
            exact results_cell_row (p := 2) (ty := 394) rfl _ _ (w.heap.size + 1) 394 S (0, 0) _ rfl (setRow_heap wr (w.heap.size + 1) Z S 394 _ HZ.out) Tryz.underlying394 rfl HI64.out
          · exact below_setRow HB.out (by omega) _
end Go.Proofs.YtapijhhmjjplmaaGreatDoor
namespace Go.Proofs.YtapijhhmjjplmaaGreatDoor
open Go.RowKit

def zeros8 : List Nat := List.replicate 8 0

/-- Eight words, one by one, into block b. -/
abbrev put8 (w : World) (b : Nat) (x0 x1 x2 x3 x4 x5 x6 x7 : Nat) : World := ((((((((w.setCell ⟨b, 0, none⟩ (.int .u32 (x0 : Int))).setCell ⟨b, 1, none⟩ (.int .u32 (x1 : Int))).setCell ⟨b, 2, none⟩ (.int .u32 (x2 : Int))).setCell ⟨b, 3, none⟩ (.int .u32 (x3 : Int))).setCell ⟨b, 4, none⟩ (.int .u32 (x4 : Int))).setCell ⟨b, 5, none⟩ (.int .u32 (x5 : Int))).setCell ⟨b, 6, none⟩ (.int .u32 (x6 : Int))).setCell ⟨b, 7, none⟩ (.int .u32 (x7 : Int)))
theorem put8_row {w : World} {b : Nat} {t : TypeId} {l : List Nat} (hl : l.length = 8) (h : URow w b t l) (x0 x1 x2 x3 x4 x5 x6 x7 : Nat) : URow (put8 w b x0 x1 x2 x3 x4 x5 x6 x7) b t [x0, x1, x2, x3, x4, x5, x6, x7] := by
  have h1 := (((((((h.set 0 x0).set 1 x1).set 2 x2).set 3 x3).set 4 x4).set 5 x5).set 6 x6).set 7 x7
  match l, hl with
  | [_, _, _, _, _, _, _, _], _ => exact h1
theorem put8_other {w : World} {b c : Nat} {t : TypeId} {l : List Nat} (h : URow w c t l) (hc : c ≠ b) (x0 x1 x2 x3 x4 x5 x6 x7 : Nat) : URow (put8 w b x0 x1 x2 x3 x4 x5 x6 x7) c t l :=
  (((((((h.other _ hc _).other _ hc _).other _ hc _).other _ hc _).other _ hc _).other _ hc _).other _ hc _).other _ hc _
theorem put8_below {B : Nat} {a w : World} (h : Below B a w) {b : Nat} (hb : B ≤ b) (x0 x1 x2 x3 x4 x5 x6 x7 : Nat) : Below B a (put8 w b x0 x1 x2 x3 x4 x5 x6 x7) :=
  (((((((h.setCell hb _).setCell hb _).setCell hb _).setCell hb _).setCell hb _).setCell hb _).setCell hb _).setCell hb _
theorem below_undrew {B : Nat} {w w' : World} (h : Below B w.drew w') : Below B w w' := ⟨h.os, h.tape, h.output, h.size, h.block⟩
theorem URow.on {B : Nat} {w w' : World} {b : Nat} {t : TypeId} {l : List Nat} (h : URow w b t l) (hb : Below B w w') (hB : w.heap.size ≤ B) : URow w' b t l := (hb.block b (Nat.lt_of_lt_of_le h.lt hB)).trans h
theorem wrap_u32 (v : Int) : IntKind.u32.wrap v = v % 4294967296 := by
  simp [IntKind.wrap, IntKind.bits, IntKind.signed]
/-- A round, at the sum of its word and its constant. -/
theorem rnd_sum (v : List Nat) (k x : Nat) : rndW v ((x + k) % 4294967296) = rnd v k x := by
  unfold rndW rnd tOf
  congr 1
  · omega
  · congr 4
    omega

set_option maxRecDepth 100000 in
set_option maxHeartbeats 1000000 in
theorem mix_any (h p ks : List Nat) (hhl : h.length = 8) (hhw : ∀ d ∈ h, d < w32) (hpl : p.length = 64) (hpb : ∀ d ∈ p, d < 256) (hkw : ∀ d ∈ ks, d < w32) (w : World)
    (hK : ∀ i, i < 64 → w.cell? ⟨14, i, none⟩ = some (.int .u32 (ks.getD i 0 : Int))) :
    Calls Tryz.prog 182 #[.agg (u32s h), .agg (u8s p)] w fun e w' =>
      e = .returned (.agg (u32s (mixN ks h p))) ∧ Below w.heap.size w w' := by
  have hG : 14 < w.heap.size := block_lt_of_cell (hK 0 (by omega))
  obtain ⟨A8, hA⟩ : ∃ c, c = u32s h := ⟨_, rfl⟩
  obtain ⟨P64, hP⟩ : ∃ c, c = u8s p := ⟨_, rfl⟩
  rw [← hA, ← hP]
  have HA : Hid (A8 = u32s h) := hA
  have HP : Hid (P64 = u8s p) := hP
  have hAs : A8.size = 8 := by rw [hA]; simp [u32s, hhl]
  have hPs : P64.size = 64 := by rw [hP]; simp [u8s, hpl]
  have HIA : Hid ((Tryz.prog.info? 302).map (·.size) = some A8.size) := by show _ = _; rw [hAs]; kernel_rfl
  have HIP : Hid ((Tryz.prog.info? 192).map (·.size) = some P64.size) := by show _ = _; rw [hPs]; kernel_rfl
  have HOA : Hid (A8.all (·.oneCell') = true) := by show _ = _; rw [hA]; exact u32s_one _
  have HAS : Hid (A8.size = 8) := hAs
  have HK : Hid (∀ i, i < 64 → w.cell? ⟨14, i, none⟩ = some (.int .u32 (ks.getD i 0 : Int))) := hK
  have HHL : Hid (h.length = 8) := hhl
  have HHW : Hid (∀ d ∈ h, d < w32) := hhw
  have HKW : Hid (∀ d ∈ ks, d < w32) := hkw
  have HPL : Hid (p.length = 64) := hpl
  have HPB : Hid (∀ d ∈ p, d < 256) := hpb
  clear hA hP hAs hPs hK hhl hhw hkw hpl hpb
  go_enter Tryz.func182, Tryz.ntmps182
  go_wp2_with (refine wpList_load_row rfl 192 _ rfl (w.heap.size + 1) rfl 192 P64 (0, 0) _ (heap_third1 w _ _ _) Tryz.underlying192 rfl HIP.out ?_)
  have hs := sched_any p HPL.out HPB.out (((w.alloc (.cells A8 302)).alloc (.cells P64 192)).alloc (.cells (u32s zeros8) 302))
  rw [← HP.out] at hs
  refine hs.mono ?_
  rintro e w1 ⟨rfl, hb1⟩
  clear hs
  have hz1 := hb1.size
  simp at hz1
  have HR0 : Hid (w1.heap[w.heap.size]? = some (.cells A8 302 (0, 0))) := by
    show _ = _
    rw [hb1.block _ (by simp; omega)]
    exact heap_third0 w _ _ _
  have HR2 : Hid (w1.heap[w.heap.size + 1 + 1]? = some (.cells (u32s zeros8) 302 (0, 0))) := by
    show _ = _
    rw [hb1.block _ (by simp)]
    exact heap_third2 w _ _ _
  have HB1 : Hid (Below w.heap.size w w1) := ((((Below.refl w.heap.size w).alloc (Nat.le_refl _) _).alloc (by simp) _).alloc (by simp; omega) _).trans (hb1.mono (by simp; omega))
  clear hb1
  obtain ⟨S, hS⟩ : ∃ S, S = u32s (schedTo p 64) := ⟨_, rfl⟩
  rw [← hS]
  have hsz : S.size = 64 := by rw [hS]; simp [u32s, schedTo_length]
  have HI64 : Hid ((Tryz.prog.info? 394).map (·.size) = some S.size) := by
    show _ = _
    rw [hsz]
    kernel_rfl
  have HS64 : Hid (S.size = 64) := hsz
  have HON : Hid (S.all (·.oneCell') = true) := by show _ = _; rw [hS]; exact u32s_one _
  have HSE : Hid (S = u32s (schedTo p 64)) := hS
  clear hS hsz
  have s1 : ∀ Z : Array Value, Z.size = 64 → Z.size = S.size := fun Z h => h.trans HS64.out.symm
  have s2 : ∀ Z : Array Value, Z.size = 8 → Z.size = A8.size := fun Z h => h.trans HAS.out.symm
  have HG1 : Hid (∀ Z, ((w1.alloc Z).setRow w1.heap.size S).heap[w.heap.size]? = some (.cells A8 302 (0, 0))) := fun Z => by
    rw [setRow_other _ _ _ _ (by omega), Below.heap_alloc _ _ _ (by omega)]
    exact HR0.out
  have HG2 : Hid (∀ Z Y, (((w1.alloc Z).setRow w1.heap.size S).alloc Y).heap[w1.heap.size + 1]? = some Y) := fun Z Y => by
    have h := heap_alloc_new ((w1.alloc Z).setRow w1.heap.size S) Y
    have e : ((w1.alloc Z).setRow w1.heap.size S).heap.size = w1.heap.size + 1 := by simp
    rw [e] at h
    exact h
  have HS1 : Hid (∀ Z : Array Value, Z.size = 64 → Z.size = S.size) := s1
  have HS2 : Hid (∀ Z : Array Value, Z.size = 8 → Z.size = A8.size) := s2
  clear s1 s2
  go_wp2_with (first | refine wpList_store_row rfl 394 _ _ rfl w1.heap.size S rfl rfl 394 _ (heap_alloc_new w1 _) HI64.out (HS1.out _ rfl) HON.out ?_ | refine wpList_load_row rfl 302 _ rfl w.heap.size rfl 302 A8 (0, 0) _ (HG1.out _) Tryz.underlying302 rfl HIA.out ?_ | refine wpList_store_row rfl 302 _ _ rfl (w1.heap.size + 1) A8 rfl rfl 302 _ (HG2.out _ _) HIA.out (HS2.out _ rfl) HOA.out ?_)
  obtain ⟨n, hn⟩ : ∃ n, n = w1.heap.size := ⟨_, rfl⟩
  go_loopw [12] (fun iv_ wr => ∃ i : Nat, i ≤ 64 ∧ iv_ = .int .i64 (i : Int) ∧ Hid (URow wr w.heap.size 302 h) ∧ Hid (URow wr (w.heap.size + 1 + 1) 302 zeros8) ∧ Hid (URow wr w1.heap.size 394 (schedTo p 64)) ∧ Hid (URow wr (w1.heap.size + 1) 302 (rnds ks (schedTo p 64) h i)) ∧ Hid (Below w.heap.size w wr)) (fun iv_ _ => 64 - (intOf iv_).toNat)
  case atStart =>
    refine ⟨0, by omega, rfl, ?_, ?_, ?_, ?_, ?_⟩
    · show URow _ _ _ _
      unfold URow
      rw [setRow_other _ _ _ _ (by omega), Below.heap_alloc _ _ _ (by simp; omega), ← HA.out]
      exact HG1.out _
    · show URow _ _ _ _
      unfold URow
      rw [setRow_other _ _ _ _ (by omega), Below.heap_alloc _ _ _ (by simp; omega), setRow_other _ _ _ _ (by omega), Below.heap_alloc _ _ _ (by omega)]
      exact HR2.out
    · show URow _ _ _ _
      unfold URow
      rw [setRow_other _ _ _ _ (by omega), Below.heap_alloc _ _ _ (by simp), ← HSE.out]
      exact setRow_heap _ _ _ _ _ _ (heap_alloc_new w1 _)
    · show URow _ _ _ _
      unfold URow
      have h1 := fun Z Y => setRow_heap _ _ _ A8 _ _ (HG2.out Z (.cells Y 302 (0, 0)))
      have e : rnds ks (schedTo p 64) h 0 = h := rfl
      rw [e, ← HA.out]
      exact h1 _ _
    · exact below_setRow ((below_setRow (HB1.out.alloc (by omega) _) (by omega) _).alloc (by simp; omega) _) (by omega) _
  case round =>
    clear HG1 HG2 HS1 HS2 HR0 HR2 HB1
    obtain ⟨i, hi, rfl, HH, HZ, HW, HV, HB⟩ := hrel
    have hw3 := HV.out.lt
    by_cases hlt : i < 64
    · obtain ⟨v, hv⟩ : ∃ v, v = rnds ks (schedTo p 64) h i := ⟨_, rfl⟩
      have hvl : v.length = 8 := by rw [hv]; exact rnds_length _ _ _ HHL.out i
      have hvw : ∀ d ∈ v, d < w32 := by rw [hv]; exact rnds_lt _ _ _ HHL.out HHW.out i
      obtain ⟨v0, v1, v2, v3, v4, v5, v6, v7, hv8⟩ : ∃ v0 v1 v2 v3 v4 v5 v6 v7, v = [v0, v1, v2, v3, v4, v5, v6, v7] := by
        match v, hvl with
        | [v0, v1, v2, v3, v4, v5, v6, v7], _ => exact ⟨v0, v1, v2, v3, v4, v5, v6, v7, rfl⟩
      have hrv := HV.out
      rw [← hv, hv8] at hrv
      have HVR : Hid (URow wr (w1.heap.size + 1) 302 [v0, v1, v2, v3, v4, v5, v6, v7]) := hrv
      have HVE : Hid ([v0, v1, v2, v3, v4, v5, v6, v7] = rnds ks (schedTo p 64) h i) := by rw [← hv8]; exact hv
      rw [hv8] at hvw
      have b0 : (v0 : Int) ≤ 4294967295 := by have := hvw v0 (by simp); unfold w32 at this; omega
      have b1 : (v1 : Int) ≤ 4294967295 := by have := hvw v1 (by simp); unfold w32 at this; omega
      have b2 : (v2 : Int) ≤ 4294967295 := by have := hvw v2 (by simp); unfold w32 at this; omega
      have b4 : (v4 : Int) ≤ 4294967295 := by have := hvw v4 (by simp); unfold w32 at this; omega
      have b5 : (v5 : Int) ≤ 4294967295 := by have := hvw v5 (by simp); unfold w32 at this; omega
      have b6 : (v6 : Int) ≤ 4294967295 := by have := hvw v6 (by simp); unfold w32 at this; omega
      have c0 := hrv.cell 0 (by simp)
      have c1 := hrv.cell 1 (by simp)
      have c2 := hrv.cell 2 (by simp)
      have c3 := hrv.cell 3 (by simp)
      have c4 := hrv.cell 4 (by simp)
      have c5 := hrv.cell 5 (by simp)
      have c6 := hrv.cell 6 (by simp)
      have c7 := hrv.cell 7 (by simp)
      simp only [List.getElem_cons_zero, List.getElem_cons_succ] at c0 c1 c2 c3 c4 c5 c6 c7
      obtain ⟨kk, hkk⟩ : ∃ x, x = ks.getD i 0 := ⟨_, rfl⟩
      obtain ⟨ww, hww⟩ : ∃ x, x = (schedTo p 64).getD i 0 := ⟨_, rfl⟩
      have ck' : wr.cell? ⟨14, i, none⟩ = some (.int .u32 (kk : Int)) := by
        rw [HB.out.cell (by exact hG), HK.out i hlt, hkk]
      have cw : wr.cell? ⟨w1.heap.size, i, none⟩ = some (.int .u32 (ww : Int)) := by
        rw [HW.out.cell i (by rw [schedTo_length]; exact hlt), hww, get_getD]
      have HKK : Hid (kk = ks.getD i 0) := hkk
      have HWW : Hid (ww = (schedTo p 64).getD i 0) := hww
      obtain ⟨x, hx⟩ : ∃ x, x = (ww + kk) % 4294967296 := ⟨_, rfl⟩
      have nx : IntKind.u32.wrap ((ww : Int) + (kk : Int)) = (x : Int) := by rw [wrap_u32]; omega
      obtain ⟨r0, hr0⟩ : ∃ r, r = (tOf [v0, v1, v2, v3, v4, v5, v6, v7] x 0 + uOf [v0, v1, v2, v3, v4, v5, v6, v7]) % 4294967296 := ⟨_, rfl⟩
      obtain ⟨r4, hr4⟩ : ∃ r, r = (v3 + tOf [v0, v1, v2, v3, v4, v5, v6, v7] x 0) % 4294967296 := ⟨_, rfl⟩
      have HRW : Hid (rndW [v0, v1, v2, v3, v4, v5, v6, v7] x = [r0, v0, v1, v2, r4, v4, v5, v6]) := by
        show _ = _
        rw [hr0, hr4]
        rfl
      have HRU : Hid (u32s (rndW [v0, v1, v2, v3, v4, v5, v6, v7] x) = #[.int .u32 (r0 : Int), .int .u32 (v0 : Int), .int .u32 (v1 : Int), .int .u32 (v2 : Int), .int .u32 (r4 : Int), .int .u32 (v4 : Int), .int .u32 (v5 : Int), .int .u32 (v6 : Int)]) := by
        show _ = _
        rw [HRW.out]
        rfl
      clear hr0 hr4
      have HX : Hid (x = (ww + kk) % 4294967296) := hx
      clear hx hkk hww hv hvl hvw hv8 hrv HV
      go_wp2
      go_region_with (go_at_call 251; go_must (refine (round_any v0 v1 v2 v3 v4 v5 v6 v7 x _ b0 b1 b2 b4 b5 b6).mono ?_; rintro e w' ⟨rfl, hb⟩; rw [HRU.out]; have hrw : URow w' (w1.heap.size + 1) 302 [v0, v1, v2, v3, v4, v5, v6, v7] := (hb.block _ hw3).trans HVR.out; have d0 : w'.cell? ⟨w1.heap.size + 1, 0, none⟩ = some (.int .u32 (v0 : Int)) := hrw.cell 0 (by simp); have f0 := hrw.frozen 0; have d1 : w'.cell? ⟨w1.heap.size + 1, 1, none⟩ = some (.int .u32 (v1 : Int)) := hrw.cell 1 (by simp); have f1 := hrw.frozen 1; have d2 : w'.cell? ⟨w1.heap.size + 1, 2, none⟩ = some (.int .u32 (v2 : Int)) := hrw.cell 2 (by simp); have f2 := hrw.frozen 2; have d3 : w'.cell? ⟨w1.heap.size + 1, 3, none⟩ = some (.int .u32 (v3 : Int)) := hrw.cell 3 (by simp); have f3 := hrw.frozen 3; have d4 : w'.cell? ⟨w1.heap.size + 1, 4, none⟩ = some (.int .u32 (v4 : Int)) := hrw.cell 4 (by simp); have f4 := hrw.frozen 4; have d5 : w'.cell? ⟨w1.heap.size + 1, 5, none⟩ = some (.int .u32 (v5 : Int)) := hrw.cell 5 (by simp); have f5 := hrw.frozen 5; have d6 : w'.cell? ⟨w1.heap.size + 1, 6, none⟩ = some (.int .u32 (v6 : Int)) := hrw.cell 6 (by simp); have f6 := hrw.frozen 6; have d7 : w'.cell? ⟨w1.heap.size + 1, 7, none⟩ = some (.int .u32 (v7 : Int)) := hrw.cell 7 (by simp); have f7 := hrw.frozen 7; have HRN : Hid (URow w' (w1.heap.size + 1) 302 [v0, v1, v2, v3, v4, v5, v6, v7]) := hrw; have HBN : Hid (Below wr.heap.size wr w') := below_undrew hb; clear hb hrw))
      all_goals
        go_wp2
        go_roundw
        case rel =>
          refine ⟨i + 1, by omega, by go_num, ?_, ?_, ?_, ?_, ?_⟩
          · exact put8_other (HH.out.on HBN.out (Nat.le_refl _)) (by omega) r0 v0 v1 v2 r4 v4 v5 v6
          · exact put8_other (HZ.out.on HBN.out (Nat.le_refl _)) (by omega) r0 v0 v1 v2 r4 v4 v5 v6
          · exact put8_other (HW.out.on HBN.out (Nat.le_refl _)) (by omega) r0 v0 v1 v2 r4 v4 v5 v6
          · have h1 := put8_row rfl HRN.out r0 v0 v1 v2 r4 v4 v5 v6
            rw [← HRW.out, HX.out, rnd_sum, HVE.out, HKK.out, HWW.out] at h1
            exact h1
          · exact put8_below (HB.out.trans (HBN.out.mono HB.out.size)) (by omega) r0 v0 v1 v2 r4 v4 v5 v6
        case measure => (simp [intOf]; try omega)
    · have hi64 : i = 64 := by omega
      obtain ⟨i1, hi1⟩ : ∃ i1, i1 = i := ⟨_, rfl⟩
      subst hi1
      obtain ⟨v, hv⟩ : ∃ v, v = rnds ks (schedTo p 64) h 64 := ⟨_, rfl⟩
      have HV1 : Hid (URow wr (w1.heap.size + 1) 302 v) := by
        have h1 := HV.out
        rw [hi64] at h1
        rw [hv]
        exact h1
      have HVL : Hid (v.length = 8) := by rw [hv]; exact rnds_length _ _ _ HHL.out 64
      have HVW : Hid (∀ d ∈ v, d < w32) := by rw [hv]; exact rnds_lt _ _ _ HHL.out HHW.out 64
      have HVE : Hid (v = rnds ks (schedTo p 64) h 64) := hv
      clear hv hi64 HV HW
      go_wp2
      go_loopw [25] (fun iv_ wr => ∃ i : Nat, i ≤ 8 ∧ iv_ = .int .i64 (i : Int) ∧ Hid (URow wr w.heap.size 302 ((addAll h v).take i ++ h.drop i)) ∧ Hid (URow wr (w.heap.size + 1 + 1) 302 zeros8) ∧ Hid (URow wr (w1.heap.size + 1) 302 v) ∧ Hid (Below w.heap.size w wr)) (fun iv_ _ => 8 - (intOf iv_).toNat)
      case atStart => exact ⟨0, by omega, rfl, HH, HZ, HV1, HB⟩
      case round =>
        clear HH HZ HV1 HB hlt hw3
        obtain ⟨i, hi, rfl, HH, HZ, HV, HB⟩ := hrel
        have hw3 := HV.out.lt
        have hlen : ((addAll h v).take i ++ h.drop i).length = 8 := by
          rw [List.length_append, List.length_take, List.length_drop, addAll_length, HHL.out]; omega
        by_cases hlt : i < 8
        · obtain ⟨x, hx⟩ : ∃ x, x = h.getD i 0 := ⟨_, rfl⟩
          obtain ⟨y, hy⟩ : ∃ y, y = v.getD i 0 := ⟨_, rfl⟩
          have cx : wr.cell? ⟨w.heap.size, i, none⟩ = some (.int .u32 (x : Int)) := by
            rw [HH.out.cell i (by omega), hx, get_getD, addTo_get h (addAll h v) i (by rw [addAll_length]; omega)]
          have cy : wr.cell? ⟨w1.heap.size + 1, i, none⟩ = some (.int .u32 (y : Int)) := by
            rw [HV.out.cell i (by rw [HVL.out]; exact hlt), hy, get_getD]
          have fx := HH.out.frozen i
          have HX : Hid (x = h.getD i 0) := hx
          have HY : Hid (y = v.getD i 0) := hy
          clear hx hy
          go_wp2
          go_region
          go_wp2
          go_roundw
          case rel =>
            refine ⟨i + 1, by omega, by go_num, ?_, ?_, ?_, ?_⟩
            · show URow _ _ _ _
              have h1 := HH.out.set i ((addAll h v)[i]'(by rw [addAll_length]; exact hlt))
              rw [addTo_set h (addAll h v) i (by rw [addAll_length, HHL.out]) (by rw [HHL.out]; exact hlt), addAll_at h v i hlt, ← HX.out, ← HY.out] at h1
              have e : (((x + y) % 4294967296 : Nat) : Int) = ((x : Int) + (y : Int)) % 4294967296 := by omega
              rw [e] at h1
              exact h1
            · exact (HZ.out.other _ (by show w.heap.size + 1 + 1 ≠ w.heap.size; omega) _).drew
            · exact (HV.out.other _ (by show w1.heap.size + 1 ≠ w.heap.size; omega) _).drew
            · exact (HB.out.setCell (by show w.heap.size ≤ w.heap.size; omega) _).drew
          case measure => (simp [intOf]; try omega)
        · have hi8 : i = 8 := by omega
          obtain ⟨R, hR⟩ : ∃ R, R = u32s (mixN ks h p) := ⟨_, rfl⟩
          obtain ⟨Z, hZ⟩ : ∃ Z, Z = u32s zeros8 := ⟨_, rfl⟩
          have HR1 : Hid (wr.heap[w.heap.size]? = some (.cells R 302 (0, 0))) := by
            have h1 := HH.out
            rw [hi8, List.take_of_length_le (by rw [addAll_length]; omega), List.drop_of_length_le (by rw [HHL.out]; omega), List.append_nil, HVE.out] at h1
            rw [hR]
            exact h1
          have HZ1 : Hid (wr.heap[w.heap.size + 1 + 1]? = some (.cells Z 302 (0, 0))) := by rw [hZ]; exact HZ
          have hsz : R.size = 8 := by rw [hR]; simp [u32s, mixN_length]
          have HI8 : Hid ((Tryz.prog.info? 302).map (·.size) = some R.size) := by
            show _ = _
            rw [hsz]
            kernel_rfl
          have HSZ : Hid (Z.size = R.size) := by show _ = _; rw [hsz, hZ]; rfl
          have HON1 : Hid (R.all (·.oneCell') = true) := by show _ = _; rw [hR]; exact u32s_one _
          have HRE : Hid (R = u32s (mixN ks h p)) := hR
          clear hsz hR hZ HH HZ hi8
          go_wp2_with (first | refine wpList_load_row rfl 302 _ rfl w.heap.size rfl 302 R (0, 0) _ HR1.out Tryz.underlying302 rfl HI8.out ?_ | refine wpList_store_row rfl 302 _ _ rfl (w.heap.size + 1 + 1) R rfl rfl 302 Z HZ1.out HI8.out HSZ.out HON1.out ?_)
          refine bodyPost_ret (v := .agg (u32s (mixN ks h p))) ?_ rfl ⟨rfl, ?_⟩
          · rw [← HRE.out]
            exact results_cell_row (p := 4) (ty := 302) rfl _ _ (w.heap.size + 1 + 1) 302 R (0, 0) _ rfl (setRow_heap wr (w.heap.size + 1 + 1) Z R 302 _ HZ1.out) Tryz.underlying302 rfl HI8.out
          · exact below_setRow HB.out (by omega) _
end Go.Proofs.YtapijhhmjjplmaaGreatDoor
namespace Go.Proofs.YtapijhhmjjplmaaGreatDoor
open Go.RowKit

variable {P : Program}
def bcells (l : List UInt8) : List Value := l.map fun b : UInt8 => Value.int .u8 (b.toNat : Int)
theorem bcells_length (l : List UInt8) : (bcells l).length = l.length := by simp [bcells]
theorem bcells_one (l : List UInt8) : ∀ v ∈ bcells l, v.oneCell' = true := by
  intro v hv
  simp only [bcells, List.mem_map] at hv
  obtain ⟨b, _, rfl⟩ := hv
  rfl

/-- copy of a string, whole or its head, into row g. -/
theorem run_copy_str (w : World) (dT sT ty elem : TypeId) (g o dLen dCap : Nat) (s : ByteArray) (cur : Array Value) (t : TypeId) (cs : List Value)
    (hu : P.underlying dT = some (.slice elem)) (hs : (P.info? elem).map (·.size) = some 1) (hg : w.heap[g]? = some (.cells cur t (0, 0))) (hcs : cs = bcells (s.data.toList.take dLen)) (hfit : o + cs.length ≤ cur.size) :
    (Builtin.copy_ #[dT, sT] ty #[.slice (some ⟨g, o, none⟩) dLen dCap, .string s]).run P w =
      .ok (goInt cs.length) (w.setRow g (cur.toList.take o ++ cs ++ cur.toList.drop (o + cs.length)).toArray) := by
  have hlen : cs.length = Nat.min s.size dLen := by
    rw [hcs, bcells_length, List.length_take, Nat.min_comm]
    rfl
  have hone : ∀ v ∈ cs, v.oneCell' = true := by rw [hcs]; exact bcells_one _
  have hst := run_storeCells_at P g o t cs 0 cur w hg (by simpa using hfit) hone
  simp only [Nat.add_zero] at hst
  have hx : ((s.extract 0 (Nat.min s.size dLen)).data.map fun b => Value.int .u8 b.toNat).toList = cs := by
    rw [hcs]
    unfold bcells
    rw [Array.toList_map, ByteArray.data_extract, Array.toList_extract, List.extract_eq_take_drop, List.drop_zero, Nat.sub_zero]
    congr 1
    show List.take (min s.data.size dLen) s.data.toList = _
    rcases Nat.le_total s.data.size dLen with h | h
    · rw [Nat.min_eq_left h, List.take_of_length_le (by simp), List.take_of_length_le (by simpa using h)]
    · rw [Nat.min_eq_right h]
  cases hq : P.info? elem with
  | none => simp [hq] at hs
  | some i =>
    simp only [Builtin.copy_, Builtin.lenOf, Builtin.firstCells, sizeOf, typeInfo]
    simp [run_underlying hu, hq, -Array.toList_map, -ByteArray.data_extract, -Array.toList_extract]
    rw [hx, hst]
    simp [Result.andThen, hlen]

theorem wpList_copy_str {w : World} {ops : Array Oper} {rest : List Oper} {o : Oper} {a : Act} {Q : Exit → Act → World → Prop} (hgd : o.guard = none) (d s : Operand) (dT sT : TypeId)
    (ho : o.op = .call { callee := .builtin .copy, args := #[d, s], argTypes := #[dT, sT] }) (elem : TypeId) (hu : P.underlying dT = some (.slice elem)) (hsz : (P.info? elem).map (·.size) = some 1)
    (g off dLen dCap : Nat) (str : ByteArray) (hd : a.eval d = .slice (some ⟨g, off, none⟩) dLen dCap) (hs : a.eval s = .string str)
    (cur : Array Value) (t : TypeId) (hg : w.heap[g]? = some (.cells cur t (0, 0))) (cs : List Value) (hcs : cs = bcells (str.data.toList.take dLen)) (hfit : off + cs.length ≤ cur.size)
    (R : Array Value) (hR : (cur.toList.take off ++ cs ++ cur.toList.drop (off + cs.length)).toArray = R) (n : Int) (hn : (cs.length : Int) = n)
    (h : wpList P ops Q rest (a.put o.dst (.int .i64 n)) (w.setRow g R)) : wpList P ops Q (o :: rest) a w := by
  refine wpList_plain hgd fun K hK => ?_
  have hrun := run_copy_str (P := P) w dT sT o.type elem g off dLen dCap str cur t cs hu hsz hg hcs hfit
  rw [hR] at hrun
  unfold Oper.wp
  simp [execOp, ho, resolve, invoke, builtin, hd, hs, hrun, Result.andThen]
  have h' : wpList P ops Q rest (a.put o.dst (goInt cs.length)) (w.setRow g R) := by rw [goInt, hn]; exact h
  exact hK _ _ h'

theorem step_copy_str {w : World} {ops : Array Oper} {o : Oper} {a : Act} {K : Act → World → Prop} {Q : Exit → Act → World → Prop} {E : Prop} (hgd : o.guard = none) (d s : Operand) (dT sT : TypeId)
    (ho : o.op = .call { callee := .builtin .copy, args := #[d, s], argTypes := #[dT, sT] }) (elem : TypeId) (hu : P.underlying dT = some (.slice elem)) (hsz : (P.info? elem).map (·.size) = some 1)
    (g off dLen dCap : Nat) (str : ByteArray) (hd : a.eval d = .slice (some ⟨g, off, none⟩) dLen dCap) (hs : a.eval s = .string str)
    (cur : Array Value) (t : TypeId) (hg : w.heap[g]? = some (.cells cur t (0, 0))) (cs : List Value) (hcs : cs = bcells (str.data.toList.take dLen)) (hfit : off + cs.length ≤ cur.size)
    (R : Array Value) (hR : (cur.toList.take off ++ cs ++ cur.toList.drop (off + cs.length)).toArray = R) (n : Int) (hn : (cs.length : Int) = n)
    (h : K (a.put o.dst (.int .i64 n)) (w.setRow g R)) : if Region.wanted o (yielded ops a.tmps) = true then Oper.wp P o a w K Q else E := by
  have hw : Region.wanted o (yielded ops a.tmps) = true := by simp [Region.wanted, hgd]
  rw [if_pos hw]
  have hrun := run_copy_str (P := P) w dT sT o.type elem g off dLen dCap str cur t cs hu hsz hg hcs hfit
  rw [hR] at hrun
  unfold Oper.wp
  simp [execOp, ho, resolve, invoke, builtin, hd, hs, hrun, Result.andThen]
  have h' : K (a.put o.dst (goInt cs.length)) (w.setRow g R) := by rw [goInt, hn]; exact h
  exact h'

/-- clear of a whole row. -/
theorem run_clear_row (w : World) (t e ty : TypeId) (z : Value) (ht : P.underlying t = some (.slice e)) (hv : ∀ w, (zeroValue e).run P w = .ok z w) (hz : z.cells = #[z]) (h1 : z.oneCell' = true) (b n c : Nat) (hn : 0 < n)
    (cur : Array Value) (t' : TypeId) (hg : w.heap[b]? = some (.cells cur t' (0, 0))) (hc : cur.size = n) :
    (Builtin.clear_ #[t] ty #[.slice (some ⟨b, 0, none⟩) n c]).run P w = .ok (.tuple #[]) (w.setRow b (List.replicate n z).toArray) := by
  have hzc : (Builtin.zeroCells z.cells n).toList = List.replicate n z := by
    rw [hz]
    simp [Builtin.zeroCells]
    apply List.ext_getElem
    · simp
    · intro i h1 h2
      simp [Nat.mod_one]
  have hst := run_storeCells_at P b 0 t' (List.replicate n z) 0 cur w hg (by simp; omega) (by intro v hv'; rw [List.eq_of_mem_replicate hv']; exact h1)
  simp only [Nat.add_zero, List.take_zero, List.nil_append, Nat.zero_add, List.length_replicate] at hst
  have hd : cur.toList.drop n = [] := List.drop_eq_nil_of_le (by simp; omega)
  rw [hd, List.append_nil] at hst
  obtain ⟨m, rfl⟩ : ∃ m, n = m + 1 := ⟨n - 1, by omega⟩
  simp [Builtin.clear_, run_underlying ht, hv, hzc, hst]

theorem wpList_clear_row {w : World} {ops : Array Oper} {rest : List Oper} {o : Oper} {a : Act} {Q : Exit → Act → World → Prop} (hgd : o.guard = none) (d : Operand) (dT : TypeId)
    (ho : o.op = .call { callee := .builtin .clear, args := #[d], argTypes := #[dT] }) (elem : TypeId) (hu : P.underlying dT = some (.slice elem)) (z : Value) (hv : ∀ w, (zeroValue elem).run P w = .ok z w) (hz : z.cells = #[z]) (h1 : z.oneCell' = true)
    (b n c : Nat) (hn : 0 < n) (hd : a.eval d = .slice (some ⟨b, 0, none⟩) n c)
    (cur : Array Value) (t : TypeId) (hg : w.heap[b]? = some (.cells cur t (0, 0))) (hc : cur.size = n)
    (R : Array Value) (hR : (List.replicate n z).toArray = R)
    (h : wpList P ops Q rest (a.put o.dst (.tuple #[])) (w.setRow b R)) : wpList P ops Q (o :: rest) a w := by
  refine wpList_plain hgd fun K hK => ?_
  have hrun := run_clear_row (P := P) w dT elem o.type z hu hv hz h1 b n c hn cur t hg hc
  rw [hR] at hrun
  unfold Oper.wp
  simp [execOp, ho, resolve, invoke, builtin, hd, hrun, Result.andThen]
  exact hK _ _ h

/-- The element of an array, of one cell. -/
theorem run_index_row (w : World) (t e : TypeId) (n : Nat) (cs : Array Value) (i : Nat) (v : Value) (ht : P.underlying t = some (.array n e)) (hi : i < n) (he : P.plainKey e = true) (hs : (P.info? e).map (·.size) = some 1) (hv : cs[i]? = some v) :
    (Instr.index t (.agg cs) (.int .i64 (i : Int))).run P w = .ok v w := by
  have hp := run_part_plain (P := P) (w := w) he hv
  cases hq : P.info? e with
  | none => simp [hq] at hs
  | some j =>
    have hj : j.size = 1 := by simpa [hq] using hs
    simp [Instr.index, asIntOf, run_underlying ht, sizeOf, typeInfo, hq, hj, hp, hi]
end Go.Proofs.YtapijhhmjjplmaaGreatDoor
namespace Go.Proofs.YtapijhhmjjplmaaGreatDoor
open Go.RowKit

/-- Byte k of words, the high byte first. -/
def byteAt (st : List Nat) (k : Nat) : Nat := st.getD (k / 4) 0 / 256 ^ (3 - k % 4) % 256
def outK (st : List Nat) (n : Nat) : List Nat := (List.range 32).map fun k => if k < n then byteAt st k else 0
theorem outK_length (st : List Nat) (n : Nat) : (outK st n).length = 32 := by simp [outK]
theorem outK_set (st : List Nat) (n : Nat) : (outK st n).set n (byteAt st n) = outK st (n + 1) := by
  apply List.ext_getElem
  · simp [outK]
  · intro k h1 h2
    rw [List.getElem_set]
    simp only [outK, List.getElem_map, List.getElem_range]
    split
    · rename_i e
      subst e
      rw [if_pos (by omega)]
    · rename_i e
      by_cases h : k < n
      · rw [if_pos h, if_pos (by omega)]
      · rw [if_neg h, if_neg (by omega)]
theorem outK_zero (st : List Nat) : outK st 0 = List.replicate 32 0 := by
  apply List.ext_getElem
  · simp [outK]
  · intro k h1 h2
    rw [List.getElem_replicate]
    simp only [outK, List.getElem_map, List.getElem_range]
    rw [if_neg (by omega)]
theorem outK_all (st : List Nat) (h : st.length = 8) : (outK st 32).map UInt8.ofNat = st.flatMap four4 := by
  match st, h with
  | [a, b, c, d, e, f, g, h], _ => simp [outK, byteAt, four4, List.range, List.range.loop]
theorem outK_lt (st : List Nat) (n : Nat) : ∀ d ∈ outK st n, d < 256 := by
  intro d hd
  unfold outK at hd
  obtain ⟨k, _, rfl⟩ := List.mem_map.1 hd
  split
  · exact Nat.mod_lt _ (by decide)
  · decide
theorem u8s_one (l : List Nat) : (u8s l).all (·.oneCell') = true := by
  rw [Array.all_eq_true_iff_forall_mem]
  intro v hv
  unfold u8s at hv
  simp at hv
  obtain ⟨a, _, rfl⟩ := hv
  rfl
def zeros32 : List Nat := List.replicate 32 0

set_option maxRecDepth 100000 in
set_option maxHeartbeats 1000000 in
theorem inBytes_any (st : List Nat) (hl : st.length = 8) (hlt : ∀ d ∈ st, d < w32) (w : World) :
    Calls Tryz.prog 183 #[.agg (u32s st)] w fun e w' =>
      e = .returned (.agg (u8s (outK st 32))) ∧ Below w.heap.size w w' := by
  obtain ⟨c, hc⟩ : ∃ c, c = u32s st := ⟨_, rfl⟩
  rw [← hc]
  have HC : Hid (c = u32s st) := hc
  have hcs : c.size = 8 := by rw [hc]; simp [u32s, hl]
  have HI8 : Hid ((Tryz.prog.info? 302).map (·.size) = some c.size) := by show _ = _; rw [hcs]; kernel_rfl
  have HL : Hid (st.length = 8) := hl
  have HW : Hid (∀ d ∈ st, d < w32) := hlt
  have HIX : Hid (∀ (i : Nat) (w : World), i < 8 → (Instr.index 302 (.agg c) (.int .i64 (i : Int))).run Tryz.prog w = .ok (.int .u32 (st.getD i 0 : Int)) w) := fun i w hi => by
    refine run_index_row w _ 81 8 c i _ Tryz.underlying302 hi (by kernel_rfl) (by kernel_rfl) ?_
    rw [hc]
    simp [u32s, hl, hi]
  clear hc hcs hl hlt
  go_enter Tryz.func183, Tryz.ntmps183
  go_wp2_with (refine wpList_load_row rfl 302 _ rfl w.heap.size rfl 302 c (0, 0) _ (heap_third0 w _ _ _) Tryz.underlying302 rfl HI8.out ?_)
  go_loopw [8] (fun iv_ wr => ∃ i : Nat, i ≤ 8 ∧ iv_ = .int .i64 (i : Int) ∧ Hid (BRow wr (w.heap.size + 1) 131 zeros32) ∧ Hid (BRow wr (w.heap.size + 1 + 1) 131 (outK st (4 * i))) ∧ Hid (Below w.heap.size w wr)) (fun iv_ _ => 8 - (intOf iv_).toNat)
  case atStart =>
    refine ⟨0, by omega, rfl, ?_, ?_, ?_⟩
    · exact heap_third1 w _ _ _
    · show BRow _ _ _ _
      rw [Nat.mul_zero, outK_zero]
      exact heap_third2 w _ _ _
    · exact (((Below.refl _ _).alloc (Nat.le_refl _) _).alloc (by simp) _).alloc (by simp; omega) _
  case round =>
    obtain ⟨i, hi, rfl, HR, HS, HB⟩ := hrel
    have hw3 := HS.out.lt
    by_cases hlt : i < 8
    · obtain ⟨x, hx⟩ : ∃ x, x = st.getD i 0 := ⟨_, rfl⟩
      have hix : ∀ w : World, (Instr.index 302 (.agg c) (.int .i64 (i : Int))).run Tryz.prog w = .ok (.int .u32 (x : Int)) w := fun w => by rw [hx]; exact HIX.out i w hlt
      have lx : (x : Int) ≤ 4294967295 := by
        have := getD_lt HW.out (by decide) i
        rw [← hx] at this
        unfold w32 at this
        omega
      obtain ⟨z0, c0⟩ : ∃ z : Int, wr.cell? ⟨w.heap.size + 1 + 1, 4 * i, none⟩ = some (.int .u8 z) := ⟨_, HS.out.cell (4 * i) (by rw [outK_length]; omega)⟩
      obtain ⟨z1, c1⟩ : ∃ z : Int, wr.cell? ⟨w.heap.size + 1 + 1, 4 * i + 1, none⟩ = some (.int .u8 z) := ⟨_, HS.out.cell (4 * i + 1) (by rw [outK_length]; omega)⟩
      obtain ⟨z2, c2⟩ : ∃ z : Int, wr.cell? ⟨w.heap.size + 1 + 1, 4 * i + 2, none⟩ = some (.int .u8 z) := ⟨_, HS.out.cell (4 * i + 2) (by rw [outK_length]; omega)⟩
      obtain ⟨z3, c3⟩ : ∃ z : Int, wr.cell? ⟨w.heap.size + 1 + 1, 4 * i + 3, none⟩ = some (.int .u8 z) := ⟨_, HS.out.cell (4 * i + 3) (by rw [outK_length]; omega)⟩
      have f0 := HS.out.frozen (4 * i)
      have f1 := HS.out.frozen (4 * i + 1)
      have f2 := HS.out.frozen (4 * i + 2)
      have f3 := HS.out.frozen (4 * i + 3)
      have HX : Hid (x = st.getD i 0) := hx
      clear hx
      go_wp2
      refine wp_loop_rounds 5 ?_
      rw [rounds_succ]
      go_wp2
      rw [rounds_succ]
      go_wp2
      rw [rounds_succ]
      go_wp2
      rw [rounds_succ]
      go_wp2
      rw [rounds_succ]
      go_wp2
      go_roundw
      case rel =>
        refine ⟨i + 1, by omega, by go_num, ?_, ?_, ?_⟩
        · exact (((HR.out.other _ (by show w.heap.size + 1 ≠ w.heap.size + 1 + 1; omega) _).other _ (by show w.heap.size + 1 ≠ w.heap.size + 1 + 1; omega) _).other _ (by show w.heap.size + 1 ≠ w.heap.size + 1 + 1; omega) _).other _ (by show w.heap.size + 1 ≠ w.heap.size + 1 + 1; omega) _
        · have h1 := (((HS.out.set (4 * i) (x / 16777216)).set (4 * i + 1) (x / 65536 % 256)).set (4 * i + 2) (x / 256 % 256)).set (4 * i + 3) (x % 256)
          have b0 : x / 16777216 = byteAt st (4 * i) := by
            unfold byteAt
            rw [show 4 * i / 4 = i by omega, show 4 * i % 4 = 0 by omega, ← HX.out]
            omega
          have b1 : x / 65536 % 256 = byteAt st (4 * i + 1) := by
            unfold byteAt
            rw [show (4 * i + 1) / 4 = i by omega, show (4 * i + 1) % 4 = 1 by omega, ← HX.out]
          have b2 : x / 256 % 256 = byteAt st (4 * i + 2) := by
            unfold byteAt
            rw [show (4 * i + 2) / 4 = i by omega, show (4 * i + 2) % 4 = 2 by omega, ← HX.out]
          have b3 : x % 256 = byteAt st (4 * i + 3) := by
            unfold byteAt
            rw [show (4 * i + 3) / 4 = i by omega, show (4 * i + 3) % 4 = 3 by omega, ← HX.out]
            simp
          have e : ((((outK st (4 * i)).set (4 * i) (x / 16777216)).set (4 * i + 1) (x / 65536 % 256)).set (4 * i + 2) (x / 256 % 256)).set (4 * i + 3) (x % 256) = outK st (4 * (i + 1)) := by
            rw [b0, b1, b2, b3, outK_set st (4 * i), outK_set st (4 * i + 1), show 4 * i + 1 + 1 = 4 * i + 2 from rfl, outK_set st (4 * i + 2), show 4 * i + 2 + 1 = 4 * i + 3 from rfl, outK_set st (4 * i + 3)]
            rfl
          rw [e] at h1
          exact h1
        · exact (((HB.out.setCell (by show w.heap.size ≤ w.heap.size + 1 + 1; omega) _).setCell (by show w.heap.size ≤ w.heap.size + 1 + 1; omega) _).setCell (by show w.heap.size ≤ w.heap.size + 1 + 1; omega) _).setCell (by show w.heap.size ≤ w.heap.size + 1 + 1; omega) _
      case measure => (simp [intOf]; try omega)
    · have hi8 : i = 8 := by omega
      obtain ⟨i1, hi1⟩ : ∃ i1, i1 = i := ⟨_, rfl⟩
      subst hi1
      obtain ⟨R, hR⟩ : ∃ R, R = u8s (outK st 32) := ⟨_, rfl⟩
      obtain ⟨Z, hZ⟩ : ∃ Z, Z = u8s zeros32 := ⟨_, rfl⟩
      have HR1 : Hid (wr.heap[w.heap.size + 1 + 1]? = some (.cells R 131 (0, 0))) := by
        have h1 := HS.out
        rw [hi8] at h1
        rw [hR]
        exact h1
      have HZ1 : Hid (wr.heap[w.heap.size + 1]? = some (.cells Z 131 (0, 0))) := by rw [hZ]; exact HR
      have hsz : R.size = 32 := by rw [hR]; simp [u8s, outK_length]
      have hsz2 : Z.size = R.size := by rw [hsz, hZ]; rfl
      have HI : Hid ((Tryz.prog.info? 131).map (·.size) = some R.size) := by show _ = _; rw [hsz]; kernel_rfl
      have HON : Hid (R.all (·.oneCell') = true) := by show _ = _; rw [hR]; exact u8s_one _
      have HSZ : Hid (Z.size = R.size) := hsz2
      have HRE : Hid (R = u8s (outK st 32)) := hR
      clear hsz hsz2 hR hZ HR HS hi8
      go_wp2_with (first | refine wpList_load_row rfl 131 _ rfl (w.heap.size + 1 + 1) rfl 131 R (0, 0) _ HR1.out Tryz.underlying131 rfl HI.out ?_ | refine wpList_store_row rfl 131 _ _ rfl (w.heap.size + 1) R rfl rfl 131 Z HZ1.out HI.out HSZ.out HON.out ?_)
      refine bodyPost_ret (v := .agg (u8s (outK st 32))) ?_ rfl ⟨rfl, ?_⟩
      · rw [← HRE.out]
        exact results_cell_row (p := 2) (ty := 131) rfl _ _ (w.heap.size + 1) 131 R (0, 0) _ rfl (setRow_heap wr (w.heap.size + 1) Z R 131 _ HZ1.out) Tryz.underlying131 rfl HI.out
      · exact below_setRow HB.out (by omega) _
end Go.Proofs.YtapijhhmjjplmaaGreatDoor
namespace Go.Proofs.YtapijhhmjjplmaaGreatDoor
open Go.RowKit

/-- What is behind the last whole block, its mark, and zeros up to the block's end. -/
def tailB (l : List Nat) : List Nat := l.drop (64 * (l.length / 64)) ++ [128] ++ List.replicate (63 - l.length % 64) 0
theorem tailB_length (l : List Nat) : (tailB l).length = 64 := by
  simp [tailB]; omega
/-- The last i bytes of a length, in a block's last i bytes. -/
def lensIn (b : List Nat) (n i : Nat) : List Nat := b.take (64 - i) ++ (lenB n 8).drop (8 - i)
theorem lensIn_length (b : List Nat) (n i : Nat) (hb : b.length = 64) (hi : i ≤ 8) : (lensIn b n i).length = 64 := by
  simp [lensIn, lenB_length, hb]; omega
theorem lensIn_zero (b : List Nat) (n : Nat) (hb : b.length = 64) : lensIn b n 0 = b := by
  unfold lensIn
  rw [List.take_of_length_le (by omega), List.drop_eq_nil_of_le (by rw [lenB_length]; omega), List.append_nil]
theorem lenB_at (n i : Nat) (h : i < 8) : (lenB n 8)[i]'(by rw [lenB_length]; exact h) = n / 2 ^ (8 * (7 - i)) % 256 := by simp [lenB]
theorem lensIn_set (b : List Nat) (n i : Nat) (hb : b.length = 64) (hi : i < 8) : (lensIn b n i).set (63 - i) (n / 2 ^ (8 * i) % 256) = lensIn b n (i + 1) := by
  unfold lensIn
  have e1 : b.take (64 - i) = b.take (63 - i) ++ [b[63 - i]'(by omega)] := by
    rw [show 64 - i = (63 - i) + 1 by omega]
    exact List.take_succ_eq_append_getElem (by omega)
  have e2 : (lenB n 8).drop (7 - i) = n / 2 ^ (8 * i) % 256 :: (lenB n 8).drop (8 - i) := by
    rw [List.drop_eq_getElem_cons (by rw [lenB_length]; omega), lenB_at n (7 - i) (by omega), show 7 - (7 - i) = i by omega, show 7 - i + 1 = 8 - i by omega]
  rw [e1, show 64 - (i + 1) = 63 - i by omega, show 8 - (i + 1) = 7 - i by omega, e2, List.append_assoc, List.set_append_right _ _ (by rw [List.length_take]; omega), List.length_take, Nat.min_eq_left (by omega), Nat.sub_self]
  rfl
theorem lensIn_lt (b : List Nat) (n i : Nat) (hb : ∀ d ∈ b, d < 256) : ∀ d ∈ lensIn b n i, d < 256 := by
  intro d hd
  unfold lensIn at hd
  rcases List.mem_append.1 hd with hd | hd
  · exact hb d (List.mem_of_mem_take hd)
  · exact lenB_lt _ _ d (List.mem_of_mem_drop hd)
theorem tailB_lt (l : List Nat) (h : ∀ d ∈ l, d < 256) : ∀ d ∈ tailB l, d < 256 := by
  intro d hd
  unfold tailB at hd
  simp only [List.append_assoc, List.mem_append, List.mem_singleton] at hd
  rcases hd with hd | hd | hd
  · exact h d (List.mem_of_mem_drop hd)
  · omega
  · rw [List.eq_of_mem_replicate hd]; omega

theorem padN_blk (l : List Nat) (j : Nat) (h : j < l.length / 64) : blk (padN l) j = (l.drop (64 * j)).take 64 := by
  unfold blk padN
  rw [List.append_assoc, List.append_assoc, List.drop_append_of_le_length (by omega), List.take_append_of_le_length (by rw [List.length_drop]; omega)]
theorem padN_tail (l : List Nat) : (padN l).drop (64 * (l.length / 64)) = l.drop (64 * (l.length / 64)) ++ ([128] ++ (List.replicate (zN l.length) 0 ++ lenB (8 * l.length) 8)) := by
  unfold padN
  rw [List.append_assoc, List.append_assoc, List.drop_append_of_le_length (by omega)]
theorem padN_one (l : List Nat) (h : l.length % 64 < 56) : (padN l).length / 64 = l.length / 64 + 1 ∧ blk (padN l) (l.length / 64) = lensIn (tailB l) (8 * l.length) 8 := by
  have hz : zN l.length = 55 - l.length % 64 := by unfold zN; omega
  constructor
  · rw [padN_length, hz]; omega
  · unfold blk
    rw [padN_tail, hz]
    have e : lensIn (tailB l) (8 * l.length) 8 = (tailB l).take 56 ++ lenB (8 * l.length) 8 := rfl
    rw [e]
    have e2 : tailB l = (l.drop (64 * (l.length / 64)) ++ ([128] ++ List.replicate (55 - l.length % 64) 0)) ++ List.replicate 8 0 := by
      unfold tailB
      rw [List.append_assoc, List.append_assoc, List.append_assoc, List.replicate_append_replicate, show 55 - l.length % 64 + 8 = 63 - l.length % 64 by omega]
    have e3 : (l.drop (64 * (l.length / 64)) ++ ([128] ++ List.replicate (55 - l.length % 64) 0)).length = 56 := by simp; omega
    have e4 : (tailB l).take 56 = l.drop (64 * (l.length / 64)) ++ ([128] ++ List.replicate (55 - l.length % 64) 0) := by
      rw [e2, List.take_append_of_le_length (Nat.le_of_eq e3.symm), List.take_of_length_le (Nat.le_of_eq e3)]
    rw [e4, List.take_of_length_le (by simp [lenB_length]; omega)]
    simp only [List.append_assoc]
theorem padN_two (l : List Nat) (h : 56 ≤ l.length % 64) : (padN l).length / 64 = l.length / 64 + 2 ∧ blk (padN l) (l.length / 64) = tailB l ∧ blk (padN l) (l.length / 64 + 1) = lensIn (List.replicate 64 0) (8 * l.length) 8 := by
  have hz : zN l.length = (63 - l.length % 64) + 56 := by unfold zN; omega
  have e1 : (padN l).drop (64 * (l.length / 64)) = tailB l ++ (List.replicate 56 0 ++ lenB (8 * l.length) 8) := by
    rw [padN_tail, hz, ← List.replicate_append_replicate]
    unfold tailB
    simp only [List.append_assoc]
  refine ⟨by rw [padN_length, hz]; omega, ?_, ?_⟩
  · unfold blk
    rw [e1, List.take_append_of_le_length (by rw [tailB_length]; omega), List.take_of_length_le (by rw [tailB_length]; omega)]
  · unfold blk
    rw [show 64 * (l.length / 64 + 1) = 64 * (l.length / 64) + 64 by omega, ← List.drop_drop, e1, List.drop_append_of_le_length (by rw [tailB_length]; omega), List.drop_eq_nil_of_le (by rw [tailB_length]; omega), List.nil_append, List.take_of_length_le (by simp [lenB_length])]
    rfl
/-- The sum, block by block. -/
theorem shaB_one (ks hs l : List Nat) (h : l.length % 64 < 56) : mixTo ks hs (padN l) ((padN l).length / 64) = mixN ks (mixTo ks hs (padN l) (l.length / 64)) (lensIn (tailB l) (8 * l.length) 8) := by
  obtain ⟨h1, h2⟩ := padN_one l h
  rw [h1, ← h2]
  rfl
theorem shaB_two (ks hs l : List Nat) (h : 56 ≤ l.length % 64) : mixTo ks hs (padN l) ((padN l).length / 64) = mixN ks (mixN ks (mixTo ks hs (padN l) (l.length / 64)) (tailB l)) (lensIn (List.replicate 64 0) (8 * l.length) 8) := by
  obtain ⟨h1, h2, h3⟩ := padN_two l h
  rw [h1, ← h2, ← h3]
  rfl
end Go.Proofs.YtapijhhmjjplmaaGreatDoor
namespace Go.Proofs.YtapijhhmjjplmaaGreatDoor
open Go.RowKit

def bv (l : List Nat) : List Value := l.map fun c : Nat => Value.int .u8 (c : Int)
theorem bv_length (l : List Nat) : (bv l).length = l.length := by simp [bv]
theorem bv_append (l m : List Nat) : bv (l ++ m) = bv l ++ bv m := by simp [bv]
theorem bv_at (l : List Nat) (j : Nat) (h : j < l.length) : (bv l)[j]? = some (.int .u8 (l[j] : Int)) := by simp [bv, h]

/-- The slice v owns a row that begins with the bytes l. -/
def OwnB (w : World) (B : Nat) (v : Value) (l : List Nat) : Prop :=
  ∃ g cap cur fz, v = .slice (some ⟨g, 0, none⟩) l.length cap ∧ B ≤ g ∧ w.heap[g]? = some (.cells cur 5 fz) ∧ (cap ≤ fz.1 ∨ fz.2 = 0) ∧ l.length ≤ cap ∧ cur.size = cap ∧ cur.toList.take l.length = bv l

theorem OwnB.on {w w' : World} {B C : Nat} {v : Value} {l : List Nat} (h : OwnB w B v l) (hb : Below C w w') (hC : w.heap.size ≤ C) : OwnB w' B v l := by
  obtain ⟨g, cap, cur, fz, rfl, hB, hg, h3⟩ := h
  exact ⟨g, cap, cur, fz, rfl, hB, by rw [hb.block g (Nat.lt_of_lt_of_le (Array.getElem?_eq_some_iff.1 hg).1 hC)]; exact hg, h3⟩

theorem OwnB.alloc {w : World} {B : Nat} {v : Value} {l : List Nat} (h : OwnB w B v l) (o : Obj) : OwnB (w.alloc o) B v l :=
  h.on ((Below.refl w.heap.size w).alloc (Nat.le_refl _) o) (Nat.le_refl _)

theorem OwnB.drewN {w : World} {B : Nat} {v : Value} {l : List Nat} (h : OwnB w B v l) (n : Nat) : OwnB (w.drewN n) B v l := h

theorem OwnB.cell {w : World} {B g cap : Nat} {l : List Nat} (h : OwnB w B (.slice (some ⟨g, 0, none⟩) l.length cap) l) (j : Nat) (hj : j < l.length) : w.cell? ⟨g, j, none⟩ = some (.int .u8 (l[j] : Int)) := by
  obtain ⟨g', cap', cur, fz, e, hB, hg, h1, h2, h3, h4⟩ := h
  cases e
  have := bv_at l j hj
  rw [← h4, List.getElem?_take_of_lt hj] at this
  simp only [World.cell?, hg]
  simpa using this

theorem infoByte : (Tryz.prog.info? 5).map (fun i => (i.zero, i.size, i.bytes)) = some (some (.int .u8 0), 1, 1) := by kernel_rfl

theorem run_append_byte (w : World) (B : Nat) (ty : TypeId) (v : Value) (l : List Nat) (hown : OwnB w B v l) (ad : Addr) (c' x : Nat) (hx : w.cell? ad = some (.int .u8 (x : Int))) (hl : l.length < 1000000) (hB : B ≤ w.heap.size) :
    ∃ v' w', (Builtin.append_ #[134, 134] ty #[v, .slice (some ad) 1 c']).run Tryz.prog w = .ok v' w' ∧ OwnB w' B v' (l ++ [x]) ∧ w.grownBy w' v.ownBlock := by
  obtain ⟨i, hi, hzz⟩ := Option.map_eq_some_iff.1 infoByte
  simp only [Prod.mk.injEq] at hzz
  obtain ⟨hz, hs, hb⟩ := hzz
  have hnews : ∀ j u, [Value.int .u8 (x : Int)][j]? = some u → w.cell? (ad.add j) = some u := by
    intro j u hj
    match j, hj with
    | 0, hj =>
      simp at hj
      subst hj
      exact hx
  obtain ⟨g, cap, cur, fz, rfl, hBg, hg, hfz, hlc, hcs, htk⟩ := hown
  have hf := run_firstCells_some (P := Tryz.prog) w i.size 1 ad 1 c' [.int .u8 (x : Int)] (by rw [hs]; rfl) hnews
  by_cases hroom : l.length + 1 ≤ cap
  · have hlt : l.length < cur.size := by omega
    have hcell : w.cell? ⟨g, l.length, none⟩ = some cur[l.length] := by simp [World.cell?, hg, hlt]
    have hfro : w.frozen? ⟨g, l.length, none⟩ = false := by
      obtain ⟨lo, hi'⟩ := fz
      simp only [World.frozen?, hg, Bool.and_eq_false_iff, decide_eq_false_iff_not]
      simp only at hfz
      omega
    have hst := run_storeCells_cells (P := Tryz.prog) g l.length [.int .u8 (x : Int)] 0 w (by intro j hj; simp at hj; subst hj; simp [hcell]) (by intro j hj; simp at hj; subst hj; exact hfro) (by intro u hu; simp at hu; subst hu; rfl)
    simp only [Nat.add_zero, World.setCells] at hst
    refine ⟨.slice (some ⟨g, 0, none⟩) (l.length + 1) cap, w.setCell ⟨g, l.length, none⟩ (.int .u8 (x : Int)), ?_, ?_, ?_⟩
    · simp [Builtin.append_, run_underlying Tryz.underlying134, sizeOf, typeInfo, hi, hs, Builtin.lenOf, hroom, Addr.add_lit] at hf ⊢
      simp [hf, hst]
    · refine ⟨g, cap, cur.setIfInBounds l.length (.int .u8 (x : Int)), fz, by rw [List.length_append, List.length_singleton], hBg, ?_, hfz, by rw [List.length_append, List.length_singleton]; exact hroom, by simpa using hcs, ?_⟩
      · simp only [World.setCell, Array.getElem?_modify, ↓reduceIte, hg, Option.map_some]
        rfl
      · rw [Array.toList_setIfInBounds, List.length_append, List.length_singleton, bv_append, ← htk, List.take_succ_eq_append_getElem (by simpa using hlt), List.take_set_of_le (Nat.le_refl _), List.getElem_set_self]
        rfl
    · exact ⟨rfl, rfl, rfl, by simp, fun k _ hk => Below.heap_setCell w _ _ k (fun e => hk (by simp [Value.ownBlock, e]))⟩
  · have holds : ∀ j u, (bv l)[j]? = some u → w.cell? ((⟨g, 0, none⟩ : Addr).add j) = some u := by
      intro j u hu
      have hjl : j < l.length := by
        have := (List.getElem?_eq_some_iff.1 hu).1
        rw [bv_length] at this
        exact this
      rw [Addr.add_lit, Nat.zero_add]
      rw [← htk, List.getElem?_take_of_lt hjl] at hu
      simp only [World.cell?, hg]
      simpa using hu
    have hr := run_append_grow (P := Tryz.prog) w 134 ty 5 i (.int .u8 0) Tryz.underlying134 hi hz ⟨g, 0, none⟩ l.length cap (bv l) (by rw [bv_length, hs, Nat.mul_one]) holds ad 1 c' [.int .u8 (x : Int)] (by rw [hs]; rfl) hnews (by omega) (by omega) (growslice_fits (by omega) (by rw [hb]; omega))
    have hge := grownCap_ge w (l.length + 1) cap 5
    refine ⟨_, _, hr, ⟨w.heap.size, grownCap w (l.length + 1) cap 5, (bv l).toArray ++ [Value.int .u8 (x : Int)].toArray ++ Builtin.zeroCells (Value.int .u8 0).cells (grownCap w (l.length + 1) cap 5 - (l.length + 1)), (0, 0), by rw [List.length_append, List.length_singleton], hB, ?_, .inr rfl, by rw [List.length_append, List.length_singleton]; exact hge, ?_, ?_⟩, ⟨rfl, rfl, rfl, by simp, fun k hk _ => Below.heap_alloc w.drew _ k hk⟩⟩
    · exact heap_alloc_new w.drew _
    · simp only [Array.size_append, List.size_toArray, size_zeroCells, bv_length, List.length_singleton]
      show l.length + 1 + _ * 1 = _
      omega
    · simp only [Array.toList_append, List.append_assoc]
      rw [← List.append_assoc, bv_append]
      have e : (l ++ [x]).length = (bv l ++ [Value.int .u8 (x : Int)]).length := by simp [bv_length]
      rw [e]
      exact List.take_left

/-- 'append(p, x)' of one byte, as a law for the walk. -/
theorem wpList_append_byte (w : World) {ops : Array Oper} {rest : List Oper} {o : Oper} {a : Act} {Q : Exit → Act → World → Prop} (hgd : o.guard = none) (s y : Operand)
    (ho : o.op = .call { callee := .builtin .append, args := #[s, y], argTypes := #[134, 134] }) (B : Nat) (v : Value) (l : List Nat) (hs : a.eval s = v) (hown : OwnB w B v l)
    (ad : Addr) (c' x : Nat) (hy : a.eval y = .slice (some ad) 1 c') (hx : w.cell? ad = some (.int .u8 (x : Int))) (hl : l.length < 1000000) (hB : B ≤ w.heap.size)
    (h : ∀ v' w', OwnB w' B v' (l ++ [x]) → w.grownBy w' v.ownBlock → wpList Tryz.prog ops Q rest (a.put o.dst v') w') : wpList Tryz.prog ops Q (o :: rest) a w := by
  refine wpList_plain hgd fun K hK => ?_
  obtain ⟨v', w', hr, h2, h3⟩ := run_append_byte w B o.type v l hown ad c' x hx hl hB
  unfold Oper.wp execOp
  simp only [ho, resolve, invoke, builtin, Sem.run_bind, Sem.run_pure, Result.andThen_ok, List.map_toArray, List.map_cons, List.map_nil, hs, hy, hr]
  exact hK _ _ (h v' w' h2 h3)

/-- A text's bytes. -/
def bytesN (s : ByteArray) : List Nat := s.data.toList.map UInt8.toNat
theorem bytesN_length (s : ByteArray) : (bytesN s).length = s.size := by simp [bytesN]
theorem bytesN_lt (s : ByteArray) : ∀ d ∈ bytesN s, d < 256 := by
  intro d hd
  unfold bytesN at hd
  obtain ⟨c, _, rfl⟩ := List.mem_map.1 hd
  exact c.toNat_lt

/-- '[]byte(s)': in whatever world. -/
theorem run_bytes (w : World) (s : ByteArray) : ∃ v w', (convert 9 134 (.string s)).run Tryz.prog w = .ok v w' ∧ OwnB w' w.heap.size v (bytesN s) ∧ Below w.heap.size w w' ∧ (∃ cap, v = .slice (some ⟨w.heap.size, 0, none⟩) s.size cap) := by
  refine ⟨_, _, run_bytes_of_string w 9 134 5 s Tryz.underlying9 Tryz.underlying134 Tryz.underlying5, ?_, ((Below.refl w.heap.size w).drew).alloc (Nat.le_refl _) _, ⟨_, rfl⟩⟩
  have hge := grownCap_ge w s.size 0 5
  generalize grownCap w s.size 0 5 = cap at *
  have hsz : (bytesRow s cap).size = cap := by
    unfold bytesRow
    simp
    omega
  refine ⟨w.heap.size, cap, bytesRow s cap, ((bytesRow s cap).size, (bytesRow s cap).size + 1), by rw [bytesN_length], Nat.le_refl _, ?_, .inl ?_, by rw [bytesN_length]; exact hge, hsz, ?_⟩
  · show (w.heap.push _)[w.heap.size]? = _
    rw [Array.getElem?_push_size]
  · exact Nat.le_of_eq hsz.symm
  · rw [bytesN_length]
    unfold bytesRow bv bytesN
    rw [Array.toList_append, List.take_append_of_le_length (by simp), List.take_of_length_le (by simp)]
    simp
end Go.Proofs.YtapijhhmjjplmaaGreatDoor
namespace Go.Proofs.YtapijhhmjjplmaaGreatDoor
open Go.RowKit

theorem bcells_bv (l : List UInt8) : bcells l = (l.map UInt8.toNat).map fun x : Nat => Value.int .u8 (x : Int) := by simp [bcells]
/-- What of a text is copied from place a on into a block of 64. -/
theorem cs_of (s : ByteArray) (a n : Nat) : (((bytesN s).drop a).take n).map (fun x : Nat => Value.int .u8 (x : Int)) = bcells ((s.extract a s.size).data.toList.take n) := by
  rw [bcells_bv]
  congr 1
  have e : List.take (s.size - a) (List.drop a s.data.toList) = List.drop a s.data.toList := List.take_of_length_le (by rw [List.length_drop, Array.length_toList]; exact Nat.le_refl _)
  rw [ByteArray.data_extract, Array.toList_extract, List.extract_eq_take_drop, e, List.map_take, List.map_drop]
  rfl

/-- mix at arrays that lie in memory, and what the walk wants of its answer. -/
theorem mix_at (st q ks : List Nat) (ST R : Array Value) (w1 : World) (hST : ST = u32s st) (hR : R = u8s q) (hl : st.length = 8) (hw : ∀ d ∈ st, d < w32) (hql : q.length = 64) (hqb : ∀ d ∈ q, d < 256) (hkw : ∀ d ∈ ks, d < w32)
    (hK : ∀ i, i < 64 → w1.cell? ⟨14, i, none⟩ = some (.int .u32 (ks.getD i 0 : Int))) :
    Calls Tryz.prog 182 #[.agg ST, .agg R] w1 fun e w2 => ∃ S2 : Array Value, e = .returned (.agg S2) ∧ Hid (S2 = u32s (mixN ks st q)) ∧ Hid ((Tryz.prog.info? 302).map (·.size) = some S2.size) ∧ Hid (ST.size = S2.size) ∧ Hid (S2.all (·.oneCell') = true) ∧ Hid (Below w1.heap.size w1 w2) := by
  rw [hST, hR]
  refine (mix_any st q ks hl hw hql hqb hkw w1 hK).mono ?_
  rintro e w2 ⟨rfl, hb⟩
  have hs : (u32s (mixN ks st q)).size = 8 := by simp [u32s, mixN_length]
  have hs' : (u32s st).size = 8 := by simp [u32s, hl]
  refine ⟨_, rfl, rfl, ?_, ?_, u32s_one _, hb⟩
  · show _ = _
    rw [hs]
    kernel_rfl
  · show _ = _
    rw [hs, hs']

theorem inBytes_at (st : List Nat) (S : Array Value) (w1 : World) (hS : S = u32s st) (hl : st.length = 8) (hw : ∀ d ∈ st, d < w32) :
    Calls Tryz.prog 183 #[.agg S] w1 fun e w2 => ∃ A : Array Value, e = .returned (.agg A) ∧ Hid (A = u8s (outK st 32)) ∧ Hid ((Tryz.prog.info? 131).map (·.size) = some A.size) ∧ Hid ((u8s zeros32).size = A.size) ∧ Hid (A.all (·.oneCell') = true) ∧ Hid (Below w1.heap.size w1 w2) := by
  rw [hS]
  refine (inBytes_any st hl hw w1).mono ?_
  rintro e w2 ⟨rfl, hb⟩
  have hs : (u8s (outK st 32)).size = 32 := by simp [u8s, outK_length]
  refine ⟨_, rfl, rfl, ?_, ?_, u8s_one _, hb⟩
  · show _ = _
    rw [hs]
    kernel_rfl
  · show _ = _
    rw [hs]
    rfl
theorem lens_all (b : List Nat) (N : Nat) (hb : b.length = 64) (hN : N < 16777216) :
    (((((((b.set 63 (N % 256)).set 62 (N / 256 % 256)).set 61 (N / 65536)).set 60 (N / 16777216)).set 59 (N / 4294967296)).set 58 (N / 1099511627776)).set 57 (N / 281474976710656)).set 56 (N / 72057594037927936) = lensIn b N 8 := by
  have h0 := lensIn_set b N 0 hb (by omega)
  have h1 := lensIn_set b N 1 hb (by omega)
  have h2 := lensIn_set b N 2 hb (by omega)
  have h3 := lensIn_set b N 3 hb (by omega)
  have h4 := lensIn_set b N 4 hb (by omega)
  have h5 := lensIn_set b N 5 hb (by omega)
  have h6 := lensIn_set b N 6 hb (by omega)
  have h7 := lensIn_set b N 7 hb (by omega)
  simp only [Nat.reduceMul, Nat.reducePow, Nat.reduceSub, Nat.reduceAdd, Nat.div_one] at h0 h1 h2 h3 h4 h5 h6 h7
  rw [lensIn_zero b N hb] at h0
  have e2 : N / 65536 % 256 = N / 65536 := by omega
  have e3 : N / 16777216 % 256 = N / 16777216 := by omega
  have e4 : N / 4294967296 % 256 = N / 4294967296 := by omega
  have e5 : N / 1099511627776 % 256 = N / 1099511627776 := by omega
  have e6 : N / 281474976710656 % 256 = N / 281474976710656 := by omega
  have e7 : N / 72057594037927936 % 256 = N / 72057594037927936 := by omega
  rw [e2] at h2
  rw [e3] at h3
  rw [e4] at h4
  rw [e5] at h5
  rw [e6] at h6
  rw [e7] at h7
  rw [h0, h1, h2, h3, h4, h5, h6, h7]

set_option maxRecDepth 100000 in
set_option maxHeartbeats 2000000 in
theorem sha_any (s : ByteArray) (ks hs : List Nat) (tg : TypeId) (fr : Nat × Nat) (w : World) (hsz : s.size ≤ 300000) (hhl : hs.length = 8) (hhw : ∀ d ∈ hs, d < w32) (hkw : ∀ d ∈ ks, d < w32)
    (hS : w.heap[13]? = some (.cells (u32s hs) tg fr))
    (hK : ∀ i, i < 64 → w.cell? ⟨14, i, none⟩ = some (.int .u32 (ks.getD i 0 : Int))) :
    Calls Tryz.prog 107 #[.string s] w fun e w' =>
      e = .returned (.agg (u8s (outK (mixTo ks hs (padN (bytesN s)) ((padN (bytesN s)).length / 64)) 32))) ∧ Below w.heap.size w w' := by
  have hsi : (s.size : Int) ≤ 300000 := by omega
  obtain ⟨l, hl⟩ : ∃ l, l = bytesN s := ⟨_, rfl⟩
  have hll : l.length = s.size := by rw [hl]; exact bytesN_length s
  rw [← hl]
  obtain ⟨H0, hH0⟩ : ∃ c, c = u32s hs := ⟨_, rfl⟩
  rw [← hH0] at hS
  have hHs : H0.size = 8 := by rw [hH0]; simp [u32s, hhl]
  have HIA : Hid ((Tryz.prog.info? 302).map (·.size) = some H0.size) := by show _ = _; rw [hHs]; kernel_rfl
  have HOA : Hid (H0.all (·.oneCell') = true) := by show _ = _; rw [hH0]; exact u32s_one _
  have HS : Hid (w.heap[13]? = some (.cells H0 tg fr)) := hS
  have hG : 13 < w.heap.size := (Array.getElem?_eq_some_iff.1 hS).1
  have HS1 : Hid (∀ Z, (w.alloc Z).heap[13]? = some (.cells H0 tg fr)) := fun Z => by
    rw [Below.heap_alloc _ _ _ (by omega)]
    exact HS.out
  have HS2 : Hid (∀ Z Y, ((w.alloc Z).alloc Y).heap[w.heap.size + 1]? = some Y) := fun Z Y => heap_alloc2_new w Z Y
  have HSZ : Hid (∀ Z : Array Value, Z.size = 8 → Z.size = H0.size) := fun Z h => h.trans hHs.symm
  have HH0 : Hid (H0 = u32s hs) := hH0
  have HL : Hid (l = bytesN s) := hl
  have HLL : Hid (l.length = s.size) := hll
  have HK : Hid (∀ i, i < 64 → w.cell? ⟨14, i, none⟩ = some (.int .u32 (ks.getD i 0 : Int))) := hK
  have HHL : Hid (hs.length = 8) := hhl
  have HHW : Hid (∀ d ∈ hs, d < w32) := hhw
  have HKW : Hid (∀ d ∈ ks, d < w32) := hkw
  clear hHs hS hH0 hl hll hK hhl hhw hkw
  go_enter Tryz.func107, Tryz.ntmps107
  go_wp2_with (first | refine wpList_load_row rfl 302 _ rfl 13 rfl tg H0 fr _ (HS1.out _) Tryz.underlying302 rfl HIA.out ?_ | refine wpList_store_row rfl 302 _ _ rfl (w.heap.size + 1) H0 rfl rfl 302 _ (HS2.out _ _) HIA.out (HSZ.out _ rfl) HOA.out ?_)
  go_loopw [15] (fun iv_ wr => ∃ i : Nat, i ≤ s.size / 64 ∧ iv_ = .int .i64 (i : Int) ∧ Hid (BRow wr w.heap.size 131 zeros32) ∧ Hid (URow wr (w.heap.size + 1) 302 (mixTo ks hs (padN l) i)) ∧ Hid (∃ p, p.length = 64 ∧ BRow wr (w.heap.size + 1 + 1) 192 p) ∧ Hid (Below w.heap.size w wr)) (fun iv_ _ => s.size / 64 - (intOf iv_).toNat)
  case atStart =>
    refine ⟨0, by omega, rfl, ?_, ?_, ?_, ?_⟩
    · show BRow _ _ _ _
      unfold BRow
      rw [Below.heap_alloc _ _ _ (by simp; omega), setRow_other _ _ _ _ (by omega)]
      exact heap_alloc2_old w _ _
    · show URow _ _ _ _
      unfold URow
      rw [Below.heap_alloc _ _ _ (by simp)]
      have e : mixTo ks hs (padN l) 0 = hs := rfl
      rw [e, ← HH0.out]
      exact setRow_heap _ _ _ _ _ _ (HS2.out _ _)
    · refine ⟨zeros64, rfl, ?_⟩
      have h := fun Y Z => heap_alloc_new (((w.alloc Y).alloc Z).setRow (w.heap.size + 1) H0) (.cells (u8s zeros64) 192)
      have e : ∀ Y Z, (((w.alloc Y).alloc Z).setRow (w.heap.size + 1) H0).heap.size = w.heap.size + 1 + 1 := fun Y Z => by simp
      simp only [e] at h
      exact h _ _
    · exact (below_setRow (((Below.refl _ _).alloc (Nat.le_refl _) _).alloc (by simp) _) (by omega) _).alloc (by simp; omega) _
  case round =>
    obtain ⟨i, hi, rfl, HR, HU, HP, HB⟩ := hrel
    have hw3 : w.heap.size + 1 + 1 < wr.heap.size := by obtain ⟨p, _, hp⟩ := HP.out; exact hp.lt
    by_cases hlt : i < s.size / 64
    · obtain ⟨p, hp64, hprow⟩ := HP.out
      obtain ⟨PA, hPA⟩ : ∃ c, c = u8s p := ⟨_, rfl⟩
      obtain ⟨q, hq⟩ : ∃ q, q = (l.drop (64 * i)).take 64 := ⟨_, rfl⟩
      have hq64 : q.length = 64 := by rw [hq, List.length_take, List.length_drop, HLL.out]; omega
      obtain ⟨CS, hCS⟩ : ∃ c, c = q.map fun x : Nat => Value.int .u8 (x : Int) := ⟨_, rfl⟩
      obtain ⟨R, hR⟩ : ∃ R, R = u8s q := ⟨_, rfl⟩
      have HPA : Hid (wr.heap[w.heap.size + 1 + 1]? = some (.cells PA 192 (0, 0))) := by rw [hPA]; exact hprow
      have HCS : Hid (CS = bcells ((s.extract (64 * i) s.size).data.toList.take 64)) := by
        show _ = _
        rw [hCS, hq, HL.out]
        exact cs_of s (64 * i) 64
      have hpas : PA.toList.length = 64 := by rw [hPA]; simp [u8s, hp64]
      have hcsl : CS.length = 64 := by rw [hCS]; simp [hq64]
      have HFIT : Hid (0 + CS.length ≤ PA.size) := by show _ ≤ _; rw [hcsl, ← Array.length_toList, hpas]; omega
      have HRR : Hid ((PA.toList.take 0 ++ CS ++ PA.toList.drop (0 + CS.length)).toArray = R) := by
        show _ = _
        rw [hcsl, List.take_zero, List.nil_append, List.drop_eq_nil_of_le (by omega), List.append_nil, hR, hCS]
        rfl
      have HNN : Hid ((CS.length : Int) = 64) := by show _ = _; rw [hcsl]; rfl
      have HIU : Hid ((Tryz.prog.info? 5).map (·.size) = some 1) := by show _ = _; kernel_rfl
      have HRE : Hid (R = u8s q) := hR
      have HQ : Hid (q = (l.drop (64 * i)).take 64) := hq
      have HQ64 : Hid (q.length = 64) := hq64
      clear hprow hp64 hPA hq hCS hR hpas hcsl hq64 HP
      obtain ⟨a, ha⟩ : ∃ a, a = 64 * i := ⟨_, rfl⟩
      rw [← ha] at HCS
      have hmul : IntKind.i64.wrap ((i : Int) * 64) = (a : Int) := by rw [ha]; simp [IntKind.wrap, IntKind.bits, IntKind.signed]; omega
      have hmul2 : wrap64 ((i : Int) * 64) = (a : Int) := by rw [ha, Go.IntWalk.wrap64_in _ (by omega)]; omega
      have hale : a ≤ s.size := by omega
      have halei : (a : Int) ≤ (s.size : Int) := by omega
      have HA : Hid (a = 64 * i) := ha
      clear ha
      go_wp2
      go_region_law (refine step_copy_str rfl (.tmp 18) (.tmp 22) 134 9 rfl 5 Tryz.underlying134 HIU.out (w.heap.size + 1 + 1) 0 64 64 (s.extract a s.size) (by simp [Act.eval, Act.put]) (by simp [Act.eval, Act.put]) PA 192 HPA.out CS HCS.out HFIT.out R HRR.out 64 HNN.out ?_)
      obtain ⟨w1, hw1⟩ : ∃ w1, w1 = wr.drew.setRow (w.heap.size + 1 + 1) R := ⟨_, rfl⟩
      rw [← hw1]
      obtain ⟨st, hst⟩ : ∃ st, st = mixTo ks hs (padN l) i := ⟨_, rfl⟩
      obtain ⟨ST, hST⟩ : ∃ ST, ST = u32s st := ⟨_, rfl⟩
      have hstl : st.length = 8 := by rw [hst]; exact mixTo_length _ _ _ HHL.out i
      have hstw : ∀ d ∈ st, d < w32 := by rw [hst]; exact mixTo_lt _ _ _ HHW.out i
      have HU1 : Hid (w1.heap[w.heap.size + 1]? = some (.cells ST 302 (0, 0))) := by
        show _ = _
        rw [hw1, setRow_other _ _ _ _ (by omega), hST, hst]
        exact HU.out
      have HR1 : Hid (w1.heap[w.heap.size + 1 + 1]? = some (.cells R 192 (0, 0))) := by
        show _ = _
        rw [hw1]
        exact setRow_heap _ _ _ _ _ _ HPA.out
      have HZ1 : Hid (BRow w1 w.heap.size 131 zeros32) := by
        show BRow _ _ _ _
        unfold BRow
        rw [hw1, setRow_other _ _ _ _ (by omega)]
        exact HR.out
      have HB1 : Hid (Below w.heap.size w w1) := by rw [hw1]; exact below_setRow HB.out.drew (by omega) _
      have hs1 : w.heap.size + 1 + 1 < w1.heap.size := BRow.lt (l := q) (t := 192) (by have h := HR1.out; rw [HRE.out] at h; exact h)
      have HI8 : Hid ((Tryz.prog.info? 302).map (·.size) = some ST.size) := by
        show _ = _
        rw [hST]
        simp only [u32s, List.size_toArray, List.length_map, hstl]
        kernel_rfl
      have HI64 : Hid ((Tryz.prog.info? 192).map (·.size) = some R.size) := by
        show _ = _
        rw [HRE.out]
        simp only [u8s, List.size_toArray, List.length_map, HQ64.out]
        kernel_rfl
      have HM : Hid (Calls Tryz.prog 182 #[.agg ST, .agg R] w1 fun e w2 => ∃ S2 : Array Value, e = .returned (.agg S2) ∧ Hid (S2 = u32s (mixN ks st q)) ∧ Hid ((Tryz.prog.info? 302).map (·.size) = some S2.size) ∧ Hid (ST.size = S2.size) ∧ Hid (S2.all (·.oneCell') = true) ∧ Hid (Below w1.heap.size w1 w2)) :=
        mix_at st q ks ST R w1 hST HRE.out hstl hstw HQ64.out (by rw [HQ.out, HL.out]; exact fun d hd => bytesN_lt s d (List.mem_of_mem_drop (List.mem_of_mem_take hd))) HKW.out (fun j hj => by rw [HB1.out.cell (by show 14 < _; exact block_lt_of_cell (HK.out 0 (by omega)))]; exact HK.out j hj)
      have HST : Hid (st = mixTo ks hs (padN l) i) := hst
      have HBL : Hid (blk (padN l) i = q) := by
        show _ = _
        rw [padN_blk l i (by rw [HLL.out]; exact hlt), HQ.out]
      clear hw1 hST hst hstl hstw HR HU HPA HB HCS HFIT HRR HNN
      go_wp2_with (first | refine wpList_load_row rfl 302 _ rfl (w.heap.size + 1) rfl 302 ST (0, 0) _ HU1.out Tryz.underlying302 rfl HI8.out ?_ | refine wpList_load_row rfl 192 _ rfl (w.heap.size + 1 + 1) rfl 192 R (0, 0) _ HR1.out Tryz.underlying192 rfl HI64.out ?_)
      refine HM.out.mono ?_
      rintro e w2 ⟨S2, rfl, HS2', HI2, HZ2, HO2, HB2⟩
      have HU2 : Hid (w2.heap[w.heap.size + 1]? = some (.cells ST 302 (0, 0))) := by
        show _ = _
        rw [HB2.out.block _ (by omega)]
        exact HU1.out
      go_wp2_with (refine wpList_store_row rfl 302 _ _ rfl (w.heap.size + 1) S2 rfl rfl 302 ST HU2.out HI2.out HZ2.out HO2.out ?_)
      go_roundw
      case rel =>
        refine ⟨i + 1, by omega, by go_num, ?_, ?_, ?_, ?_⟩
        · show BRow _ _ _ _
          unfold BRow
          rw [setRow_other _ _ _ _ (by omega), HB2.out.block _ (by omega)]
          exact HZ1.out
        · show URow _ _ _ _
          have h1 := setRow_heap _ _ _ S2 _ _ HU2.out
          unfold URow
          have e : mixTo ks hs (padN l) (i + 1) = mixN ks st q := by
            show mixN ks (mixTo ks hs (padN l) i) (blk (padN l) i) = _
            rw [HBL.out, HST.out]
          rw [e, ← HS2'.out]
          exact h1
        · refine ⟨q, HQ64.out, ?_⟩
          unfold BRow
          rw [setRow_other _ _ _ _ (by omega), HB2.out.block _ hs1, ← HRE.out]
          exact HR1.out
        · exact below_setRow (HB1.out.trans (HB2.out.mono HB1.out.size)) (by omega) _
      case measure => (simp [intOf]; try omega)
    · have hiw : i = s.size / 64 := by omega
      obtain ⟨i1, hi1⟩ : ∃ i1, i1 = i := ⟨_, rfl⟩
      subst hi1
      obtain ⟨p, hp64, hprow⟩ := HP.out
      obtain ⟨PA, hPA⟩ : ∃ c, c = u8s p := ⟨_, rfl⟩
      obtain ⟨Z, hZ⟩ : ∃ c, c = u8s zeros64 := ⟨_, rfl⟩
      obtain ⟨n, hn⟩ : ∃ n, n = s.size % 64 := ⟨_, rfl⟩
      obtain ⟨a, ha⟩ : ∃ a, a = 64 * (s.size / 64) := ⟨_, rfl⟩
      have hn64 : n < 64 := by omega
      obtain ⟨q, hq⟩ : ∃ q, q = l.drop a ++ List.replicate (64 - n) 0 := ⟨_, rfl⟩
      have hdl : (l.drop a).length = n := by rw [List.length_drop, HLL.out]; omega
      have hq64 : q.length = 64 := by rw [hq, List.length_append, hdl, List.length_replicate]; omega
      obtain ⟨CS, hCS⟩ : ∃ c, c = (l.drop a).map fun x : Nat => Value.int .u8 (x : Int) := ⟨_, rfl⟩
      obtain ⟨R, hR⟩ : ∃ R, R = u8s q := ⟨_, rfl⟩
      have HPA : Hid (wr.heap[w.heap.size + 1 + 1]? = some (.cells PA 192 (0, 0))) := by rw [hPA]; exact hprow
      have HPS : Hid (PA.size = 64) := by rw [hPA]; show _ = _; simp [u8s, hp64]
      have HZR : Hid ((List.replicate 64 (Value.int .u8 0)).toArray = Z) := by rw [hZ]; exact (show _ = _ by unfold u8s zeros64; rw [List.map_replicate]; rfl)
      have HZZ : Hid (∀ w, (zeroValue 5).run Tryz.prog w = .ok (.int .u8 0) w) := fun _ => by kernel_rfl
      have HZC : Hid ((wr.setRow (w.heap.size + 1 + 1) Z).heap[w.heap.size + 1 + 1]? = some (.cells Z 192 (0, 0))) := setRow_heap _ _ _ _ _ _ HPA.out
      have HCS : Hid (CS = bcells ((s.extract a s.size).data.toList.take 64)) := by
        show _ = _
        rw [← cs_of s a 64, ← HL.out, List.take_of_length_le (by omega)]
        exact hCS
      have hcsl : CS.length = n := by rw [hCS, List.length_map]; exact hdl
      have hZs : Z.toList = List.replicate 64 (Value.int .u8 0) := by rw [← HZR.out]
      have HFIT : Hid (0 + CS.length ≤ Z.size) := by show _ ≤ _; rw [hcsl, ← Array.length_toList, hZs, List.length_replicate]; omega
      have HRR : Hid ((Z.toList.take 0 ++ CS ++ Z.toList.drop (0 + CS.length)).toArray = R) := by
        show _ = _
        rw [hcsl, List.take_zero, List.nil_append, hZs, List.drop_replicate, hR, hCS, hq, Nat.zero_add]
        unfold u8s
        rw [List.map_append, List.map_replicate]
        rfl
      have HNN : Hid ((CS.length : Int) = (n : Int)) := by show _ = _; rw [hcsl]
      have HIU : Hid ((Tryz.prog.info? 5).map (·.size) = some 1) := by show _ = _; kernel_rfl
      have HRE : Hid (R = u8s q) := hR
      have HQ : Hid (q.set n 128 = tailB l) := by
        show _ = _
        have e : 64 - n = (63 - n) + 1 := by omega
        rw [hq, List.set_append_right _ _ (by omega), hdl, Nat.sub_self, e, List.replicate_succ, List.set_cons_zero]
        unfold tailB
        rw [HLL.out, ← ha, ← hn, List.append_assoc]
        rfl
      have hmul : IntKind.i64.wrap ((s.size : Int) / 64 * 64) = (a : Int) := by rw [ha]; simp [IntKind.wrap, IntKind.bits, IntKind.signed]; omega
      have hale : a ≤ s.size := by omega
      have halei : (a : Int) ≤ (s.size : Int) := by omega
      have HN : Hid (n = s.size % 64) := hn
      have HQ64 : Hid (q.length = 64) := hq64
      clear hprow hp64 hPA hZ hq hCS hR hcsl hZs hdl hq64 HP ha hn
      go_wp2_with (refine wpList_clear_row rfl (.tmp 28) 134 rfl 5 Tryz.underlying134 (.int .u8 0) HZZ.out rfl rfl (w.heap.size + 1 + 1) 64 64 (by omega) rfl PA 192 HPA.out HPS.out Z HZR.out ?_)
      go_region_law (refine step_copy_str rfl (.tmp 29) (.tmp 33) 134 9 rfl 5 Tryz.underlying134 HIU.out (w.heap.size + 1 + 1) 0 64 64 (s.extract a s.size) (by simp [Act.eval, Act.put]) (by simp [Act.eval, Act.put]) Z 192 HZC.out CS HCS.out HFIT.out R HRR.out (n : Int) HNN.out ?_)
      obtain ⟨w1, hw1⟩ : ∃ w1, w1 = (wr.setRow (w.heap.size + 1 + 1) Z).drew.setRow (w.heap.size + 1 + 1) R := ⟨_, rfl⟩
      rw [← hw1]
      obtain ⟨st, hst⟩ : ∃ st, st = mixTo ks hs (padN l) (s.size / 64) := ⟨_, rfl⟩
      have hstl : st.length = 8 := by rw [hst]; exact mixTo_length _ _ _ HHL.out _
      have hstw : ∀ d ∈ st, d < w32 := by rw [hst]; exact mixTo_lt _ _ _ HHW.out _
      have HU1 : Hid (URow w1 (w.heap.size + 1) 302 st) := by
        show _ = _
        rw [hw1, setRow_other _ _ _ _ (by omega)]
        show (wr.setRow _ _).heap[_]? = _
        rw [setRow_other _ _ _ _ (by omega), hst, ← hiw]
        exact HU.out
      have HR1 : Hid (BRow w1 (w.heap.size + 1 + 1) 192 q) := by
        show _ = _
        rw [hw1, ← HRE.out]
        exact setRow_heap _ _ _ _ _ _ HZC.out
      have HZ1 : Hid (BRow w1 w.heap.size 131 zeros32) := by
        show _ = _
        rw [hw1, setRow_other _ _ _ _ (by omega)]
        show (wr.setRow _ _).heap[_]? = _
        rw [setRow_other _ _ _ _ (by omega)]
        exact HR.out
      have HB1 : Hid (Below w.heap.size w w1) := by rw [hw1]; exact below_setRow (below_setRow HB.out (by omega) _).drew (by omega) _
      obtain ⟨z, cz⟩ : ∃ z : Int, w1.cell? ⟨w.heap.size + 1 + 1, n, none⟩ = some (.int .u8 z) := ⟨_, HR1.out.cell n (by rw [HQ64.out]; exact hn64)⟩
      have fz := HR1.out.frozen n
      have HR2 : Hid (BRow (w1.setCell ⟨w.heap.size + 1 + 1, n, none⟩ (.int .u8 128)) (w.heap.size + 1 + 1) 192 (tailB l)) := by
        have h := HR1.out.set n 128
        rw [HQ.out] at h
        exact h
      have HU2 : Hid (URow (w1.setCell ⟨w.heap.size + 1 + 1, n, none⟩ (.int .u8 128)) (w.heap.size + 1) 302 st) := HU1.out.other _ (by show w.heap.size + 1 ≠ w.heap.size + 1 + 1; omega) _
      have HZ2 : Hid (BRow (w1.setCell ⟨w.heap.size + 1 + 1, n, none⟩ (.int .u8 128)) w.heap.size 131 zeros32) := HZ1.out.other _ (by show w.heap.size ≠ w.heap.size + 1 + 1; omega) _
      have HB2 : Hid (Below w.heap.size w (w1.setCell ⟨w.heap.size + 1 + 1, n, none⟩ (.int .u8 128))) := HB1.out.setCell (by show w.heap.size ≤ w.heap.size + 1 + 1; omega) _
      have HSTL : Hid (st.length = 8) := hstl
      have HSTW : Hid (∀ d ∈ st, d < w32) := hstw
      have HST : Hid (st = mixTo ks hs (padN l) (l.length / 64)) := by rw [HLL.out]; exact hst
      clear hw1 hst hstl hstw HR HU HB HPA HPS HZC HCS HFIT HRR HNN HU1 HR1 HZ1 HB1 hiw
      by_cases h56 : 56 ≤ n
      obtain ⟨w2, hw2⟩ : ∃ w2, w2 = w1.setCell ⟨w.heap.size + 1 + 1, n, none⟩ (.int .u8 128) := ⟨_, rfl⟩
      obtain ⟨ST, hST⟩ : ∃ ST, ST = u32s st := ⟨_, rfl⟩
      obtain ⟨T, hT⟩ : ∃ T, T = u8s (tailB l) := ⟨_, rfl⟩
      rw [← hw2] at HR2 HU2 HZ2 HB2
      have HU3 : Hid ((w1.setCell ⟨w.heap.size + 1 + 1, n, none⟩ (.int .u8 128)).heap[w.heap.size + 1]? = some (.cells ST 302 (0, 0))) := by rw [← hw2, hST]; exact HU2
      have HR3 : Hid ((w1.setCell ⟨w.heap.size + 1 + 1, n, none⟩ (.int .u8 128)).heap[w.heap.size + 1 + 1]? = some (.cells T 192 (0, 0))) := by rw [← hw2, hT]; exact HR2
      have hs2 : w.heap.size + 1 + 1 < w2.heap.size := HR2.out.lt
      have HI8 : Hid ((Tryz.prog.info? 302).map (·.size) = some ST.size) := by
        show _ = _
        rw [hST]
        simp only [u32s, List.size_toArray, List.length_map, HSTL.out]
        kernel_rfl
      have HTS : Hid (T.size = 64) := by
        show _ = _
        rw [hT]
        simp only [u8s, List.size_toArray, List.length_map, tailB_length]
      have HI64 : Hid ((Tryz.prog.info? 192).map (·.size) = some T.size) := by
        show _ = _
        rw [HTS.out]
        kernel_rfl
      have HM : Hid (Calls Tryz.prog 182 #[.agg ST, .agg T] (w1.setCell ⟨w.heap.size + 1 + 1, n, none⟩ (.int .u8 128)) fun e w3 => ∃ S2 : Array Value, e = .returned (.agg S2) ∧ Hid (S2 = u32s (mixN ks st (tailB l))) ∧ Hid ((Tryz.prog.info? 302).map (·.size) = some S2.size) ∧ Hid (ST.size = S2.size) ∧ Hid (S2.all (·.oneCell') = true) ∧ Hid (Below w2.heap.size w2 w3)) := by
        rw [← hw2]
        exact mix_at st (tailB l) ks ST T w2 hST hT HSTL.out HSTW.out (tailB_length l) (tailB_lt l (by rw [HL.out]; exact bytesN_lt s)) HKW.out (fun j hj => by rw [HB2.out.cell (by show 14 < _; exact block_lt_of_cell (HK.out 0 (by omega)))]; exact HK.out j hj)
      have HST3 : Hid (w2.heap[w.heap.size + 1]? = some (.cells ST 302 (0, 0))) := by rw [hw2]; exact HU3
      have HT3 : Hid (w2.heap[w.heap.size + 1 + 1]? = some (.cells T 192 (0, 0))) := by rw [hw2]; exact HR3
      clear hST hT hw2
      go_wp2_with (first | refine wpList_load_row rfl 302 _ rfl (w.heap.size + 1) rfl 302 ST (0, 0) _ HU3.out Tryz.underlying302 rfl HI8.out ?_ | refine wpList_load_row rfl 192 _ rfl (w.heap.size + 1 + 1) rfl 192 T (0, 0) _ HR3.out Tryz.underlying192 rfl HI64.out ?_)
      refine HM.out.mono ?_
      rintro e w3 ⟨S2, rfl, HS2', HI2, HZ3, HO2, HB3⟩
      have HU4 : Hid (w3.heap[w.heap.size + 1]? = some (.cells ST 302 (0, 0))) := by
        show _ = _
        rw [HB3.out.block _ (by omega)]
        exact HST3.out
      have HR4 : Hid ((w3.setRow (w.heap.size + 1) S2).heap[w.heap.size + 1 + 1]? = some (.cells T 192 (0, 0))) := by
        show _ = _
        rw [setRow_other _ _ _ _ (by omega), HB3.out.block _ hs2]
        exact HT3.out
      go_wp2_with (first | refine wpList_store_row rfl 302 _ _ rfl (w.heap.size + 1) S2 rfl rfl 302 ST HU4.out HI2.out HZ3.out HO2.out ?_ | refine wpList_clear_row rfl (.tmp 42) 134 rfl 5 Tryz.underlying134 (.int .u8 0) HZZ.out rfl rfl (w.heap.size + 1 + 1) 64 64 (by omega) rfl T 192 HR4.out HTS.out Z HZR.out ?_)
      obtain ⟨w5, hw5⟩ : ∃ w5, w5 = (w3.setRow (w.heap.size + 1) S2).setRow (w.heap.size + 1 + 1) Z := ⟨_, rfl⟩
      rw [← hw5]
      obtain ⟨st5, hst5⟩ : ∃ x, x = mixN ks st (tailB l) := ⟨_, rfl⟩
      obtain ⟨base, hbase⟩ : ∃ x, x = zeros64 := ⟨_, rfl⟩
      have hZe : Z = u8s zeros64 := by rw [← HZR.out]; unfold u8s zeros64; rw [List.map_replicate]; rfl
      have HU5 : Hid (URow w5 (w.heap.size + 1) 302 st5) := by
        show _ = _
        rw [hw5, setRow_other _ _ _ _ (by omega), hst5, ← HS2'.out]
        exact setRow_heap _ _ _ S2 _ _ HU4.out
      have HR5 : Hid (BRow w5 (w.heap.size + 1 + 1) 192 base) := by
        show _ = _
        rw [hw5, hbase, ← hZe]
        exact setRow_heap _ _ _ _ _ _ HR4.out
      have HZ5 : Hid (BRow w5 w.heap.size 131 zeros32) := by
        show _ = _
        rw [hw5, setRow_other _ _ _ _ (by omega), setRow_other _ _ _ _ (by omega), HB3.out.block _ (by omega)]
        exact HZ2.out
      have HB5 : Hid (Below w.heap.size w w5) := by
        rw [hw5]
        exact below_setRow (below_setRow (HB2.out.trans (HB3.out.mono HB2.out.size)) (by omega) _) (by omega) _
      have HL5 : Hid (st5.length = 8) := by rw [hst5]; exact mixN_length _ _ _
      have HW5 : Hid (∀ d ∈ st5, d < w32) := by rw [hst5]; exact mixN_lt _ _ _
      have HBL : Hid (base.length = 64) := by rw [hbase]; rfl
      have HBB : Hid (∀ d ∈ base, d < 256) := by rw [hbase]; exact fun d hd => by rw [List.eq_of_mem_replicate hd]; omega
      have HFIN : Hid (mixN ks st5 (lensIn base (8 * l.length) 8) = mixTo ks hs (padN l) ((padN l).length / 64)) := by
        show _ = _
        rw [shaB_two ks hs l (by rw [HLL.out, ← HN.out]; exact h56), hst5, hbase, ← HST.out]
        rfl
      clear hw5 hst5 hbase hZe HU4 HR4 HM HB3 HS2' HI2 HZ3 HO2 HST3 HT3 HU3 HR3 HI8 HI64 HTS HR2 HU2 HZ2 HB2 h56 cz fz HST HSTL HSTW hs2
      rotate_left
      go_wp2
      obtain ⟨w5, hw5⟩ : ∃ w5, w5 = w1.setCell ⟨w.heap.size + 1 + 1, n, none⟩ (.int .u8 128) := ⟨_, rfl⟩
      rw [← hw5]
      obtain ⟨st5, hst5⟩ : ∃ x, x = st := ⟨_, rfl⟩
      obtain ⟨base, hbase⟩ : ∃ x, x = tailB l := ⟨_, rfl⟩
      have HU5 : Hid (URow w5 (w.heap.size + 1) 302 st5) := by rw [hw5, hst5]; exact HU2
      have HR5 : Hid (BRow w5 (w.heap.size + 1 + 1) 192 base) := by rw [hw5, hbase]; exact HR2
      have HZ5 : Hid (BRow w5 w.heap.size 131 zeros32) := by rw [hw5]; exact HZ2
      have HB5 : Hid (Below w.heap.size w w5) := by rw [hw5]; exact HB2
      have HL5 : Hid (st5.length = 8) := by rw [hst5]; exact HSTL
      have HW5 : Hid (∀ d ∈ st5, d < w32) := by rw [hst5]; exact HSTW
      have HBL : Hid (base.length = 64) := by rw [hbase]; exact tailB_length l
      have HBB : Hid (∀ d ∈ base, d < 256) := by rw [hbase]; exact tailB_lt l (by rw [HL.out]; exact bytesN_lt s)
      have HFIN : Hid (mixN ks st5 (lensIn base (8 * l.length) 8) = mixTo ks hs (padN l) ((padN l).length / 64)) := by
        show _ = _
        rw [shaB_one ks hs l (by rw [HLL.out, ← HN.out]; omega), hst5, hbase, ← HST.out]
      clear hw5 hst5 hbase HR2 HU2 HZ2 HB2 h56 cz fz HST HSTL HSTW
      all_goals
        have k56 : ∃ z : Int, w5.cell? ⟨w.heap.size + 1 + 1, 56, none⟩ = some (.int .u8 z) := ⟨_, HR5.out.cell 56 (by rw [HBL.out]; omega)⟩
        have k57 : ∃ z : Int, w5.cell? ⟨w.heap.size + 1 + 1, 57, none⟩ = some (.int .u8 z) := ⟨_, HR5.out.cell 57 (by rw [HBL.out]; omega)⟩
        have k58 : ∃ z : Int, w5.cell? ⟨w.heap.size + 1 + 1, 58, none⟩ = some (.int .u8 z) := ⟨_, HR5.out.cell 58 (by rw [HBL.out]; omega)⟩
        have k59 : ∃ z : Int, w5.cell? ⟨w.heap.size + 1 + 1, 59, none⟩ = some (.int .u8 z) := ⟨_, HR5.out.cell 59 (by rw [HBL.out]; omega)⟩
        have k60 : ∃ z : Int, w5.cell? ⟨w.heap.size + 1 + 1, 60, none⟩ = some (.int .u8 z) := ⟨_, HR5.out.cell 60 (by rw [HBL.out]; omega)⟩
        have k61 : ∃ z : Int, w5.cell? ⟨w.heap.size + 1 + 1, 61, none⟩ = some (.int .u8 z) := ⟨_, HR5.out.cell 61 (by rw [HBL.out]; omega)⟩
        have k62 : ∃ z : Int, w5.cell? ⟨w.heap.size + 1 + 1, 62, none⟩ = some (.int .u8 z) := ⟨_, HR5.out.cell 62 (by rw [HBL.out]; omega)⟩
        have k63 : ∃ z : Int, w5.cell? ⟨w.heap.size + 1 + 1, 63, none⟩ = some (.int .u8 z) := ⟨_, HR5.out.cell 63 (by rw [HBL.out]; omega)⟩
        obtain ⟨z56, c56⟩ := k56
        obtain ⟨z57, c57⟩ := k57
        obtain ⟨z58, c58⟩ := k58
        obtain ⟨z59, c59⟩ := k59
        obtain ⟨z60, c60⟩ := k60
        obtain ⟨z61, c61⟩ := k61
        obtain ⟨z62, c62⟩ := k62
        obtain ⟨z63, c63⟩ := k63
        have f56 := HR5.out.frozen 56
        have f57 := HR5.out.frozen 57
        have f58 := HR5.out.frozen 58
        have f59 := HR5.out.frozen 59
        have f60 := HR5.out.frozen 60
        have f61 := HR5.out.frozen 61
        have f62 := HR5.out.frozen 62
        have f63 := HR5.out.frozen 63
        refine wp_loop_rounds 9 ?_
        rw [rounds_succ]
        go_wp2
        rw [rounds_succ]
        go_wp2
        rw [rounds_succ]
        go_wp2
        rw [rounds_succ]
        go_wp2
        rw [rounds_succ]
        go_wp2
        rw [rounds_succ]
        go_wp2
        rw [rounds_succ]
        go_wp2
        rw [rounds_succ]
        go_wp2
        obtain ⟨w8, hw8⟩ : ∃ w8, w8 = ((((((((w5.setCell ⟨w.heap.size + 1 + 1, 63, none⟩ (.int .u8 ((s.size : Int) * 8 % 256))).setCell ⟨w.heap.size + 1 + 1, 62, none⟩ (.int .u8 ((s.size : Int) * 8 / 256 % 256))).setCell ⟨w.heap.size + 1 + 1, 61, none⟩ (.int .u8 ((s.size : Int) * 8 / 65536))).setCell ⟨w.heap.size + 1 + 1, 60, none⟩ (.int .u8 ((s.size : Int) * 8 / 16777216))).setCell ⟨w.heap.size + 1 + 1, 59, none⟩ (.int .u8 ((s.size : Int) * 8 / 4294967296))).setCell ⟨w.heap.size + 1 + 1, 58, none⟩ (.int .u8 ((s.size : Int) * 8 / 1099511627776))).setCell ⟨w.heap.size + 1 + 1, 57, none⟩ (.int .u8 ((s.size : Int) * 8 / 281474976710656))).setCell ⟨w.heap.size + 1 + 1, 56, none⟩ (.int .u8 ((s.size : Int) * 8 / 72057594037927936))) := ⟨_, rfl⟩
        rw [← hw8]
        obtain ⟨fin, hfin⟩ : ∃ x, x = lensIn base (8 * l.length) 8 := ⟨_, rfl⟩
        obtain ⟨RB, hRB⟩ : ∃ x, x = u8s fin := ⟨_, rfl⟩
        obtain ⟨ST5, hST5⟩ : ∃ x, x = u32s st5 := ⟨_, rfl⟩
        have hne : ∀ k, (⟨w.heap.size + 1 + 1, k, none⟩ : Addr).block = w.heap.size + 1 + 1 := fun _ => rfl
        have hN : 8 * l.length = s.size * 8 := by rw [HLL.out]; omega
        have HR8 : Hid (w8.heap[w.heap.size + 1 + 1]? = some (.cells RB 192 (0, 0))) := by
          have h := (((((((HR5.out.set 63 (s.size * 8 % 256)).set 62 (s.size * 8 / 256 % 256)).set 61 (s.size * 8 / 65536)).set 60 (s.size * 8 / 16777216)).set 59 (s.size * 8 / 4294967296)).set 58 (s.size * 8 / 1099511627776)).set 57 (s.size * 8 / 281474976710656)).set 56 (s.size * 8 / 72057594037927936)
          have hfin2 : lensIn base (s.size * 8) 8 = fin := by rw [hfin, hN]
          rw [lens_all base (s.size * 8) HBL.out (by omega), hfin2] at h
          rw [hw8, hRB]
          exact h
        have HU8 : Hid (w8.heap[w.heap.size + 1]? = some (.cells ST5 302 (0, 0))) := by
          rw [hw8, hST5]
          have o : ∀ k, w.heap.size + 1 ≠ (⟨w.heap.size + 1 + 1, k, none⟩ : Addr).block := fun k => by show w.heap.size + 1 ≠ w.heap.size + 1 + 1; omega
          exact (((((((HU5.out.other _ (o _) _).other _ (o _) _).other _ (o _) _).other _ (o _) _).other _ (o _) _).other _ (o _) _).other _ (o _) _).other _ (o _) _
        have HZ8 : Hid (w8.heap[w.heap.size]? = some (.cells (u8s zeros32) 131 (0, 0))) := by
          rw [hw8]
          have o : ∀ k, w.heap.size ≠ (⟨w.heap.size + 1 + 1, k, none⟩ : Addr).block := fun k => by show w.heap.size ≠ w.heap.size + 1 + 1; omega
          exact (((((((HZ5.out.other _ (o _) _).other _ (o _) _).other _ (o _) _).other _ (o _) _).other _ (o _) _).other _ (o _) _).other _ (o _) _).other _ (o _) _
        have HB8 : Hid (Below w.heap.size w w8) := by
          rw [hw8]
          have o : ∀ k, w.heap.size ≤ (⟨w.heap.size + 1 + 1, k, none⟩ : Addr).block := fun k => by show w.heap.size ≤ w.heap.size + 1 + 1; omega
          exact (((((((HB5.out.setCell (o _) _).setCell (o _) _).setCell (o _) _).setCell (o _) _).setCell (o _) _).setCell (o _) _).setCell (o _) _).setCell (o _) _
        have hfl : fin.length = 64 := by rw [hfin]; exact lensIn_length _ _ _ HBL.out (by omega)
        have hfb : ∀ d ∈ fin, d < 256 := by rw [hfin]; exact lensIn_lt _ _ _ HBB.out
        have hs8 : w.heap.size + 1 + 1 < w8.heap.size := (Array.getElem?_eq_some_iff.1 HR8.out).1
        have HI8' : Hid ((Tryz.prog.info? 302).map (·.size) = some ST5.size) := by
          show _ = _
          rw [hST5]
          simp only [u32s, List.size_toArray, List.length_map, HL5.out]
          kernel_rfl
        have HI64' : Hid ((Tryz.prog.info? 192).map (·.size) = some RB.size) := by
          show _ = _
          rw [hRB]
          simp only [u8s, List.size_toArray, List.length_map, hfl]
          kernel_rfl
        have HM8 : Hid (Calls Tryz.prog 182 #[.agg ST5, .agg RB] w8 fun e w9 => ∃ S2 : Array Value, e = .returned (.agg S2) ∧ Hid (S2 = u32s (mixN ks st5 fin)) ∧ Hid ((Tryz.prog.info? 302).map (·.size) = some S2.size) ∧ Hid (ST5.size = S2.size) ∧ Hid (S2.all (·.oneCell') = true) ∧ Hid (Below w8.heap.size w8 w9)) :=
          mix_at st5 fin ks ST5 RB w8 hST5 hRB HL5.out HW5.out hfl hfb HKW.out (fun j hj => by rw [HB8.out.cell (by show 14 < _; exact block_lt_of_cell (HK.out 0 (by omega)))]; exact HK.out j hj)
        have HF2 : Hid (mixN ks st5 fin = mixTo ks hs (padN l) ((padN l).length / 64)) := by rw [hfin]; exact HFIN
        clear hw8 hfin hRB hST5 hne hN hfl hfb HU5 HR5 HZ5 HB5 HFIN c56 c57 c58 c59 c60 c61 c62 c63 f56 f57 f58 f59 f60 f61 f62 f63
        rw [rounds_succ]
        go_wp2_with (first | refine wpList_load_row rfl 302 _ rfl (w.heap.size + 1) rfl 302 ST5 (0, 0) _ HU8.out Tryz.underlying302 rfl HI8'.out ?_ | refine wpList_load_row rfl 192 _ rfl (w.heap.size + 1 + 1) rfl 192 RB (0, 0) _ HR8.out Tryz.underlying192 rfl HI64'.out ?_)
        refine HM8.out.mono ?_
        rintro e w9 ⟨S9, rfl, HS9, HI9, HZ9, HO9, HB9⟩
        have HIB := inBytes_at (mixN ks st5 fin) S9 w9 HS9.out (mixN_length _ _ _) (mixN_lt _ _ _)
        have HIB' : Hid (Calls Tryz.prog 183 #[.agg S9] w9 fun e w2 => ∃ A : Array Value, e = .returned (.agg A) ∧ Hid (A = u8s (outK (mixN ks st5 fin) 32)) ∧ Hid ((Tryz.prog.info? 131).map (·.size) = some A.size) ∧ Hid ((u8s zeros32).size = A.size) ∧ Hid (A.all (·.oneCell') = true) ∧ Hid (Below w9.heap.size w9 w2)) := HIB
        clear HIB HS9 HI9 HZ9 HO9
        go_wp2_with fail
        refine HIB'.out.mono ?_
        rintro e w10 ⟨A, rfl, HA, HIA', HZA, HOA', HB10⟩
        obtain ⟨Z32, hZ32⟩ : ∃ x, x = u8s zeros32 := ⟨_, rfl⟩
        have HZ10 : Hid (w10.heap[w.heap.size]? = some (.cells Z32 131 (0, 0))) := by
          show _ = _
          have hs9 := HB9.out.size
          rw [HB10.out.block _ (by omega), HB9.out.block _ (by omega), hZ32]
          exact HZ8.out
        have HZA2 : Hid (Z32.size = A.size) := by rw [hZ32]; exact HZA
        have HB11 : Hid (Below w.heap.size w w10) := HB8.out.trans ((HB9.out.mono HB8.out.size).trans (HB10.out.mono (Nat.le_trans HB8.out.size HB9.out.size)))
        clear hZ32 HZA HIB' HM8
        go_wp2_with (refine wpList_store_row rfl 131 _ _ rfl w.heap.size A rfl rfl 131 Z32 HZ10.out HIA'.out HZA2.out HOA'.out ?_)
        refine bodyPost_ret (v := .agg (u8s (outK (mixTo ks hs (padN l) ((padN l).length / 64)) 32))) ?_ rfl ⟨rfl, ?_⟩
        · rw [← HF2.out, ← HA.out]
          exact results_cell_row (p := 2) (ty := 131) rfl _ _ w.heap.size 131 A (0, 0) _ rfl (setRow_heap w10 w.heap.size Z32 A 131 _ HZ10.out) Tryz.underlying131 rfl HIA'.out
        · exact below_setRow HB11.out (Nat.le_refl _) _
end Go.Proofs.YtapijhhmjjplmaaGreatDoor
