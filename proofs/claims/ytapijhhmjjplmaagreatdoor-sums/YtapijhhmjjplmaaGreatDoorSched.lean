/- OWN TEXT: the program's schedule. -/
import Derived.Test.YtapijhhmjjplmaaGreatDoorRound
import Derived.Deep.WholeRow
import Derived.Laws.Rows
import Derived.Test.YtapijhhmjjplmaaGreatDoorMaker
namespace Go.Proofs.YtapijhhmjjplmaaGreatDoor
open Go.RowKit

def u8s (l : List Nat) : Array Value := (l.map fun x : Nat => Value.int .u8 (x : Int)).toArray
/-- Block b holds the words l. -/
def URow (w : World) (b : Nat) (t : TypeId) (l : List Nat) : Prop := w.heap[b]? = some (.cells (u32s l) t (0, 0))
def BRow (w : World) (b : Nat) (t : TypeId) (l : List Nat) : Prop := w.heap[b]? = some (.cells (u8s l) t (0, 0))
theorem URow.cell {w : World} {b : Nat} {t : TypeId} {l : List Nat} (h : URow w b t l) (j : Nat) (hj : j < l.length) : w.cell? ⟨b, j, none⟩ = some (.int .u32 (l[j] : Int)) := by
  rw [cell_of_row w b j _ _ _ h]; simp [u32s, hj]
theorem BRow.cell {w : World} {b : Nat} {t : TypeId} {l : List Nat} (h : BRow w b t l) (j : Nat) (hj : j < l.length) : w.cell? ⟨b, j, none⟩ = some (.int .u8 (l[j] : Int)) := by
  rw [cell_of_row w b j _ _ _ h]; simp [u8s, hj]
theorem URow.frozen {w : World} {b : Nat} {t : TypeId} {l : List Nat} (h : URow w b t l) (j : Nat) : w.frozen? ⟨b, j, none⟩ = false := frozen_of_row w b j _ _ h
theorem BRow.frozen {w : World} {b : Nat} {t : TypeId} {l : List Nat} (h : BRow w b t l) (j : Nat) : w.frozen? ⟨b, j, none⟩ = false := frozen_of_row w b j _ _ h
theorem URow.set {w : World} {b : Nat} {t : TypeId} {l : List Nat} (h : URow w b t l) (k y : Nat) : URow (w.setCell ⟨b, k, none⟩ (.int .u32 (y : Int))) b t (l.set k y) := by
  unfold URow
  rw [heap_setCell_same w b k _ _ _ h]
  simp [u32s, List.map_set]
theorem BRow.set {w : World} {b : Nat} {t : TypeId} {l : List Nat} (h : BRow w b t l) (k y : Nat) : BRow (w.setCell ⟨b, k, none⟩ (.int .u8 (y : Int))) b t (l.set k y) := by
  unfold BRow
  rw [heap_setCell_same w b k _ _ _ h]
  simp [u8s, List.map_set]
theorem URow.other {w : World} {b : Nat} {t : TypeId} {l : List Nat} (h : URow w b t l) (a : Addr) (ha : b ≠ a.block) (v : Value) : URow (w.setCell a v) b t l := by
  unfold URow; rw [heap_setCell_other w a b v ha]; exact h
theorem BRow.other {w : World} {b : Nat} {t : TypeId} {l : List Nat} (h : BRow w b t l) (a : Addr) (ha : b ≠ a.block) (v : Value) : BRow (w.setCell a v) b t l := by
  unfold BRow; rw [heap_setCell_other w a b v ha]; exact h
theorem URow.lt {w : World} {b : Nat} {t : TypeId} {l : List Nat} (h : URow w b t l) : b < w.heap.size := (Array.getElem?_eq_some_iff.1 h).1
theorem BRow.lt {w : World} {b : Nat} {t : TypeId} {l : List Nat} (h : BRow w b t l) : b < w.heap.size := (Array.getElem?_eq_some_iff.1 h).1
theorem URow.drew {w : World} {b : Nat} {t : TypeId} {l : List Nat} (h : URow w b t l) : URow w.drew b t l := h
theorem BRow.drew {w : World} {b : Nat} {t : TypeId} {l : List Nat} (h : BRow w b t l) : BRow w.drew b t l := h
theorem URow.drewN {w : World} {b : Nat} {t : TypeId} {l : List Nat} (h : URow w b t l) (n : Nat) : URow (w.drewN n) b t l := h

theorem heap_third2 (w : World) (A B C : Obj) : (((w.alloc A).alloc B).alloc C).heap[w.heap.size + 1 + 1]? = some C := by
  have h := heap_alloc_new ((w.alloc A).alloc B) C
  have e : ((w.alloc A).alloc B).heap.size = w.heap.size + 1 + 1 := by simp
  rw [e] at h
  exact h
theorem heap_third1 (w : World) (A B C : Obj) : (((w.alloc A).alloc B).alloc C).heap[w.heap.size + 1]? = some B := by
  rw [Below.heap_alloc _ _ _ (by simp)]
  exact heap_alloc2_new w A B
theorem heap_third0 (w : World) (A B C : Obj) : (((w.alloc A).alloc B).alloc C).heap[w.heap.size]? = some A := by
  rw [Below.heap_alloc _ _ _ (by simp; omega)]
  exact heap_alloc2_old w A B
theorem u32s_one (l : List Nat) : (u32s l).all (·.oneCell') = true := by
  rw [Array.all_eq_true_iff_forall_mem]
  intro v hv
  unfold u32s at hv
  simp at hv
  obtain ⟨a, _, rfl⟩ := hv
  rfl
theorem below_setRow {B : Nat} {a w : World} (h : Below B a w) {g : Nat} (hg : B ≤ g) (cs : Array Value) : Below B a (w.setRow g cs) :=
  h.trans ⟨rfl, rfl, rfl, by simp, fun k hk => setRow_other w g k cs (by omega)⟩
def zeros64 : List Nat := List.replicate 64 0
/-- The first r bytes of word k. -/
def pw (p : List Nat) (k : Nat) : Nat → Nat
  | 0 => 0
  | r + 1 => pw p k r * 256 + p.getD (4 * k + r) 0
def sch1 (p : List Nat) (i : Nat) : List Nat := (List.range 64).map fun k => pw p k (min 4 (i - 4 * k))
theorem sch1_length (p : List Nat) (i : Nat) : (sch1 p i).length = 64 := by simp [sch1]
theorem sch1_at (p : List Nat) (i k : Nat) (h : k < 64) : (sch1 p i)[k]'(by rw [sch1_length]; exact h) = pw p k (min 4 (i - 4 * k)) := by simp [sch1]
theorem sch1_zero (p : List Nat) : sch1 p 0 = zeros64 := by
  unfold sch1 zeros64
  apply List.ext_getElem
  · simp
  · intro k h1 h2
    rw [List.getElem_map, List.getElem_replicate, Nat.zero_sub]
    rfl
theorem sch1_set (p : List Nat) (i : Nat) : (sch1 p i).set (i / 4) (pw p (i / 4) (i % 4) * 256 + p.getD i 0) = sch1 p (i + 1) := by
  apply List.ext_getElem
  · simp [sch1]
  · intro k h1 h2
    have hk : k < 64 := by rw [sch1_length] at h2; exact h2
    rw [List.getElem_set, sch1_at p (i + 1) k hk]
    split
    · rename_i e
      subst e
      have e1 : min 4 (i + 1 - 4 * (i / 4)) = i % 4 + 1 := by omega
      rw [e1]
      show _ = pw p (i / 4) (i % 4) * 256 + p.getD (4 * (i / 4) + i % 4) 0
      have e2 : 4 * (i / 4) + i % 4 = i := by omega
      rw [e2]
    · rename_i e
      rw [sch1_at p i k hk]
      have e1 : min 4 (i + 1 - 4 * k) = min 4 (i - 4 * k) := by omega
      rw [e1]
theorem sched16 (p : List Nat) : ∀ i, i ≤ 16 → schedTo p i = (List.range i).map (wd p)
  | 0, _ => rfl
  | i + 1, h => by
    rw [List.range_succ, List.map_append, ← sched16 p i (by omega)]
    show _ ++ [nxt _ p i] = _
    rw [nxt, if_pos (by omega)]
    rfl
theorem sch1_all (p : List Nat) : sch1 p 64 = fill (schedTo p 16) 64 := by
  rw [sched16 p 16 (by omega)]
  unfold fill
  apply List.ext_getElem
  · simp [sch1]
  · intro k h1 h2
    have hk : k < 64 := by rw [sch1_length] at h1; exact h1
    rw [sch1_at p 64 k hk]
    rcases Nat.lt_or_ge k 16 with h | h
    · rw [List.getElem_append_left (by simp; omega)]
      have e1 : min 4 (64 - 4 * k) = 4 := by omega
      rw [e1]
      simp [pw, wd]
      omega
    · rw [List.getElem_append_right (by simp; omega)]
      have e1 : min 4 (64 - 4 * k) = 0 := by omega
      rw [e1, List.getElem_replicate]
      rfl
theorem pw_lt (p : List Nat) (hpb : ∀ d ∈ p, d < 256) (k : Nat) : ∀ r, pw p k r < 256 ^ r
  | 0 => by simp [pw]
  | r + 1 => by
    have h := pw_lt p hpb k r
    have h2 := getD_lt hpb (by decide) (4 * k + r)
    rw [Nat.pow_succ]
    show pw p k r * 256 + _ < _
    omega
theorem pw_24 (p : List Nat) (hpb : ∀ d ∈ p, d < 256) (k r : Nat) (h : r < 4) : pw p k r < 16777216 := by
  have h1 := pw_lt p hpb k r
  have h2 : 256 ^ r ≤ 256 ^ 3 := Nat.pow_le_pow_right (by decide) (by omega)
  omega
theorem or_byte (x b : Nat) (hx : x < 16777216) (hb : b < 256) : bits .or .u32 ((x : Int) * 256) (b : Int) = ((x * 256 + b : Nat) : Int) := by
  have e : (x : Int) * 256 = ((x * 256 : Nat) : Int) := by omega
  rw [e, u32_or_nat _ _ (by omega) (by omega)]
  congr 1
  have := Nat.two_pow_add_eq_or_of_lt (i := 8) (b := b) (by omega) x
  rw [Nat.mul_comm x 256]
  exact this.symm

set_option maxRecDepth 100000 in
set_option maxHeartbeats 1000000 in
theorem sched_any (p : List Nat) (hpl : p.length = 64) (hpb : ∀ d ∈ p, d < 256) (w : World) :
    Calls Tryz.prog 250 #[.agg (u8s p)] w fun e w' =>
      e = .returned (.agg (u32s (schedTo p 64))) ∧ Below w.heap.size w w' := by
  obtain ⟨c, hc⟩ : ∃ c, c = u8s p := ⟨_, rfl⟩
  rw [← hc]
  have HC : Hid (c = u8s p) := hc
  clear hc
  have HPL : Hid (p.length = 64) := hpl
  have HPB : Hid (∀ d ∈ p, d < 256) := hpb
  clear hpl hpb
  go_enter Tryz.func250, Tryz.ntmps250
  go_wp2_with fail
  go_loopw [11] (fun iv_ wr => ∃ i : Nat, i ≤ 64 ∧ iv_ = .int .i64 (i : Int) ∧ Hid (BRow wr w.heap.size 192 p) ∧ Hid (URow wr (w.heap.size + 1) 394 zeros64) ∧ Hid (URow wr (w.heap.size + 1 + 1) 394 (sch1 p i)) ∧ Hid (Below w.heap.size w wr)) (fun iv_ _ => 64 - (intOf iv_).toNat)
  case atStart =>
    refine ⟨0, by omega, rfl, ?_, ?_, ?_, ?_⟩
    · show BRow _ _ _ _
      unfold BRow
      rw [← HC.out]
      exact heap_third0 w _ _ _
    · exact heap_third1 w _ _ _
    · show URow _ _ _ _
      rw [sch1_zero]
      exact heap_third2 w _ _ _
    · exact (((Below.refl _ _).alloc (Nat.le_refl _) _).alloc (by simp) _).alloc (by simp; omega) _
  case round =>
    obtain ⟨i, hi, rfl, HP, HR, HW, HB⟩ := hrel
    have hw3 := HW.out.lt
    by_cases hlt : i < 64
    · obtain ⟨x, hx⟩ : ∃ x, x = pw p (i / 4) (i % 4) := ⟨_, rfl⟩
      obtain ⟨b, hb⟩ : ∃ b, b = p.getD i 0 := ⟨_, rfl⟩
      have lx : x < 16777216 := by rw [hx]; exact pw_24 p HPB.out _ _ (by omega)
      have lb : b < 256 := by rw [hb]; exact getD_lt HPB.out (by decide) i
      have cw : wr.cell? ⟨w.heap.size + 1 + 1, i / 4, none⟩ = some (.int .u32 (x : Int)) := by
        rw [HW.out.cell (i / 4) (by rw [sch1_length]; omega), sch1_at p i (i / 4) (by omega), hx]
        have e1 : min 4 (i - 4 * (i / 4)) = i % 4 := by omega
        rw [e1]
      have cb : wr.cell? ⟨w.heap.size, i, none⟩ = some (.int .u8 (b : Int)) := by
        rw [HP.out.cell i (by rw [HPL.out]; exact hlt), hb, get_getD]
      have fw := HW.out.frozen (i / 4)
      have nor := or_byte x b lx lb
      have HX : Hid (x = pw p (i / 4) (i % 4)) := hx
      have HBB : Hid (b = p.getD i 0) := hb
      obtain ⟨q, hq⟩ : ∃ q, q = i / 4 := ⟨_, rfl⟩
      rw [← hq] at cw fw
      have hq' : (i : Int) / 4 = (q : Int) := by omega
      have hq64 : q < 64 := by omega
      have HQ : Hid (q = i / 4) := hq
      clear hx hb hq
      go_wp2
      go_region
      go_wp2
      go_roundw
      case rel =>
        refine ⟨i + 1, by omega, by go_num, ?_, ?_, ?_, ?_⟩
        · exact (HP.out.other _ (by show w.heap.size ≠ w.heap.size + 1 + 1; omega) _).drew
        · exact (HR.out.other _ (by show w.heap.size + 1 ≠ w.heap.size + 1 + 1; omega) _).drew
        · have h1 := HW.out.set q (x * 256 + b)
          have e1 : (sch1 p i).set q (x * 256 + b) = sch1 p (i + 1) := by rw [HQ.out, HX.out, HBB.out]; exact sch1_set p i
          have e2 : ((x * 256 + b : Nat) : Int) = (x : Int) * 256 + b := by omega
          rw [e1, e2] at h1
          exact h1
        · exact (HB.out.setCell (by show w.heap.size ≤ w.heap.size + 1 + 1; omega) _).drew
      case measure => (simp [intOf]; try omega)
    · have hi64 : i = 64 := by omega
      obtain ⟨i1, hi1⟩ : ∃ i1, i1 = i := ⟨_, rfl⟩
      subst hi1
      have HW1 : Hid (URow wr (w.heap.size + 1 + 1) 394 (fill (schedTo p 16) 64)) := by
        have h := HW.out
        rw [hi64, sch1_all p] at h
        exact h
      clear HW hi64 HP
      go_wp2
      go_loopw [28] (fun iv_ wr => ∃ k : Nat, k ≤ 48 ∧ iv_ = .int .i64 (k : Int) ∧ Hid (URow wr (w.heap.size + 1) 394 zeros64) ∧ Hid (URow wr (w.heap.size + 1 + 1) 394 (fill (schedTo p (16 + k)) 64)) ∧ Hid (Below w.heap.size w wr)) (fun iv_ _ => 48 - (intOf iv_).toNat)
      case atStart => exact ⟨0, by omega, rfl, HR, HW1, HB⟩
      case round =>
        clear HR HW1 HB hw3 hlt
        obtain ⟨k, hk, rfl, HR, HW, HB⟩ := hrel
        have hw3 := HW.out.lt
        by_cases hlt : k < 48
        · obtain ⟨i, hi⟩ : ∃ i, i = 16 + k := ⟨_, rfl⟩
          have hki : (k : Int) + 16 = (i : Int) := by omega
          have hi16 : 16 ≤ i := by omega
          have hi64 : i < 64 := by omega
          have HW2 : Hid (URow wr (w.heap.size + 1 + 1) 394 (fill (schedTo p i) 64)) := by rw [hi]; exact HW
          have HI : Hid (i = 16 + k) := hi
          clear hi HW
          have hfl : (fill (schedTo p i) 64).length = 64 := fill_length _ _ (by rw [schedTo_length]; omega)
          have hsl := schedTo_length p i
          have gat : ∀ j, j < i → wr.cell? ⟨w.heap.size + 1 + 1, j, none⟩ = some (.int .u32 ((schedTo p i).getD j 0 : Int)) := fun j hj => by
            rw [HW2.out.cell j (by omega), fill_at _ _ _ (by omega) (by omega), get_getD]
          have glt : ∀ j, (schedTo p i).getD j 0 < w32 := fun j => getD_lt (schedTo_lt p HPB.out i) (by decide) j
          obtain ⟨x16, e16⟩ : ∃ x, x = (schedTo p i).getD (i - 16) 0 := ⟨_, rfl⟩
          obtain ⟨x15, e15⟩ : ∃ x, x = (schedTo p i).getD (i - 15) 0 := ⟨_, rfl⟩
          obtain ⟨x7, e7⟩ : ∃ x, x = (schedTo p i).getD (i - 7) 0 := ⟨_, rfl⟩
          obtain ⟨x2, e2⟩ : ∃ x, x = (schedTo p i).getD (i - 2) 0 := ⟨_, rfl⟩
          have q15 : (x15 : Int) ≤ 4294967295 := by have := glt (i - 15); rw [← e15] at this; unfold w32 at this; omega
          have q2 : (x2 : Int) ≤ 4294967295 := by have := glt (i - 2); rw [← e2] at this; unfold w32 at this; omega
          have c16 : wr.cell? ⟨w.heap.size + 1 + 1, i - 16, none⟩ = some (.int .u32 (x16 : Int)) := by rw [e16]; exact gat _ (by omega)
          have c15 : wr.cell? ⟨w.heap.size + 1 + 1, i - 15, none⟩ = some (.int .u32 (x15 : Int)) := by rw [e15]; exact gat _ (by omega)
          have c7 : wr.cell? ⟨w.heap.size + 1 + 1, i - 7, none⟩ = some (.int .u32 (x7 : Int)) := by rw [e7]; exact gat _ (by omega)
          have c2 : wr.cell? ⟨w.heap.size + 1 + 1, i - 2, none⟩ = some (.int .u32 (x2 : Int)) := by rw [e2]; exact gat _ (by omega)
          obtain ⟨z, cz⟩ : ∃ z : Int, wr.cell? ⟨w.heap.size + 1 + 1, i, none⟩ = some (.int .u32 z) := ⟨_, HW2.out.cell i (by omega)⟩
          have fz := HW2.out.frozen i
          have HN : Hid (nxt (schedTo p i) p i = (x16 + x7 + s0 x15 + s1 x2) % 4294967296) := by
            show _ = _
            rw [nxt, if_neg (by omega), ← e16, ← e15, ← e7, ← e2]
          clear e16 e15 e7 e2 gat glt hsl
          go_wp2
          go_quiet (fail)
          go_wp2_with fail
          refine (rot_any x15 7 25 (-7) _ q15 (by decide +kernel) (by omega) (by omega) rfl).mono ?_
          rintro e w' ⟨rfl, rfl⟩
          obtain ⟨a7, ha7⟩ : ∃ a, a = rotN x15 7 := ⟨_, rfl⟩
          rw [← ha7]
          have ba7 : (a7 : Int) ≤ 4294967295 := by have := rotN_lt x15 7; rw [← ha7] at this; unfold w32 at this; omega
          have Ha7 : Hid (a7 = rotN x15 7) := ha7
          clear ha7
          go_wp2_with fail
          refine (rot_any x15 18 14 (-18) _ q15 (by decide +kernel) (by omega) (by omega) rfl).mono ?_
          rintro e w' ⟨rfl, rfl⟩
          obtain ⟨a18, ha18⟩ : ∃ a, a = rotN x15 18 := ⟨_, rfl⟩
          rw [← ha18]
          have ba18 : (a18 : Int) ≤ 4294967295 := by have := rotN_lt x15 18; rw [← ha18] at this; unfold w32 at this; omega
          have Ha18 : Hid (a18 = rotN x15 18) := ha18
          clear ha18
          obtain ⟨y1, hy1⟩ : ∃ y, y = a7 ^^^ a18 := ⟨_, rfl⟩
          obtain ⟨y2, hy2⟩ : ∃ y, y = y1 ^^^ (x15 / 8) := ⟨_, rfl⟩
          have ly1 : y1 < w32 := by rw [hy1]; exact xor_w32 (by unfold w32; omega) (by unfold w32; omega)
          have ly2 : y2 < w32 := by rw [hy2]; exact xor_w32 ly1 (by unfold w32; omega)
          unfold w32 at ly1 ly2
          have ny1 : bits .xor .u32 (a7 : Int) (a18 : Int) = (y1 : Int) := by rw [hy1]; exact u32_xor_nat _ _ (by omega) (by omega)
          have ny2 : bits .xor .u32 (y1 : Int) ((x15 : Int) / 8) = (y2 : Int) := by rw [hy2, ← u32_xor_nat _ _ (by omega) (by omega)]; rfl
          have HY : Hid (y2 = s0 x15) := by show _ = _; rw [hy2, hy1, Ha7.out, Ha18.out]; rfl
          clear hy1 hy2 ly1 ly2
          go_wp2_with fail
          refine (rot_any x2 17 15 (-17) _ q2 (by decide +kernel) (by omega) (by omega) rfl).mono ?_
          rintro e w' ⟨rfl, rfl⟩
          obtain ⟨c17, hc17⟩ : ∃ a, a = rotN x2 17 := ⟨_, rfl⟩
          rw [← hc17]
          have bc17 : (c17 : Int) ≤ 4294967295 := by have := rotN_lt x2 17; rw [← hc17] at this; unfold w32 at this; omega
          have Hc17 : Hid (c17 = rotN x2 17) := hc17
          clear hc17
          go_wp2_with fail
          refine (rot_any x2 19 13 (-19) _ q2 (by decide +kernel) (by omega) (by omega) rfl).mono ?_
          rintro e w' ⟨rfl, rfl⟩
          obtain ⟨c19, hc19⟩ : ∃ a, a = rotN x2 19 := ⟨_, rfl⟩
          rw [← hc19]
          have bc19 : (c19 : Int) ≤ 4294967295 := by have := rotN_lt x2 19; rw [← hc19] at this; unfold w32 at this; omega
          have Hc19 : Hid (c19 = rotN x2 19) := hc19
          clear hc19
          obtain ⟨z1, hz1⟩ : ∃ y, y = c17 ^^^ c19 := ⟨_, rfl⟩
          obtain ⟨z2, hz2⟩ : ∃ y, y = z1 ^^^ (x2 / 1024) := ⟨_, rfl⟩
          have lz1 : z1 < w32 := by rw [hz1]; exact xor_w32 (by unfold w32; omega) (by unfold w32; omega)
          have lz2 : z2 < w32 := by rw [hz2]; exact xor_w32 lz1 (by unfold w32; omega)
          unfold w32 at lz1 lz2
          have nz1 : bits .xor .u32 (c17 : Int) (c19 : Int) = (z1 : Int) := by rw [hz1]; exact u32_xor_nat _ _ (by omega) (by omega)
          have nz2 : bits .xor .u32 (z1 : Int) ((x2 : Int) / 1024) = (z2 : Int) := by rw [hz2, ← u32_xor_nat _ _ (by omega) (by omega)]; rfl
          have HZ : Hid (z2 = s1 x2) := by show _ = _; rw [hz2, hz1, Hc17.out, Hc19.out]; rfl
          clear hz1 hz2 lz1 lz2
          have HN2 : Hid (nxt (schedTo p i) p i = (x16 + x7 + y2 + z2) % 4294967296) := by
            show _ = _
            rw [HN.out, ← HY.out, ← HZ.out]
          clear HN
          go_wp2
          go_region
          go_wp2
          go_roundw
          case rel =>
            have ez : ((nxt (schedTo p i) p i : Nat) : Int) = ((x16 : Int) + (y2 : Int) + (x7 : Int) + (z2 : Int)) % 4294967296 := by rw [HN2.out]; omega
            refine ⟨k + 1, by omega, by go_num, ?_, ?_, ?_⟩
            · exact (HR.out.other _ (by show w.heap.size + 1 ≠ w.heap.size + 1 + 1; omega) _).drew
            · show URow _ _ _ _
              have h1 := HW2.out.set i (nxt (schedTo p i) p i)
              have h3 := fill_set (schedTo p i) 64 (nxt (schedTo p i) p i) (by rw [schedTo_length]; omega)
              rw [schedTo_length] at h3
              rw [h3, ez] at h1
              have e5 : 16 + (k + 1) = i + 1 := by rw [HI.out]; omega
              rw [e5]
              exact h1
            · exact ((below_drewN' HB.out nq).setCell (by show w.heap.size ≤ w.heap.size + 1 + 1; omega) _).drew
          case measure => (simp [intOf]; try omega)
        · have hk48 : k = 48 := by omega
          have HW3 : Hid (URow wr (w.heap.size + 1 + 1) 394 (schedTo p 64)) := by
            have h := HW.out
            rw [hk48] at h
            have e : fill (schedTo p (16 + 48)) 64 = schedTo p 64 := by unfold fill; rw [schedTo_length]; simp
            rw [e] at h
            exact h
          clear HW
          obtain ⟨S, hS⟩ : ∃ S, S = u32s (schedTo p 64) := ⟨_, rfl⟩
          obtain ⟨Z, hZ⟩ : ∃ Z, Z = u32s zeros64 := ⟨_, rfl⟩
          have HS : Hid (wr.heap[w.heap.size + 1 + 1]? = some (.cells S 394 (0, 0))) := by rw [hS]; exact HW3
          have HZ : Hid (wr.heap[w.heap.size + 1]? = some (.cells Z 394 (0, 0))) := by rw [hZ]; exact HR
          have hsz : S.size = 64 := by rw [hS]; simp [u32s, schedTo_length]
          have HI64 : Hid ((Tryz.prog.info? 394).map (·.size) = some S.size) := by
            show _ = _
            rw [hsz]
            kernel_rfl
          have HSZ : Hid (Z.size = S.size) := by show _ = _; rw [hsz, hZ]; rfl
          have HON : Hid (S.all (·.oneCell') = true) := by show _ = _; rw [hS]; exact u32s_one _
          have HSE : Hid (S = u32s (schedTo p 64)) := hS
          clear hsz hS hZ HW3 HR hk48
          go_wp2_with (first | refine wpList_load_row rfl 394 _ rfl (w.heap.size + 1 + 1) rfl 394 S (0, 0) _ HS.out Tryz.underlying394 rfl HI64.out ?_ | refine wpList_store_row rfl 394 _ _ rfl (w.heap.size + 1) S rfl rfl 394 Z HZ.out HI64.out HSZ.out HON.out ?_)
          refine bodyPost_ret (v := .agg (u32s (schedTo p 64))) ?_ rfl ⟨rfl, ?_⟩
          · rw [← HSE.out]
            exact results_cell_row (p := 2) (ty := 394) rfl _ _ (w.heap.size + 1) 394 S (0, 0) _ rfl (setRow_heap wr (w.heap.size + 1) Z S 394 _ HZ.out) Tryz.underlying394 rfl HI64.out
          · exact below_setRow HB.out (by omega) _
end Go.Proofs.YtapijhhmjjplmaaGreatDoor
