/- OWN TEXT: the reference's primes. -/
import Derived.Test.YtapijhhmjjplmaaGreatDoorRoot
namespace Go.Proofs.YtapijhhmjjplmaaGreatDoor
open Go.RowKit

/-- Does no earlier prime up to the root divide p? -/
def okp (l : List Nat) (p : Nat) : Bool := (l.takeWhile fun q => decide (q * q ≤ p)).all fun q => p % q != 0
def okTo (l : List Nat) (p i : Nat) : Bool := (l.take i).all fun q => p % q != 0
/-- What is found when 2 .. n + 1 have been asked. -/
def prs : Nat → List Nat
  | 0 => []
  | n + 1 => if okp (prs n) (n + 2) then prs n ++ [n + 2] else prs n

theorem prs_range : ∀ n, ∀ q ∈ prs n, 2 ≤ q ∧ q ≤ n + 1
  | 0, q, h => by cases h
  | n + 1, q, h => by
    unfold prs at h
    split at h
    · rcases List.mem_append.1 h with h | h
      · have := prs_range n q h; omega
      · rw [List.mem_singleton] at h; omega
    · have := prs_range n q h; omega

theorem prs_few : ((List.range 310).all fun n => decide ((prs n).length < 64)) = true := by decide +kernel
theorem prs_all : (prs 310).length = 64 := by decide +kernel
theorem prs_lt (n : Nat) (h : n < 310) : (prs n).length < 64 := by
  have := List.all_eq_true.1 prs_few n (List.mem_range.2 h)
  simpa using this

theorem takeWhile_take (l : List Nat) (p : Nat) : ∀ i, i ≤ l.length → (∀ j (h : j < l.length), j < i → l[j] * l[j] ≤ p) → (∀ h : i < l.length, ¬ l[i] * l[i] ≤ p) → (l.takeWhile fun q => decide (q * q ≤ p)) = l.take i := by
  induction l with
  | nil => intro i _ _ _; simp
  | cons q r ih =>
    intro i hi h1 h2
    cases i with
    | zero =>
      have := h2 (by simp)
      simp only [List.getElem_cons_zero] at this
      simp [this]
    | succ i =>
      have h0 := h1 0 (by simp) (by omega)
      simp only [List.getElem_cons_zero] at h0
      rw [List.takeWhile_cons, if_pos (by simpa using h0), List.take_succ_cons]
      rw [ih i (by simpa using hi) (fun j hj hji => by have := h1 (j + 1) (by simpa using hj) (by omega); simpa using this) (fun h => by have := h2 (by simpa using h); simpa using this)]

theorem okp_eq (l : List Nat) (p i : Nat) (hi : i ≤ l.length) (h1 : ∀ j (h : j < l.length), j < i → l[j] * l[j] ≤ p) (h2 : ∀ h : i < l.length, ¬ l[i] * l[i] ≤ p) : okp l p = okTo l p i := by
  unfold okp okTo
  rw [takeWhile_take l p i hi h1 h2]

theorem okTo_succ (l : List Nat) (p i : Nat) (h : i < l.length) : okTo l p (i + 1) = (okTo l p i && (p % l[i] != 0)) := by
  unfold okTo
  rw [List.take_succ_eq_append_getElem h, List.all_append]
  simp

def iv (l : List Nat) : List Value := l.map fun q : Nat => Value.int .i64 (q : Int)
theorem iv_length (l : List Nat) : (iv l).length = l.length := by simp [iv]
theorem iv_append (l m : List Nat) : iv (l ++ m) = iv l ++ iv m := by simp [iv]
theorem iv_at (l : List Nat) (j : Nat) (h : j < l.length) : (iv l)[j]? = some (.int .i64 (l[j] : Int)) := by simp [iv, h]

theorem own_drewN {w : World} {B : Nat} {e : TypeId} {size : Nat} {v : Value} {n : Nat} {xs : List Value} (h : w.ownsRow B e size v n xs) (k : Nat) : (w.drewN k).ownsRow B e size v n xs := h

/-- A slice of ints of the call's own: nil, or cells in a row. -/
theorem own_open {w : World} {B n : Nat} {e : TypeId} {v : Value} {l : List Nat} (h : w.ownsRow B e 1 v n (iv l)) :
    (v = .slice none 0 0 ∧ l = []) ∨ ∃ g cap, v = .slice (some ⟨g, 0, none⟩) n cap ∧ B ≤ g ∧ n = l.length ∧ ∀ j (hj : j < l.length), w.cell? ⟨g, j, none⟩ = some (.int .i64 (l[j] : Int)) := by
  obtain ⟨hl, h⟩ := h
  rw [iv_length, Nat.mul_one] at hl
  rcases h with ⟨rfl, rfl⟩ | ⟨g, cap, cur, rfl, hB, hb, h1, h2, h3, h4⟩
  · exact .inl ⟨rfl, List.eq_nil_of_length_eq_zero hl⟩
  · refine .inr ⟨g, cap, rfl, hB, hl.symm, fun j hj => ?_⟩
    have := iv_at l j hj
    rw [← h4, Nat.mul_one, List.getElem?_take_of_lt (by omega)] at this
    simp only [World.cell?, hb]
    simpa using this

set_option maxRecDepth 100000 in
set_option maxHeartbeats 2000000 in
theorem primes64 (w : World) :
    Calls Tryz.prog 105 #[.int .i64 64] w fun e w' => ∃ v, e = .returned v ∧ w'.ownsRow w.heap.size 3 1 v 64 (iv (prs 310)) ∧ Below w.heap.size w w' := by
  obtain ⟨i0, hi0, hz0, hz1, hz2⟩ := info_parts infoInt
  go_enter Tryz.func105, Tryz.ntmps105
  go_wp2
  go_loopw [3, 4] (fun v pv wr => ∃ n : Nat, n ≤ 310 ∧ pv = .int .i64 ((n : Int) + 2) ∧ wr.ownsRow w.heap.size 3 1 v (prs n).length (iv (prs n)) ∧ Below w.heap.size w wr) (fun _ p _ => 312 - (intOf p).toNat)
  case atStart => exact ⟨0, by omega, rfl, World.ownsRow_nil _ _ _ _, Below.refl _ _⟩
  case round =>
    obtain ⟨n, hn, rfl, hown, hbl⟩ := hrel
    obtain ⟨l, hl⟩ : ∃ l, l = prs n := ⟨_, rfl⟩
    rw [← hl] at hown
    have HL : Hid (l = prs n) := hl
    clear hl
    obtain ⟨len, hlen⟩ : ∃ len, len = l.length := ⟨_, rfl⟩
    rw [← hlen] at hown
    have HLen : Hid (len = l.length) := hlen
    clear hlen
    by_cases hn9 : n < 310
    · have hlt : len < 64 := by rw [HLen.out, HL.out]; exact prs_lt n hn9
      have HO : Hid (wr.ownsRow w.heap.size 3 1 u3 len (iv l)) := hown
      have HBL : Hid (Below w.heap.size w wr) := hbl
      rcases own_open hown with ⟨rfl, hnil⟩ | ⟨g, cap, rfl, hBg, -, hcell⟩
      · have hl0 : len = 0 := by rw [HLen.out, hnil]; rfl
        subst hl0
        clear hown hbl
        have hpn : prs (n + 1) = [n + 2] := by
          conv => lhs; unfold prs
          rw [← HL.out, hnil]
          rfl
        have HPN : Hid (prs (n + 1) = [n + 2]) := hpn
        have HON : Hid (wr.ownsRow w.heap.size 3 1 (.slice none 0 0) 0 []) := World.ownsRow_nil _ _ _ _
        clear hnil hpn HO
        go_wp2
        go_loopw [5, 6] (fun ok i wr' => i = .int .i64 0 ∧ ok = .bool true ∧ Hid (Below w.heap.size w wr')) (fun _ _ _ => 0)
        case atStart => exact ⟨rfl, rfl, HBL⟩
        case round =>
          clear HBL
          obtain ⟨rfl, rfl, HBL⟩ := hrel
          go_wp2
          go_quiet (fail)
          go_wp2_with (at_builtin; refine wpList_append_own_at _ rfl _ _ 34 rfl w.heap.size 3 i0 (.int .i64 0) 1 8 Tryz.underlying34 hi0 hz0 hz1 hz2 rfl (by decide) _ _ _ rfl (World.ownsRow_nil _ _ _ _) _ 1 1 [.int .i64 ((n : Int) + 2)] rfl rfl (cell_one_new _ _ _) ?e2 ?e3 ?e4 ?e5 ?_)
          case e2 => intro u hu; rw [List.mem_singleton] at hu; subst hu; rfl
          case e3 => unfold maxLen; omega
          case e4 => omega
          case e5 => have := HBL.out.size; simp; omega
          intro v' w1 hown' hgrow _ _
          have HO1 : Hid (w1.ownsRow w.heap.size 3 1 v' (0 + 1) ([] ++ [.int .i64 ((n : Int) + 2)])) := hown'
          have HB1 : Hid (Below w.heap.size w w1) := ((below_drewN' HBL.out _).alloc HBL.out.size _).grown hgrow (by have := HBL.out.size; simp; omega) (fun k hk => by cases hk)
          clear hown' hgrow
          go_wp2
          go_roundw
          case rel =>
            refine ⟨n + 1, by omega, by go_num, ?_, HB1.out⟩
            have h2 := HO1.out
            rw [HPN.out]
            exact h2
          case measure => (simp [intOf]; try omega)
      · clear hown hbl
        have HC : Hid (∀ j (hj : j < l.length), wr.cell? ⟨g, j, none⟩ = some (.int .i64 (l[j] : Int))) := hcell
        clear hcell
        go_wp2
        go_loopw [5, 6] (fun ok i wr' => ∃ (m : Nat) (b : Bool), m ≤ len ∧ i = .int .i64 m ∧ ok = .bool b ∧ Hid (b = okTo l (n + 2) m) ∧ Hid (∀ j (h : j < l.length), j < m → l[j] * l[j] ≤ n + 2) ∧ Hid (wr'.ownsRow w.heap.size 3 1 (.slice (some ⟨g, 0, none⟩) len cap) len (iv l)) ∧ Hid (Below w.heap.size w wr')) (fun _ i _ => len - (intOf i).toNat)
        case atStart => exact ⟨0, true, by omega, rfl, rfl, rfl, fun j h hj => absurd hj (Nat.not_lt_zero _), HO, HBL⟩
        case round =>
          clear HO HBL HC
          obtain ⟨m, b, hm, rfl, rfl, hok, hsq, HO, HBL⟩ := hrel
          have hlenl := HLen.out
          by_cases hgo : m < len ∧ l.getD m 0 * l.getD m 0 ≤ n + 2
          · obtain ⟨hml, hgo⟩ := hgo
            have hmc : m < l.length := by omega
            obtain ⟨q, hq⟩ : ∃ q, q = l[m] := ⟨_, rfl⟩
            have hqd : l.getD m 0 = q := by rw [List.getD_eq_getElem?_getD, List.getElem?_eq_getElem hmc, hq]; rfl
            rw [hqd] at hgo
            have hqr : 2 ≤ q ∧ q ≤ n + 1 := by rw [hq]; exact prs_range n _ (by rw [← HL.out]; exact List.getElem_mem _)
            have HQ : Hid (q = l[m]) := hq
            have cq : wr.cell? ⟨g, m, none⟩ = some (.int .i64 (q : Int)) := by
              rcases own_open HO.out with ⟨h, _⟩ | ⟨g', cap', h, _, _, hc⟩
              · cases h
              · cases h
                rw [hq]; exact hc m hmc
            clear hq hqd hlenl
            have hqi : (q : Int) * (q : Int) ≤ (n : Int) + 2 := by
              have h : ((q * q : Nat) : Int) ≤ (n : Int) + 2 := by omega
              rwa [Int.natCast_mul] at h
            have hq0 : 0 ≤ (q : Int) * (q : Int) := Int.mul_nonneg (Int.natCast_nonneg _) (Int.natCast_nonneg _)
            have em : ((n : Int) + 2) % (q : Int) = (((n + 2) % q : Nat) : Int) := by rw [Int.natCast_emod]; rfl
            have hq2 := hqr.1
            have hsq' : Hid (∀ j (h : j < l.length), j < m + 1 → l[j] * l[j] ≤ n + 2) := fun j h hj => by
              rcases Nat.lt_or_ge j m with h' | h'
              · exact hsq.out j h h'
              · have : j = m := by omega
                subst this
                rw [← HQ.out]; exact hgo
            clear hgo
            cases hr : ((n + 2) % q != 0)
            · have hb1 : (((n : Int) + 2) % (q : Int) != 0) = false := by
                rw [em]
                simp only [bne_eq_false_iff_eq] at hr ⊢
                omega
              have HS : Hid (okTo l (n + 2) (m + 1) = false) := by
                show _ = _
                rw [okTo_succ l (n + 2) m hmc, ← HQ.out, hr, Bool.and_false]
              clear hr em hqr
              cases b
              all_goals
                go_wp2
                go_quiet (fail)
                go_wp2
                go_roundw
                case rel => exact ⟨m + 1, false, by omega, by go_num, rfl, HS.out.symm, hsq', HO, below_drewN' HBL.out _⟩
                case measure => (simp [intOf]; try omega)
            · have hb1 : (((n : Int) + 2) % (q : Int) != 0) = true := by
                rw [em]
                simp only [bne_iff_ne, ne_eq] at hr ⊢
                omega
              have HS : Hid (okTo l (n + 2) (m + 1) = b) := by
                show _ = _
                rw [okTo_succ l (n + 2) m hmc, ← HQ.out, hr, Bool.and_true, hok.out]
              clear hr em hqr
              cases b
              all_goals
                go_wp2
                go_quiet (fail)
                go_wp2
                go_roundw
                case rel => exact ⟨m + 1, _, by omega, by go_num, rfl, HS.out.symm, hsq', HO, below_drewN' HBL.out _⟩
                case measure => (simp [intOf]; try omega)
          · have hfin : okp l (n + 2) = b := by
              rw [hok.out]
              refine okp_eq l (n + 2) m (by omega) hsq.out (fun h h' => hgo ⟨by omega, ?_⟩)
              rw [List.getD_eq_getElem?_getD, List.getElem?_eq_getElem h]; exact h'
            have HF : Hid (okp l (n + 2) = b) := hfin
            clear hfin hok hsq
            have hpn : prs (n + 1) = if b then l ++ [n + 2] else l := by
              conv => lhs; unfold prs
              rw [← HL.out, HF.out]
            have HPN : Hid (prs (n + 1) = if b then l ++ [n + 2] else l) := hpn
            clear hpn HF
            by_cases hml : m < len
            · have hmc : m < l.length := by omega
              obtain ⟨q, hq⟩ : ∃ q, q = l[m] := ⟨_, rfl⟩
              have hqd : l.getD m 0 = q := by rw [List.getD_eq_getElem?_getD, List.getElem?_eq_getElem hmc, hq]; rfl
              have hqr : 2 ≤ q ∧ q ≤ n + 1 := by rw [hq]; exact prs_range n _ (by rw [← HL.out]; exact List.getElem_mem _)
              have hq3 := hqr.2
              have cq : wr.cell? ⟨g, m, none⟩ = some (.int .i64 (q : Int)) := by
                rcases own_open HO.out with ⟨h, _⟩ | ⟨g', cap', h, _, _, hc⟩
                · cases h
                · cases h
                  rw [hq]; exact hc m hmc
              have hqq : q * q ≤ 311 * 311 := Nat.mul_le_mul (by omega) (by omega)
              have hqu : (q : Int) * (q : Int) ≤ 96721 := by
                have h : ((q * q : Nat) : Int) ≤ 96721 := by omega
                rwa [Int.natCast_mul] at h
              have hq0 : 0 ≤ (q : Int) * (q : Int) := Int.mul_nonneg (Int.natCast_nonneg _) (Int.natCast_nonneg _)
              have hqi : decide ((q : Int) * (q : Int) ≤ (n : Int) + 2) = false := by
                refine decide_eq_false fun h => hgo ⟨hml, ?_⟩
                rw [hqd]
                rw [← Int.natCast_mul] at h
                omega
              clear hq hqd hqr hqq hgo hlenl
              cases b
              · go_wp2
                go_quiet (fail)
                go_wp2
                go_roundw
                case rel =>
                  refine ⟨n + 1, by omega, by go_num, ?_, below_drewN' HBL.out _⟩
                  have h1 := HPN.out
                  rw [if_neg (by decide)] at h1
                  rw [h1, ← HLen.out]
                  exact HO.out
                case measure => (simp [intOf]; try omega)
              · go_wp2
                go_quiet (fail)
                go_wp2_with (at_builtin; refine wpList_append_own_at _ rfl _ _ 34 rfl w.heap.size 3 i0 (.int .i64 0) 1 8 Tryz.underlying34 hi0 hz0 hz1 hz2 rfl (by decide) _ _ _ rfl (World.ownsRow.alloc (own_drewN HO.out _) _) _ 1 1 [.int .i64 ((n : Int) + 2)] rfl rfl (cell_one_new _ _ _) ?c2 ?c3 ?c4 ?c5 ?_)
                case c2 => intro u hu; rw [List.mem_singleton] at hu; subst hu; rfl
                case c3 => unfold maxLen; omega
                case c4 => omega
                case c5 => have := HBL.out.size; simp; omega
                intro v' w1 hown' hgrow _ _
                have HO1 : Hid (w1.ownsRow w.heap.size 3 1 v' (len + 1) (iv l ++ [.int .i64 ((n : Int) + 2)])) := hown'
                have HB1 : Hid (Below w.heap.size w w1) := ((below_drewN' HBL.out _).alloc HBL.out.size _).grown hgrow (by have := HBL.out.size; simp; omega) (fun k hk => by cases hk; exact hBg)
                clear hown' hgrow
                go_wp2
                go_roundw
                case rel =>
                  refine ⟨n + 1, by omega, by go_num, ?_, HB1.out⟩
                  have h1 := HPN.out
                  rw [if_pos (by first | trivial | rfl)] at h1
                  have h2 := HO1.out
                  rw [h1, iv_append, List.length_append, ← HLen.out]
                  exact h2
                case measure => (simp [intOf]; try omega)
            · have hd0 : decide ((m : Int) < (len : Int)) = false := decide_eq_false (by omega)
              clear hgo hlenl
              cases b
              · go_wp2
                go_quiet (fail)
                go_wp2
                go_roundw
                case rel =>
                  refine ⟨n + 1, by omega, by go_num, ?_, below_drewN' HBL.out _⟩
                  have h1 := HPN.out
                  rw [if_neg (by decide)] at h1
                  rw [h1, ← HLen.out]
                  exact HO.out
                case measure => (simp [intOf]; try omega)
              · go_wp2
                go_quiet (fail)
                go_wp2_with (at_builtin; refine wpList_append_own_at _ rfl _ _ 34 rfl w.heap.size 3 i0 (.int .i64 0) 1 8 Tryz.underlying34 hi0 hz0 hz1 hz2 rfl (by decide) _ _ _ rfl (World.ownsRow.alloc (own_drewN HO.out _) _) _ 1 1 [.int .i64 ((n : Int) + 2)] rfl rfl (cell_one_new _ _ _) ?d2 ?d3 ?d4 ?d5 ?_)
                case d2 => intro u hu; rw [List.mem_singleton] at hu; subst hu; rfl
                case d3 => unfold maxLen; omega
                case d4 => omega
                case d5 => have := HBL.out.size; simp; omega
                intro v' w1 hown' hgrow _ _
                have HO1 : Hid (w1.ownsRow w.heap.size 3 1 v' (len + 1) (iv l ++ [.int .i64 ((n : Int) + 2)])) := hown'
                have HB1 : Hid (Below w.heap.size w w1) := ((below_drewN' HBL.out _).alloc HBL.out.size _).grown hgrow (by have := HBL.out.size; simp; omega) (fun k hk => by cases hk; exact hBg)
                clear hown' hgrow
                go_wp2
                go_roundw
                case rel =>
                  refine ⟨n + 1, by omega, by go_num, ?_, HB1.out⟩
                  have h1 := HPN.out
                  rw [if_pos (by first | trivial | rfl)] at h1
                  have h2 := HO1.out
                  rw [h1, iv_append, List.length_append, ← HLen.out]
                  exact h2
                case measure => (simp [intOf]; try omega)
    · have : n = 310 := by omega
      subst this
      have h64 : len = 64 := by rw [HLen.out, HL.out]; exact prs_all
      subst h64
      have HB : Hid (Below w.heap.size w wr) := hbl
      rcases own_open hown with ⟨rfl, hnil⟩ | ⟨g, cap, rfl, hBg, -, -⟩
      · have := HLen.out
        rw [hnil] at this
        cases this
      · have HO : Hid (wr.ownsRow w.heap.size 3 1 (.slice (some ⟨g, 0, none⟩) 64 cap) 64 (iv l)) := hown
        clear hown hbl
        go_wp2
        go_ret
        have h1 := HO.out
        rw [HL.out] at h1
        exact ⟨_, rfl, h1, HB.out⟩
end Go.Proofs.YtapijhhmjjplmaaGreatDoor
