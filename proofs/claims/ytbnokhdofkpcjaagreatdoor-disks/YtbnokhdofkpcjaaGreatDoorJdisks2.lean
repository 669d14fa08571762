/- OWN TEXT: joined of: Below Root Primes Maker. -/
import Derived.Test.YtbnokhdofkpcjaaGreatDoorJdisks1
namespace Go.Proofs.YtbnokhdofkpcjaaGreatDoor
open Go.RowKit

/-- Is (whole + t / 2^32)^k at most p? (pt: 2 k.) -/
def belowB (whole t p k pt : Nat) : Bool := decide ((whole * 4294967296 + t) ^ k ≤ p * 65536 ^ pt)

set_option maxRecDepth 100000 in
set_option maxHeartbeats 1000000 in
theorem below2 (whole t p : Nat) (w : World) (hw : whole < 65536) (ht : t < 4294967296) :
    Calls Tryz.prog 182 #[.int .i64 (whole : Int), .int .i64 (t : Int), .int .i64 (p : Int), .int .i64 2] w fun e w' =>
      e = .returned (.bool (belowB whole t p 2 4)) ∧ Below w.heap.size w w' := by
  have hti : (t : Int) < 4294967296 := by omega
  have HT : Hid (t < 4294967296) := ht
  clear ht
  have R0 : Row (w.alloc (.cells #[.int .i64 ((t : Int) % 65536), .int .i64 ((t : Int) / 65536), .int .i64 (whole : Int)] 3)) w.heap.size (ints [t % 65536, t / 65536, whole]) :=
    Row.new [(t : Int) % 65536, (t : Int) / 65536, (whole : Int)] 3
  have hdig : ∀ d ∈ [t % 65536, t / 65536, whole], d < 65536 := by
    have := HT.out
    intro d hd
    simp only [List.mem_cons, List.not_mem_nil, or_false] at hd
    omega
  have hal := (Below.refl w.heap.size w).alloc (Nat.le_refl _) (.cells #[.int .i64 ((t : Int) % 65536), .int .i64 ((t : Int) / 65536), .int .i64 (whole : Int)] 3)
  go_enter Tryz.func182, Tryz.ntmps182
  go_wp2_with fail
  refine (times_any w.heap.size w.heap.size 3 3 3 3 _ _ _ R0 R0 hdig hdig (show List.length _ = 3 from rfl) (show List.length _ = 3 from rfl) (by omega) (by omega)).mono ?_
  rintro e w1 ⟨c1, hl1, hd1, hv1, rfl, hr1, hb1⟩
  have hbW : Below w.heap.size w w1 := hal.trans (hb1.mono (by simp))
  generalize hcc : c1 = c at *
  have HV : Hid (dv c = (whole * 4294967296 + t) ^ 2) := by
    show dv c = _
    rw [hv1, dv3, Nat.pow_succ, Nat.pow_one]
  have hrow : Row w1 (w.heap.size + 1) (ints c) := by simpa using hr1
  have hd := hd1
  have hl := hl1
  clear hv1 hd1 hl1 hr1 hal hb1 R0 hcc
  have HD : Hid (∀ d ∈ c, d < 65536) := hd
  have HL : Hid (c.length = 6) := hl
  clear hd hl hdig
  go_wp2
  go_loop [12, 13, 14] (fun n r i => ∃ m n0 r0 : Nat, m ≤ 6 ∧ i = .int .i64 ((m : Int) - 1) ∧ n = .int .i64 (n0 : Int) ∧ r = .int .i64 (r0 : Int) ∧ Hid (n0 = dv (c.drop (max m 4))) ∧ Hid (r0 = ((c.take 4).drop m).sum)) (fun _ _ i => (intOf i + 1).toNat)
  case atStart =>
    refine ⟨6, 0, 0, by omega, rfl, rfl, rfl, ?_, ?_⟩
    · show 0 = _
      rw [List.drop_of_length_le (by rw [HL.out]; decide)]; rfl
    · show 0 = _
      rw [List.drop_of_length_le (by rw [List.length_take]; omega)]; rfl
  case round =>
    obtain ⟨m, n0, r0, hm, rfl, rfl, rfl, hn, hr⟩ := hrel
    by_cases hm0 : 0 < m
    · obtain ⟨m, rfl⟩ : ∃ m', m = m' + 1 := ⟨m - 1, by omega⟩
      have hmc : m < c.length := by have := HL.out; omega
      obtain ⟨x, hx⟩ : ∃ x, x = c[m] := ⟨_, rfl⟩
      have hx1 : x < 65536 := by rw [hx]; exact HD.out _ (List.getElem_mem _)
      have cx : w1.cell? ⟨(w.heap.size + 1), m, none⟩ = some (.int .i64 (x : Int)) := by rw [hx]; exact row_at hrow m hmc
      have HX : Hid (x = c[m]) := hx
      clear hx
      have em : ((m + 1 : Nat) : Int) - 1 = (m : Int) := by omega
      rw [em]
      clear em
      by_cases hmp : 4 ≤ m
      · have hn1 : (n0 : Int) ≤ 4294967295 := by
          have h1 := dv_drop_lt c HD.out (m + 1) (by have := HL.out; omega)
          have h2 := hn.out
          rw [Nat.max_eq_left (by omega)] at h2
          omega
        clear HL HD HV HT hti hw hbW hrow
        go_wp2
        go_round
        case rel =>
          refine ⟨m, x + 65536 * n0, r0, by omega, by go_num, ?_, rfl, ?_, ?_⟩
          · have e : ((x + 65536 * n0 : Nat) : Int) = 65536 * (n0 : Int) + (x : Int) := by omega
            rw [e]
          · show _ = _
            have h2 := hn.out
            rw [Nat.max_eq_left (by omega)] at h2
            rw [Nat.max_eq_left hmp, dv_drop c m hmc, ← HX.out, h2]
          · show _ = _
            rw [hr.out, List.drop_of_length_le (by rw [List.length_take]; omega), List.drop_of_length_le (by rw [List.length_take]; omega)]
        case measure => (simp [intOf]; try omega)
      · have hr1 : r0 ≤ 393210 := by rw [hr.out]; exact sum_drop_lt c HD.out 4 (m + 1) (by omega)
        have hle : 4 ≤ c.length := by have := HL.out; omega
        clear HL HD HV HT hti hw hbW hrow
        go_wp2
        go_round
        case rel =>
          refine ⟨m, n0, x + r0, by omega, by go_num, rfl, ?_, ?_, ?_⟩
          · have e : ((x + r0 : Nat) : Int) = (r0 : Int) + (x : Int) := by omega
            rw [e]
          · show _ = _
            rw [hn.out, Nat.max_eq_right (by omega), Nat.max_eq_right (by omega)]
          · show _ = _
            rw [hr.out, sum_drop c 4 m (by omega) hle, ← HX.out]
        case measure => (simp [intOf]; try omega)
    · have hm1 : m = 0 := by omega
      subst hm1
      have hfin := below_iff c 4 p HD.out (by rw [HL.out]; decide)
      have h1 := hn.out
      have h2 := hr.out
      rw [Nat.max_eq_right (by omega)] at h1
      rw [List.drop_zero] at h2
      rw [← h1, ← h2, HV.out] at hfin
      have HF : Hid ((n0 < p ∨ n0 = p ∧ r0 = 0) ↔ (whole * 4294967296 + t) ^ 2 ≤ p * 65536 ^ 4) := hfin
      clear hfin h1 h2 hn hr HL HD HV HT hrow
      by_cases q1 : n0 < p
      · have hres : belowB whole t p 2 4 = true := decide_eq_true (HF.out.1 (.inl q1))
        have HR : Hid (belowB whole t p 2 4 = true) := hres
        clear hres HF
        go_wp2
        go_ret
        exact ⟨by rw [HR.out]; rfl, hbW⟩
      · by_cases q2 : n0 = p
        · by_cases q3 : r0 = 0
          · have HR : Hid (belowB whole t p 2 4 = true) := decide_eq_true (HF.out.1 (.inr ⟨q2, q3⟩))
            have b1 : ((n0 : Int) == (p : Int)) = true := by rw [q2]; exact beq_self_eq_true _
            have b2 : ((r0 : Int) == 0) = true := by rw [q3]; rfl
            clear q2 q3 HF
            go_wp2
            go_ret
            exact ⟨by rw [HR.out]; rfl, hbW⟩
          · have HR : Hid (belowB whole t p 2 4 = false) := decide_eq_false fun h => by
              rcases HF.out.2 h with h | h
              · exact q1 h
              · exact q3 h.2
            have b1 : ((n0 : Int) == (p : Int)) = true := by rw [q2]; exact beq_self_eq_true _
            have b2 : ((r0 : Int) == 0) = false := by rw [beq_eq_false_iff_ne]; omega
            clear q2 q3 HF
            go_wp2
            go_ret
            exact ⟨by rw [HR.out]; rfl, hbW⟩
        · have HR : Hid (belowB whole t p 2 4 = false) := decide_eq_false fun h => by
            rcases HF.out.2 h with h | h
            · exact q1 h
            · exact q2 h.1
          have b1 : ((n0 : Int) == (p : Int)) = false := by rw [beq_eq_false_iff_ne]; omega
          clear q2 HF
          go_wp2
          go_ret
          exact ⟨by rw [HR.out]; rfl, hbW⟩

set_option maxRecDepth 100000 in
set_option maxHeartbeats 1000000 in
theorem below3 (whole t p : Nat) (w : World) (hw : whole < 65536) (ht : t < 4294967296) :
    Calls Tryz.prog 182 #[.int .i64 (whole : Int), .int .i64 (t : Int), .int .i64 (p : Int), .int .i64 3] w fun e w' =>
      e = .returned (.bool (belowB whole t p 3 6)) ∧ Below w.heap.size w w' := by
  have hti : (t : Int) < 4294967296 := by omega
  have HT : Hid (t < 4294967296) := ht
  clear ht
  have R0 : Row (w.alloc (.cells #[.int .i64 ((t : Int) % 65536), .int .i64 ((t : Int) / 65536), .int .i64 (whole : Int)] 3)) w.heap.size (ints [t % 65536, t / 65536, whole]) :=
    Row.new [(t : Int) % 65536, (t : Int) / 65536, (whole : Int)] 3
  have hdig : ∀ d ∈ [t % 65536, t / 65536, whole], d < 65536 := by
    have := HT.out
    intro d hd
    simp only [List.mem_cons, List.not_mem_nil, or_false] at hd
    omega
  have hal := (Below.refl w.heap.size w).alloc (Nat.le_refl _) (.cells #[.int .i64 ((t : Int) % 65536), .int .i64 ((t : Int) / 65536), .int .i64 (whole : Int)] 3)
  go_enter Tryz.func182, Tryz.ntmps182
  go_wp2_with fail
  refine (times_any w.heap.size w.heap.size 3 3 3 3 _ _ _ R0 R0 hdig hdig (show List.length _ = 3 from rfl) (show List.length _ = 3 from rfl) (by omega) (by omega)).mono ?_
  rintro e w1 ⟨c1, hl1, hd1, hv1, rfl, hr1, hb1⟩
  have R1 : Row w1 w.heap.size (ints [t % 65536, t / 65536, whole]) := R0.on hb1 (by simp)
  have hr1' : Row w1 (w.heap.size + 1) (ints c1) := by simpa using hr1
  have hbW1 : Below w.heap.size w w1 := hal.trans (hb1.mono (by simp))
  clear hr1 hal hb1 R0
  simp only [World.size_alloc]
  go_wp2_with fail
  refine (times_any (w.heap.size + 1) w.heap.size 6 3 6 3 _ _ _ hr1' R1 hd1 hdig hl1 (show List.length _ = 3 from rfl) (by omega) (by omega)).mono ?_
  rintro e w2 ⟨c, hl, hd, hv2, rfl, hrow, hb2⟩
  have hsz := hbW1.size
  have hbW : Below w.heap.size w w2 := hbW1.trans (hb2.mono hsz)
  have HV : Hid (dv c = (whole * 4294967296 + t) ^ 3) := by
    show dv c = _
    rw [hv2, hv1, dv3, Nat.pow_succ, Nat.pow_succ, Nat.pow_one]
  clear hv1 hv2 hd1 hl1 hr1' R1 hbW1 hb2 c1
  have HD : Hid (∀ d ∈ c, d < 65536) := hd
  have HL : Hid (c.length = 9) := hl
  clear hd hl hdig
  go_wp2
  go_loop [12, 13, 14] (fun n r i => ∃ m n0 r0 : Nat, m ≤ 9 ∧ i = .int .i64 ((m : Int) - 1) ∧ n = .int .i64 (n0 : Int) ∧ r = .int .i64 (r0 : Int) ∧ Hid (n0 = dv (c.drop (max m 6))) ∧ Hid (r0 = ((c.take 6).drop m).sum)) (fun _ _ i => (intOf i + 1).toNat)
  case atStart =>
    refine ⟨9, 0, 0, by omega, rfl, rfl, rfl, ?_, ?_⟩
    · show 0 = _
      rw [List.drop_of_length_le (by rw [HL.out]; decide)]; rfl
    · show 0 = _
      rw [List.drop_of_length_le (by rw [List.length_take]; omega)]; rfl
  case round =>
    obtain ⟨m, n0, r0, hm, rfl, rfl, rfl, hn, hr⟩ := hrel
    by_cases hm0 : 0 < m
    · obtain ⟨m, rfl⟩ : ∃ m', m = m' + 1 := ⟨m - 1, by omega⟩
      have hmc : m < c.length := by have := HL.out; omega
      obtain ⟨x, hx⟩ : ∃ x, x = c[m] := ⟨_, rfl⟩
      have hx1 : x < 65536 := by rw [hx]; exact HD.out _ (List.getElem_mem _)
      have cx : w2.cell? ⟨w1.heap.size, m, none⟩ = some (.int .i64 (x : Int)) := by rw [hx]; exact row_at hrow m hmc
      have HX : Hid (x = c[m]) := hx
      clear hx
      have em : ((m + 1 : Nat) : Int) - 1 = (m : Int) := by omega
      rw [em]
      clear em
      by_cases hmp : 6 ≤ m
      · have hn1 : (n0 : Int) ≤ 4294967295 := by
          have h1 := dv_drop_lt c HD.out (m + 1) (by have := HL.out; omega)
          have h2 := hn.out
          rw [Nat.max_eq_left (by omega)] at h2
          omega
        clear HL HD HV HT hti hw hbW hrow
        go_wp2
        go_round
        case rel =>
          refine ⟨m, x + 65536 * n0, r0, by omega, by go_num, ?_, rfl, ?_, ?_⟩
          · have e : ((x + 65536 * n0 : Nat) : Int) = 65536 * (n0 : Int) + (x : Int) := by omega
            rw [e]
          · show _ = _
            have h2 := hn.out
            rw [Nat.max_eq_left (by omega)] at h2
            rw [Nat.max_eq_left hmp, dv_drop c m hmc, ← HX.out, h2]
          · show _ = _
            rw [hr.out, List.drop_of_length_le (by rw [List.length_take]; omega), List.drop_of_length_le (by rw [List.length_take]; omega)]
        case measure => (simp [intOf]; try omega)
      · have hr1 : r0 ≤ 393210 := by rw [hr.out]; exact sum_drop_lt c HD.out 6 (m + 1) (by omega)
        have hle : 6 ≤ c.length := by have := HL.out; omega
        clear HL HD HV HT hti hw hbW hrow
        go_wp2
        go_round
        case rel =>
          refine ⟨m, n0, x + r0, by omega, by go_num, rfl, ?_, ?_, ?_⟩
          · have e : ((x + r0 : Nat) : Int) = (r0 : Int) + (x : Int) := by omega
            rw [e]
          · show _ = _
            rw [hn.out, Nat.max_eq_right (by omega), Nat.max_eq_right (by omega)]
          · show _ = _
            rw [hr.out, sum_drop c 6 m (by omega) hle, ← HX.out]
        case measure => (simp [intOf]; try omega)
    · have hm1 : m = 0 := by omega
      subst hm1
      have hfin := below_iff c 6 p HD.out (by rw [HL.out]; decide)
      have h1 := hn.out
      have h2 := hr.out
      rw [Nat.max_eq_right (by omega)] at h1
      rw [List.drop_zero] at h2
      rw [← h1, ← h2, HV.out] at hfin
      have HF : Hid ((n0 < p ∨ n0 = p ∧ r0 = 0) ↔ (whole * 4294967296 + t) ^ 3 ≤ p * 65536 ^ 6) := hfin
      clear hfin h1 h2 hn hr HL HD HV HT hrow
      by_cases q1 : n0 < p
      · have hres : belowB whole t p 3 6 = true := decide_eq_true (HF.out.1 (.inl q1))
        have HR : Hid (belowB whole t p 3 6 = true) := hres
        clear hres HF
        go_wp2
        go_ret
        exact ⟨by rw [HR.out]; rfl, hbW⟩
      · by_cases q2 : n0 = p
        · by_cases q3 : r0 = 0
          · have HR : Hid (belowB whole t p 3 6 = true) := decide_eq_true (HF.out.1 (.inr ⟨q2, q3⟩))
            have b1 : ((n0 : Int) == (p : Int)) = true := by rw [q2]; exact beq_self_eq_true _
            have b2 : ((r0 : Int) == 0) = true := by rw [q3]; rfl
            clear q2 q3 HF
            go_wp2
            go_ret
            exact ⟨by rw [HR.out]; rfl, hbW⟩
          · have HR : Hid (belowB whole t p 3 6 = false) := decide_eq_false fun h => by
              rcases HF.out.2 h with h | h
              · exact q1 h
              · exact q3 h.2
            have b1 : ((n0 : Int) == (p : Int)) = true := by rw [q2]; exact beq_self_eq_true _
            have b2 : ((r0 : Int) == 0) = false := by rw [beq_eq_false_iff_ne]; omega
            clear q2 q3 HF
            go_wp2
            go_ret
            exact ⟨by rw [HR.out]; rfl, hbW⟩
        · have HR : Hid (belowB whole t p 3 6 = false) := decide_eq_false fun h => by
            rcases HF.out.2 h with h | h
            · exact q1 h
            · exact q2 h.1
          have b1 : ((n0 : Int) == (p : Int)) = false := by rw [beq_eq_false_iff_ne]; omega
          clear q2 HF
          go_wp2
          go_ret
          exact ⟨by rw [HR.out]; rfl, hbW⟩
end Go.Proofs.YtbnokhdofkpcjaaGreatDoor
namespace Go.Proofs.YtbnokhdofkpcjaaGreatDoor
open Go.RowKit

/-- The whole part of a root, from x on. -/
def whl (p k : Nat) : Nat → Nat → Nat
  | 0, x => x
  | f + 1, x => if (x + 1) ^ k ≤ p then whl p k f (x + 1) else x
/-- The bits behind the point, from bit b - 1 on. -/
def bt (wh p k : Nat) : Nat → Nat → Nat
  | 0, v => v
  | b + 1, v => bt wh p k b (if belowB wh (v + 2 ^ b) p k (2 * k) then v + 2 ^ b else v)
def rootN (p k : Nat) : Nat := bt (whl p k 399 1) p k 32 0

theorem whl_le (p k : Nat) (hk : 0 < k) : ∀ f x, x ≤ p → whl p k f x ≤ p
  | 0, x, h => h
  | f + 1, x, h => by
    unfold whl
    split
    · rename_i h'
      refine whl_le p k hk f (x + 1) (Nat.le_trans ?_ h')
      exact Nat.le_self_pow (Nat.pos_iff_ne_zero.1 hk) (x + 1)
    · exact h

theorem bt_lt (wh p k M : Nat) : ∀ b v, v + 2 ^ b ≤ M → bt wh p k b v < M
  | 0, v, h => by
    rw [Nat.pow_zero] at h
    exact h
  | b + 1, v, h => by
    unfold bt
    apply bt_lt wh p k M b
    rw [Nat.pow_succ] at h
    split <;> omega

theorem two32 : 0 + 2 ^ 32 ≤ 4294967296 := by rw [Nat.zero_add]; exact Nat.le_refl _
theorem rootN_lt (p k : Nat) : rootN p k < 4294967296 := bt_lt _ _ _ _ 32 0 two32

theorem power2 (n : Nat) (w : World) (h : n ≤ 1000) : Calls Tryz.prog 181 #[.int .i64 (n : Int), .int .i64 2] w fun e w' => e = .returned (.int .i64 ((n ^ 2 : Nat) : Int)) ∧ w = w' := by
  have h1 : (n : Int) * (n : Int) ≤ 1000000 := by
    have : n * n ≤ 1000 * 1000 := Nat.mul_le_mul h h
    have h2 : ((n * n : Nat) : Int) ≤ 1000000 := by omega
    rwa [Int.natCast_mul] at h2
  have h0 : 0 ≤ (n : Int) * (n : Int) := Int.mul_nonneg (Int.natCast_nonneg _) (Int.natCast_nonneg _)
  go_enter Tryz.func181, Tryz.ntmps181
  go_wp2
  go_ret
  exact ⟨by rw [Nat.pow_succ, Nat.pow_one, Int.natCast_mul]; rfl, rfl⟩
theorem power3 (n : Nat) (w : World) (h : n ≤ 1000) : Calls Tryz.prog 181 #[.int .i64 (n : Int), .int .i64 3] w fun e w' => e = .returned (.int .i64 ((n ^ 3 : Nat) : Int)) ∧ w = w' := by
  have h1 : (n : Int) * (n : Int) ≤ 1000000 := by
    have : n * n ≤ 1000 * 1000 := Nat.mul_le_mul h h
    have h2 : ((n * n : Nat) : Int) ≤ 1000000 := by omega
    rwa [Int.natCast_mul] at h2
  have h0 : 0 ≤ (n : Int) * (n : Int) := Int.mul_nonneg (Int.natCast_nonneg _) (Int.natCast_nonneg _)
  have h3 : (n : Int) * (n : Int) * (n : Int) ≤ 1000000000 := by
    have : n * n * n ≤ 1000 * 1000 * 1000 := Nat.mul_le_mul (Nat.mul_le_mul h h) h
    have h2 : ((n * n * n : Nat) : Int) ≤ 1000000000 := by omega
    rwa [Int.natCast_mul, Int.natCast_mul] at h2
  have h4 : 0 ≤ (n : Int) * (n : Int) * (n : Int) := Int.mul_nonneg h0 (Int.natCast_nonneg _)
  go_enter Tryz.func181, Tryz.ntmps181
  go_wp2
  go_ret
  exact ⟨by rw [Nat.pow_succ, Nat.pow_succ, Nat.pow_one, Int.natCast_mul, Int.natCast_mul]; rfl, rfl⟩

set_option maxRecDepth 100000 in
set_option maxHeartbeats 1000000 in
theorem root2 (p : Nat) (w : World) (hp : p ≤ 398) (hp1 : 1 ≤ p) :
    Calls Tryz.prog 106 #[.int .i64 (p : Int), .int .i64 2] w fun e w' => e = .returned (.int .i64 (rootN p 2 : Int)) ∧ Below w.heap.size w w' := by
  go_enter Tryz.func106, Tryz.ntmps106
  go_wp2
  go_loop [5] (fun v => ∃ x f : Nat, x + f = 400 ∧ 1 ≤ x ∧ x ≤ p ∧ v = .int .i64 (x : Int) ∧ Hid (whl p 2 f x = whl p 2 399 1)) (fun v => 400 - (intOf v).toNat)
  case atStart => exact ⟨1, 399, rfl, by omega, hp1, rfl, rfl⟩
  case round =>
    obtain ⟨x, f, hf, hx1, hx2, rfl, hw⟩ := hrel
    obtain ⟨f, rfl⟩ : ∃ f', f = f' + 1 := ⟨f - 1, by omega⟩
    have e1 : ((x + 1 : Nat) : Int) = (x : Int) + 1 := by omega
    have hpw := power2 (x + 1)
    rw [e1] at hpw
    clear e1
    have HF : Hid (x + (f + 1) = 400) := hf
    clear hf
    obtain ⟨q, hq⟩ : ∃ q : Nat, q = (x + 1) ^ 2 := ⟨_, rfl⟩
    rw [← hq] at hpw
    have HQ : Hid (q = (x + 1) ^ 2) := hq
    clear hq
    have HP : Hid (∀ (w : World), x + 1 ≤ 1000 → Calls Tryz.prog 181 #[.int .i64 ((x : Int) + 1), .int .i64 2] w fun e w' => e = .returned (.int .i64 (q : Int)) ∧ w = w') := hpw
    clear hpw
    by_cases hle : q ≤ p
    · have hx3 : x + 1 ≤ p := by
        have := Nat.le_self_pow (n := 2) (by decide) (x + 1)
        rw [← HQ.out] at this
        omega
      go_wp2_with (go_at_call 181; refine (HP.out _ (by omega)).mono ?_; rintro e w' ⟨rfl, rfl⟩)
      go_round
      case rel =>
        have := HF.out
        refine ⟨x + 1, f, by omega, by omega, hx3, by go_num, ?_⟩
        show _ = _
        rw [← hw.out]
        conv => rhs; unfold whl
        rw [if_pos (by rw [← HQ.out]; exact hle)]
      case measure => (simp [intOf]; try omega)
    · have hwh : whl p 2 399 1 = x := by
        rw [← hw.out]
        unfold whl
        rw [if_neg (by rw [← HQ.out]; exact hle)]
      have HW : Hid (whl p 2 399 1 = x) := hwh
      clear hwh hw
      go_wp2_with (go_at_call 181; refine (HP.out _ (by omega)).mono ?_; rintro e w' ⟨rfl, rfl⟩)
      clear HP HQ HF hle
      go_loopw [6, 7] (fun v i wr => ∃ b y : Nat, b ≤ 32 ∧ i = .int .i64 ((b : Int) - 1) ∧ v = .int .i64 (y : Int) ∧ Hid (y + 2 ^ b ≤ 4294967296) ∧ Hid (bt x p 2 b y = bt x p 2 32 0) ∧ Below w.heap.size w wr) (fun _ i _ => (intOf i + 1).toNat)
      case atStart => exact ⟨32, 0, by omega, rfl, rfl, two32, rfl, Below.refl _ _⟩
      case round =>
        obtain ⟨b, y, hb, rfl, rfl, hy, hbt, hbl⟩ := hrel
        by_cases hb0 : 0 < b
        · obtain ⟨b, rfl⟩ : ∃ b', b = b' + 1 := ⟨b - 1, by omega⟩
          have em : ((b + 1 : Nat) : Int) - 1 = (b : Int) := by omega
          rw [em]
          clear em
          have hp2 : 2 ^ b ≤ 2147483648 := Nat.le_trans (Nat.pow_le_pow_right (by decide) (by omega : b ≤ 31)) (Nat.le_refl _)
          have hy1 := hy.out
          rw [Nat.pow_succ] at hy1
          have hyy : y + 2 ^ b < 4294967296 := by have : 0 < 2 ^ b := Nat.pos_of_ne_zero (by simp); omega
          have ep : (2 : Int) ^ b = ((2 ^ b : Nat) : Int) := by rw [Int.natCast_pow]; rfl
          have ew : wrap64 ((y : Int) + wrap64 (2 ^ b)) = ((y + 2 ^ b : Nat) : Int) := by
            rw [ep, Go.IntWalk.wrap64_in ((2 ^ b : Nat) : Int) (by omega), Go.IntWalk.wrap64_in _ (by omega)]
            omega
          have EW : Hid (wrap64 ((y : Int) + wrap64 (2 ^ b)) = ((y + 2 ^ b : Nat) : Int)) := ew
          have HY : Hid (y + 2 ^ b < 4294967296) := hyy
          have HY2 : Hid (y + 2 ^ b * 2 ≤ 4294967296) := hy1
          clear ew ep hp2 hyy hy1 hy
          go_wp2_with fail
          rw [EW.out]
          refine (below2 x (y + 2 ^ b) p _ (by omega) HY.out).mono ?_
          rintro e w1 ⟨rfl, hw1⟩
          have hbl1 : Below w.heap.size w w1 := hbl.trans (hw1.mono hbl.size)
          have HB : Hid (Below w.heap.size w w1) := hbl1
          clear hbl1 hw1 hbl EW
          obtain ⟨z, hz⟩ : ∃ z, z = y + 2 ^ b := ⟨_, rfl⟩
          rw [← hz]
          have HZ : Hid (z = y + 2 ^ b) := hz
          clear hz
          cases hres : belowB x z p 2 4
          · have HR : Hid (belowB x z p 2 (2 * 2) = false) := hres
            clear hres
            go_wp2
            go_roundw
            case rel =>
              refine ⟨b, y, by omega, by go_num, rfl, ?_, ?_, HB.out⟩
              · show _ ≤ _; have := HY2.out; omega
              · show _ = _
                rw [← hbt.out]
                conv => rhs; unfold bt
                rw [← HZ.out, HR.out]
                rfl
            case measure => (simp [intOf]; try omega)
          · have HR : Hid (belowB x z p 2 (2 * 2) = true) := hres
            clear hres
            go_wp2
            go_roundw
            case rel =>
              refine ⟨b, z, by omega, by go_num, rfl, ?_, ?_, HB.out⟩
              · show _ ≤ _; have := HY2.out; have := HZ.out; omega
              · show _ = _
                rw [← hbt.out]
                conv => rhs; unfold bt
                rw [← HZ.out, HR.out]
                rfl
            case measure => (simp [intOf]; try omega)
        · have hb1 : b = 0 := by omega
          subst hb1
          go_wp2
          go_ret
          refine ⟨?_, hbl⟩
          have : rootN p 2 = y := by
            unfold rootN
            rw [HW.out, ← hbt.out]
            rfl
          rw [this]
          rfl

set_option maxRecDepth 100000 in
set_option maxHeartbeats 1000000 in
theorem root3 (p : Nat) (w : World) (hp : p ≤ 398) (hp1 : 1 ≤ p) :
    Calls Tryz.prog 106 #[.int .i64 (p : Int), .int .i64 3] w fun e w' => e = .returned (.int .i64 (rootN p 3 : Int)) ∧ Below w.heap.size w w' := by
  go_enter Tryz.func106, Tryz.ntmps106
  go_wp2
  go_loop [5] (fun v => ∃ x f : Nat, x + f = 400 ∧ 1 ≤ x ∧ x ≤ p ∧ v = .int .i64 (x : Int) ∧ Hid (whl p 3 f x = whl p 3 399 1)) (fun v => 400 - (intOf v).toNat)
  case atStart => exact ⟨1, 399, rfl, by omega, hp1, rfl, rfl⟩
  case round =>
    obtain ⟨x, f, hf, hx1, hx2, rfl, hw⟩ := hrel
    obtain ⟨f, rfl⟩ : ∃ f', f = f' + 1 := ⟨f - 1, by omega⟩
    have e1 : ((x + 1 : Nat) : Int) = (x : Int) + 1 := by omega
    have hpw := power3 (x + 1)
    rw [e1] at hpw
    clear e1
    have HF : Hid (x + (f + 1) = 400) := hf
    clear hf
    obtain ⟨q, hq⟩ : ∃ q : Nat, q = (x + 1) ^ 3 := ⟨_, rfl⟩
    rw [← hq] at hpw
    have HQ : Hid (q = (x + 1) ^ 3) := hq
    clear hq
    have HP : Hid (∀ (w : World), x + 1 ≤ 1000 → Calls Tryz.prog 181 #[.int .i64 ((x : Int) + 1), .int .i64 3] w fun e w' => e = .returned (.int .i64 (q : Int)) ∧ w = w') := hpw
    clear hpw
    by_cases hle : q ≤ p
    · have hx3 : x + 1 ≤ p := by
        have := Nat.le_self_pow (n := 3) (by decide) (x + 1)
        rw [← HQ.out] at this
        omega
      go_wp2_with (go_at_call 181; refine (HP.out _ (by omega)).mono ?_; rintro e w' ⟨rfl, rfl⟩)
      go_round
      case rel =>
        have := HF.out
        refine ⟨x + 1, f, by omega, by omega, hx3, by go_num, ?_⟩
        show _ = _
        rw [← hw.out]
        conv => rhs; unfold whl
        rw [if_pos (by rw [← HQ.out]; exact hle)]
      case measure => (simp [intOf]; try omega)
    · have hwh : whl p 3 399 1 = x := by
        rw [← hw.out]
        unfold whl
        rw [if_neg (by rw [← HQ.out]; exact hle)]
      have HW : Hid (whl p 3 399 1 = x) := hwh
      clear hwh hw
      go_wp2_with (go_at_call 181; refine (HP.out _ (by omega)).mono ?_; rintro e w' ⟨rfl, rfl⟩)
      clear HP HQ HF hle
      go_loopw [6, 7] (fun v i wr => ∃ b y : Nat, b ≤ 32 ∧ i = .int .i64 ((b : Int) - 1) ∧ v = .int .i64 (y : Int) ∧ Hid (y + 2 ^ b ≤ 4294967296) ∧ Hid (bt x p 3 b y = bt x p 3 32 0) ∧ Below w.heap.size w wr) (fun _ i _ => (intOf i + 1).toNat)
      case atStart => exact ⟨32, 0, by omega, rfl, rfl, two32, rfl, Below.refl _ _⟩
      case round =>
        obtain ⟨b, y, hb, rfl, rfl, hy, hbt, hbl⟩ := hrel
        by_cases hb0 : 0 < b
        · obtain ⟨b, rfl⟩ : ∃ b', b = b' + 1 := ⟨b - 1, by omega⟩
          have em : ((b + 1 : Nat) : Int) - 1 = (b : Int) := by omega
          rw [em]
          clear em
          have hp2 : 2 ^ b ≤ 2147483648 := Nat.le_trans (Nat.pow_le_pow_right (by decide) (by omega : b ≤ 31)) (Nat.le_refl _)
          have hy1 := hy.out
          rw [Nat.pow_succ] at hy1
          have hyy : y + 2 ^ b < 4294967296 := by have : 0 < 2 ^ b := Nat.pos_of_ne_zero (by simp); omega
          have ep : (2 : Int) ^ b = ((2 ^ b : Nat) : Int) := by rw [Int.natCast_pow]; rfl
          have ew : wrap64 ((y : Int) + wrap64 (2 ^ b)) = ((y + 2 ^ b : Nat) : Int) := by
            rw [ep, Go.IntWalk.wrap64_in ((2 ^ b : Nat) : Int) (by omega), Go.IntWalk.wrap64_in _ (by omega)]
            omega
          have EW : Hid (wrap64 ((y : Int) + wrap64 (2 ^ b)) = ((y + 2 ^ b : Nat) : Int)) := ew
          have HY : Hid (y + 2 ^ b < 4294967296) := hyy
          have HY2 : Hid (y + 2 ^ b * 2 ≤ 4294967296) := hy1
          clear ew ep hp2 hyy hy1 hy
          go_wp2_with fail
          rw [EW.out]
          refine (below3 x (y + 2 ^ b) p _ (by omega) HY.out).mono ?_
          rintro e w1 ⟨rfl, hw1⟩
          have hbl1 : Below w.heap.size w w1 := hbl.trans (hw1.mono hbl.size)
          have HB : Hid (Below w.heap.size w w1) := hbl1
          clear hbl1 hw1 hbl EW
          obtain ⟨z, hz⟩ : ∃ z, z = y + 2 ^ b := ⟨_, rfl⟩
          rw [← hz]
          have HZ : Hid (z = y + 2 ^ b) := hz
          clear hz
          cases hres : belowB x z p 3 6
          · have HR : Hid (belowB x z p 3 (2 * 3) = false) := hres
            clear hres
            go_wp2
            go_roundw
            case rel =>
              refine ⟨b, y, by omega, by go_num, rfl, ?_, ?_, HB.out⟩
              · show _ ≤ _; have := HY2.out; omega
              · show _ = _
                rw [← hbt.out]
                conv => rhs; unfold bt
                rw [← HZ.out, HR.out]
                rfl
            case measure => (simp [intOf]; try omega)
          · have HR : Hid (belowB x z p 3 (2 * 3) = true) := hres
            clear hres
            go_wp2
            go_roundw
            case rel =>
              refine ⟨b, z, by omega, by go_num, rfl, ?_, ?_, HB.out⟩
              · show _ ≤ _; have := HY2.out; have := HZ.out; omega
              · show _ = _
                rw [← hbt.out]
                conv => rhs; unfold bt
                rw [← HZ.out, HR.out]
                rfl
            case measure => (simp [intOf]; try omega)
        · have hb1 : b = 0 := by omega
          subst hb1
          go_wp2
          go_ret
          refine ⟨?_, hbl⟩
          have : rootN p 3 = y := by
            unfold rootN
            rw [HW.out, ← hbt.out]
            rfl
          rw [this]
          rfl
end Go.Proofs.YtbnokhdofkpcjaaGreatDoor
namespace Go.Proofs.YtbnokhdofkpcjaaGreatDoor
open Go.RowKit

/-- Does no earlier prime up to the root divide p? -/
def okp (l : List Nat) (p : Nat) : Bool := (l.takeWhile fun q => decide (q * q ≤ p)).all fun q => p % q != 0
def okTo (l : List Nat) (p i : Nat) : Bool := (l.take i).all fun q => p % q != 0
/-- What is found when 2 .. n + 1 have been asked. -/
def prs : Nat → List Nat
  | 0 => []
  | n + 1 => if okp (prs n) (n + 2) then prs n ++ [n + 2] else prs n

theorem prs_range : ∀ n, ∀ q ∈ prs n, 2 ≤ q ∧ q ≤ n + 1
  | 0, q, h => by cases h
  | n + 1, q, h => by
    unfold prs at h
    split at h
    · rcases List.mem_append.1 h with h | h
      · have := prs_range n q h; omega
      · rw [List.mem_singleton] at h; omega
    · have := prs_range n q h; omega

theorem prs_few : ((List.range 310).all fun n => decide ((prs n).length < 64)) = true := by decide +kernel
theorem prs_all : (prs 310).length = 64 := by decide +kernel
theorem prs_lt (n : Nat) (h : n < 310) : (prs n).length < 64 := by
  have := List.all_eq_true.1 prs_few n (List.mem_range.2 h)
  simpa using this

theorem takeWhile_take (l : List Nat) (p : Nat) : ∀ i, i ≤ l.length → (∀ j (h : j < l.length), j < i → l[j] * l[j] ≤ p) → (∀ h : i < l.length, ¬ l[i] * l[i] ≤ p) → (l.takeWhile fun q => decide (q * q ≤ p)) = l.take i := by
  induction l with
  | nil => intro i _ _ _; simp
  | cons q r ih =>
    intro i hi h1 h2
    cases i with
    | zero =>
      have := h2 (by simp)
      simp only [List.getElem_cons_zero] at this
      simp [this]
    | succ i =>
      have h0 := h1 0 (by simp) (by omega)
      simp only [List.getElem_cons_zero] at h0
      rw [List.takeWhile_cons, if_pos (by simpa using h0), List.take_succ_cons]
      rw [ih i (by simpa using hi) (fun j hj hji => by have := h1 (j + 1) (by simpa using hj) (by omega); simpa using this) (fun h => by have := h2 (by simpa using h); simpa using this)]

theorem okp_eq (l : List Nat) (p i : Nat) (hi : i ≤ l.length) (h1 : ∀ j (h : j < l.length), j < i → l[j] * l[j] ≤ p) (h2 : ∀ h : i < l.length, ¬ l[i] * l[i] ≤ p) : okp l p = okTo l p i := by
  unfold okp okTo
  rw [takeWhile_take l p i hi h1 h2]

theorem okTo_succ (l : List Nat) (p i : Nat) (h : i < l.length) : okTo l p (i + 1) = (okTo l p i && (p % l[i] != 0)) := by
  unfold okTo
  rw [List.take_succ_eq_append_getElem h, List.all_append]
  simp

def iv (l : List Nat) : List Value := l.map fun q : Nat => Value.int .i64 (q : Int)
theorem iv_length (l : List Nat) : (iv l).length = l.length := by simp [iv]
theorem iv_append (l m : List Nat) : iv (l ++ m) = iv l ++ iv m := by simp [iv]
theorem iv_at (l : List Nat) (j : Nat) (h : j < l.length) : (iv l)[j]? = some (.int .i64 (l[j] : Int)) := by simp [iv, h]

theorem own_drewN {w : World} {B : Nat} {e : TypeId} {size : Nat} {v : Value} {n : Nat} {xs : List Value} (h : w.ownsRow B e size v n xs) (k : Nat) : (w.drewN k).ownsRow B e size v n xs := h

/-- A slice of ints of the call's own: nil, or cells in a row. -/
theorem own_open {w : World} {B n : Nat} {e : TypeId} {v : Value} {l : List Nat} (h : w.ownsRow B e 1 v n (iv l)) :
    (v = .slice none 0 0 ∧ l = []) ∨ ∃ g cap, v = .slice (some ⟨g, 0, none⟩) n cap ∧ B ≤ g ∧ n = l.length ∧ ∀ j (hj : j < l.length), w.cell? ⟨g, j, none⟩ = some (.int .i64 (l[j] : Int)) := by
  obtain ⟨hl, h⟩ := h
  rw [iv_length, Nat.mul_one] at hl
  rcases h with ⟨rfl, rfl⟩ | ⟨g, cap, cur, rfl, hB, hb, h1, h2, h3, h4⟩
  · exact .inl ⟨rfl, List.eq_nil_of_length_eq_zero hl⟩
  · refine .inr ⟨g, cap, rfl, hB, hl.symm, fun j hj => ?_⟩
    have := iv_at l j hj
    rw [← h4, Nat.mul_one, List.getElem?_take_of_lt (by omega)] at this
    simp only [World.cell?, hb]
    simpa using this

set_option maxRecDepth 100000 in
set_option maxHeartbeats 2000000 in
theorem primes64 (w : World) :
    Calls Tryz.prog 105 #[.int .i64 64] w fun e w' => ∃ v, e = .returned v ∧ w'.ownsRow w.heap.size 3 1 v 64 (iv (prs 310)) ∧ Below w.heap.size w w' := by
  obtain ⟨i0, hi0, hz0, hz1, hz2⟩ := info_parts infoInt
  go_enter Tryz.func105, Tryz.ntmps105
  go_wp2
  go_loopw [3, 4] (fun v pv wr => ∃ n : Nat, n ≤ 310 ∧ pv = .int .i64 ((n : Int) + 2) ∧ wr.ownsRow w.heap.size 3 1 v (prs n).length (iv (prs n)) ∧ Below w.heap.size w wr) (fun _ p _ => 312 - (intOf p).toNat)
  case atStart => exact ⟨0, by omega, rfl, World.ownsRow_nil _ _ _ _, Below.refl _ _⟩
  case round =>
    obtain ⟨n, hn, rfl, hown, hbl⟩ := hrel
    obtain ⟨l, hl⟩ : ∃ l, l = prs n := ⟨_, rfl⟩
    rw [← hl] at hown
    have HL : Hid (l = prs n) := hl
    clear hl
    obtain ⟨len, hlen⟩ : ∃ len, len = l.length := ⟨_, rfl⟩
    rw [← hlen] at hown
    have HLen : Hid (len = l.length) := hlen
    clear hlen
    by_cases hn9 : n < 310
    · have hlt : len < 64 := by rw [HLen.out, HL.out]; exact prs_lt n hn9
      have HO : Hid (wr.ownsRow w.heap.size 3 1 u3 len (iv l)) := hown
      have HBL : Hid (Below w.heap.size w wr) := hbl
      rcases own_open hown with ⟨rfl, hnil⟩ | ⟨g, cap, rfl, hBg, -, hcell⟩
      · have hl0 : len = 0 := by rw [HLen.out, hnil]; rfl
        subst hl0
        clear hown hbl
        have hpn : prs (n + 1) = [n + 2] := by
          conv => lhs; unfold prs
          rw [← HL.out, hnil]
          rfl
        have HPN : Hid (prs (n + 1) = [n + 2]) := hpn
        have HON : Hid (wr.ownsRow w.heap.size 3 1 (.slice none 0 0) 0 []) := World.ownsRow_nil _ _ _ _
        clear hnil hpn HO
        go_wp2
        go_loopw [5, 6] (fun ok i wr' => i = .int .i64 0 ∧ ok = .bool true ∧ Hid (Below w.heap.size w wr')) (fun _ _ _ => 0)
        case atStart => exact ⟨rfl, rfl, HBL⟩
        case round =>
          clear HBL
          obtain ⟨rfl, rfl, HBL⟩ := hrel
          go_wp2
          go_quiet (fail)
          go_wp2_with (at_builtin; refine wpList_append_own_at _ rfl _ _ 34 rfl w.heap.size 3 i0 (.int .i64 0) 1 8 Tryz.underlying34 hi0 hz0 hz1 hz2 rfl (by decide) _ _ _ rfl (World.ownsRow_nil _ _ _ _) _ 1 1 [.int .i64 ((n : Int) + 2)] rfl rfl (cell_one_new _ _ _) ?e2 ?e3 ?e4 ?e5 ?_)
          case e2 => intro u hu; rw [List.mem_singleton] at hu; subst hu; rfl
          case e3 => unfold maxLen; omega
          case e4 => omega
          case e5 => have := HBL.out.size; simp; omega
          intro v' w1 hown' hgrow _ _
          have HO1 : Hid (w1.ownsRow w.heap.size 3 1 v' (0 + 1) ([] ++ [.int .i64 ((n : Int) + 2)])) := hown'
          have HB1 : Hid (Below w.heap.size w w1) := ((below_drewN' HBL.out _).alloc HBL.out.size _).grown hgrow (by have := HBL.out.size; simp; omega) (fun k hk => by cases hk)
          clear hown' hgrow
          go_wp2
          go_roundw
          case rel =>
            refine ⟨n + 1, by omega, by go_num, ?_, HB1.out⟩
            have h2 := HO1.out
            rw [HPN.out]
            exact h2
          case measure => (simp [intOf]; try omega)
      · clear hown hbl
        have HC : Hid (∀ j (hj : j < l.length), wr.cell? ⟨g, j, none⟩ = some (.int .i64 (l[j] : Int))) := hcell
        clear hcell
        go_wp2
        go_loopw [5, 6] (fun ok i wr' => ∃ (m : Nat) (b : Bool), m ≤ len ∧ i = .int .i64 m ∧ ok = .bool b ∧ Hid (b = okTo l (n + 2) m) ∧ Hid (∀ j (h : j < l.length), j < m → l[j] * l[j] ≤ n + 2) ∧ Hid (wr'.ownsRow w.heap.size 3 1 (.slice (some ⟨g, 0, none⟩) len cap) len (iv l)) ∧ Hid (Below w.heap.size w wr')) (fun _ i _ => len - (intOf i).toNat)
        case atStart => exact ⟨0, true, by omega, rfl, rfl, rfl, fun j h hj => absurd hj (Nat.not_lt_zero _), HO, HBL⟩
        case round =>
          clear HO HBL HC
          obtain ⟨m, b, hm, rfl, rfl, hok, hsq, HO, HBL⟩ := hrel
          have hlenl := HLen.out
          by_cases hgo : m < len ∧ l.getD m 0 * l.getD m 0 ≤ n + 2
          · obtain ⟨hml, hgo⟩ := hgo
            have hmc : m < l.length := by omega
            obtain ⟨q, hq⟩ : ∃ q, q = l[m] := ⟨_, rfl⟩
            have hqd : l.getD m 0 = q := by rw [List.getD_eq_getElem?_getD, List.getElem?_eq_getElem hmc, hq]; rfl
            rw [hqd] at hgo
            have hqr : 2 ≤ q ∧ q ≤ n + 1 := by rw [hq]; exact prs_range n _ (by rw [← HL.out]; exact List.getElem_mem _)
            have HQ : Hid (q = l[m]) := hq
            have cq : wr.cell? ⟨g, m, none⟩ = some (.int .i64 (q : Int)) := by
              rcases own_open HO.out with ⟨h, _⟩ | ⟨g', cap', h, _, _, hc⟩
              · cases h
              · cases h
                rw [hq]; exact hc m hmc
            clear hq hqd hlenl
            have hqi : (q : Int) * (q : Int) ≤ (n : Int) + 2 := by
              have h : ((q * q : Nat) : Int) ≤ (n : Int) + 2 := by omega
              rwa [Int.natCast_mul] at h
            have hq0 : 0 ≤ (q : Int) * (q : Int) := Int.mul_nonneg (Int.natCast_nonneg _) (Int.natCast_nonneg _)
            have em : ((n : Int) + 2) % (q : Int) = (((n + 2) % q : Nat) : Int) := by rw [Int.natCast_emod]; rfl
            have hq2 := hqr.1
            have hsq' : Hid (∀ j (h : j < l.length), j < m + 1 → l[j] * l[j] ≤ n + 2) := fun j h hj => by
              rcases Nat.lt_or_ge j m with h' | h'
              · exact hsq.out j h h'
              · have : j = m := by omega
                subst this
                rw [← HQ.out]; exact hgo
            clear hgo
            cases hr : ((n + 2) % q != 0)
            · have hb1 : (((n : Int) + 2) % (q : Int) != 0) = false := by
                rw [em]
                simp only [bne_eq_false_iff_eq] at hr ⊢
                omega
              have HS : Hid (okTo l (n + 2) (m + 1) = false) := by
                show _ = _
                rw [okTo_succ l (n + 2) m hmc, ← HQ.out, hr, Bool.and_false]
              clear hr em hqr
              cases b
              all_goals
                go_wp2
                go_quiet (fail)
                go_wp2
                go_roundw
                case rel => exact ⟨m + 1, false, by omega, by go_num, rfl, HS.out.symm, hsq', HO, below_drewN' HBL.out _⟩
                case measure => (simp [intOf]; try omega)
            · have hb1 : (((n : Int) + 2) % (q : Int) != 0) = true := by
                rw [em]
                simp only [bne_iff_ne, ne_eq] at hr ⊢
                omega
              have HS : Hid (okTo l (n + 2) (m + 1) = b) := by
                show _ = _
                rw [okTo_succ l (n + 2) m hmc, ← HQ.out, hr, Bool.and_true, hok.out]
              clear hr em hqr
              cases b
              all_goals
                go_wp2
                go_quiet (fail)
                go_wp2
                go_roundw
                case rel => exact ⟨m + 1, _, by omega, by go_num, rfl, HS.out.symm, hsq', HO, below_drewN' HBL.out _⟩
                case measure => (simp [intOf]; try omega)
          · have hfin : okp l (n + 2) = b := by
              rw [hok.out]
              refine okp_eq l (n + 2) m (by omega) hsq.out (fun h h' => hgo ⟨by omega, ?_⟩)
              rw [List.getD_eq_getElem?_getD, List.getElem?_eq_getElem h]; exact h'
            have HF : Hid (okp l (n + 2) = b) := hfin
            clear hfin hok hsq
            have hpn : prs (n + 1) = if b then l ++ [n + 2] else l := by
              conv => lhs; unfold prs
              rw [← HL.out, HF.out]
            have HPN : Hid (prs (n + 1) = if b then l ++ [n + 2] else l) := hpn
            clear hpn HF
            by_cases hml : m < len
            · have hmc : m < l.length := by omega
              obtain ⟨q, hq⟩ : ∃ q, q = l[m] := ⟨_, rfl⟩
              have hqd : l.getD m 0 = q := by rw [List.getD_eq_getElem?_getD, List.getElem?_eq_getElem hmc, hq]; rfl
              have hqr : 2 ≤ q ∧ q ≤ n + 1 := by rw [hq]; exact prs_range n _ (by rw [← HL.out]; exact List.getElem_mem _)
              have hq3 := hqr.2
              have cq : wr.cell? ⟨g, m, none⟩ = some (.int .i64 (q : Int)) := by
                rcases own_open HO.out with ⟨h, _⟩ | ⟨g', cap', h, _, _, hc⟩
                · cases h
                · cases h
                  rw [hq]; exact hc m hmc
              have hqq : q * q ≤ 311 * 311 := Nat.mul_le_mul (by omega) (by omega)
              have hqu : (q : Int) * (q : Int) ≤ 96721 := by
                have h : ((q * q : Nat) : Int) ≤ 96721 := by omega
                rwa [Int.natCast_mul] at h
              have hq0 : 0 ≤ (q : Int) * (q : Int) := Int.mul_nonneg (Int.natCast_nonneg _) (Int.natCast_nonneg _)
              have hqi : decide ((q : Int) * (q : Int) ≤ (n : Int) + 2) = false := by
                refine decide_eq_false fun h => hgo ⟨hml, ?_⟩
                rw [hqd]
                rw [← Int.natCast_mul] at h
                omega
              clear hq hqd hqr hqq hgo hlenl
              cases b
              · go_wp2
                go_quiet (fail)
                go_wp2
                go_roundw
                case rel =>
                  refine ⟨n + 1, by omega, by go_num, ?_, below_drewN' HBL.out _⟩
                  have h1 := HPN.out
                  rw [if_neg (by decide)] at h1
                  rw [h1, ← HLen.out]
                  exact HO.out
                case measure => (simp [intOf]; try omega)
              · go_wp2
                go_quiet (fail)
                go_wp2_with (at_builtin; refine wpList_append_own_at _ rfl _ _ 34 rfl w.heap.size 3 i0 (.int .i64 0) 1 8 Tryz.underlying34 hi0 hz0 hz1 hz2 rfl (by decide) _ _ _ rfl (World.ownsRow.alloc (own_drewN HO.out _) _) _ 1 1 [.int .i64 ((n : Int) + 2)] rfl rfl (cell_one_new _ _ _) ?c2 ?c3 ?c4 ?c5 ?_)
                case c2 => intro u hu; rw [List.mem_singleton] at hu; subst hu; rfl
                case c3 => unfold maxLen; omega
                case c4 => omega
                case c5 => have := HBL.out.size; simp; omega
                intro v' w1 hown' hgrow _ _
                have HO1 : Hid (w1.ownsRow w.heap.size 3 1 v' (len + 1) (iv l ++ [.int .i64 ((n : Int) + 2)])) := hown'
                have HB1 : Hid (Below w.heap.size w w1) := ((below_drewN' HBL.out _).alloc HBL.out.size _).grown hgrow (by have := HBL.out.size; simp; omega) (fun k hk => by cases hk; exact hBg)
                clear hown' hgrow
                go_wp2
                go_roundw
                case rel =>
                  refine ⟨n + 1, by omega, by go_num, ?_, HB1.out⟩
                  have h1 := HPN.out
                  rw [if_pos (by first | trivial | rfl)] at h1
                  have h2 := HO1.out
                  rw [h1, iv_append, List.length_append, ← HLen.out]
                  exact h2
                case measure => (simp [intOf]; try omega)
            · have hd0 : decide ((m : Int) < (len : Int)) = false := decide_eq_false (by omega)
              clear hgo hlenl
              cases b
              · go_wp2
                go_quiet (fail)
                go_wp2
                go_roundw
                case rel =>
                  refine ⟨n + 1, by omega, by go_num, ?_, below_drewN' HBL.out _⟩
                  have h1 := HPN.out
                  rw [if_neg (by decide)] at h1
                  rw [h1, ← HLen.out]
                  exact HO.out
                case measure => (simp [intOf]; try omega)
              · go_wp2
                go_quiet (fail)
                go_wp2_with (at_builtin; refine wpList_append_own_at _ rfl _ _ 34 rfl w.heap.size 3 i0 (.int .i64 0) 1 8 Tryz.underlying34 hi0 hz0 hz1 hz2 rfl (by decide) _ _ _ rfl (World.ownsRow.alloc (own_drewN HO.out _) _) _ 1 1 [.int .i64 ((n : Int) + 2)] rfl rfl (cell_one_new _ _ _) ?d2 ?d3 ?d4 ?d5 ?_)
                case d2 => intro u hu; rw [List.mem_singleton] at hu; subst hu; rfl
                case d3 => unfold maxLen; omega
                case d4 => omega
                case d5 => have := HBL.out.size; simp; omega
                intro v' w1 hown' hgrow _ _
                have HO1 : Hid (w1.ownsRow w.heap.size 3 1 v' (len + 1) (iv l ++ [.int .i64 ((n : Int) + 2)])) := hown'
                have HB1 : Hid (Below w.heap.size w w1) := ((below_drewN' HBL.out _).alloc HBL.out.size _).grown hgrow (by have := HBL.out.size; simp; omega) (fun k hk => by cases hk; exact hBg)
                clear hown' hgrow
                go_wp2
                go_roundw
                case rel =>
                  refine ⟨n + 1, by omega, by go_num, ?_, HB1.out⟩
                  have h1 := HPN.out
                  rw [if_pos (by first | trivial | rfl)] at h1
                  have h2 := HO1.out
                  rw [h1, iv_append, List.length_append, ← HLen.out]
                  exact h2
                case measure => (simp [intOf]; try omega)
    · have : n = 310 := by omega
      subst this
      have h64 : len = 64 := by rw [HLen.out, HL.out]; exact prs_all
      subst h64
      have HB : Hid (Below w.heap.size w wr) := hbl
      rcases own_open hown with ⟨rfl, hnil⟩ | ⟨g, cap, rfl, hBg, -, -⟩
      · have := HLen.out
        rw [hnil] at this
        cases this
      · have HO : Hid (wr.ownsRow w.heap.size 3 1 (.slice (some ⟨g, 0, none⟩) 64 cap) 64 (iv l)) := hown
        clear hown hbl
        go_wp2
        go_ret
        have h1 := HO.out
        rw [HL.out] at h1
        exact ⟨_, rfl, h1, HB.out⟩
end Go.Proofs.YtbnokhdofkpcjaaGreatDoor
namespace Go.Proofs.YtbnokhdofkpcjaaGreatDoor
open Go.RowKit

def kc (i : Nat) : List Nat := ((prs 310).take i).map fun p => rootN p 3
def hc (i : Nat) : List Nat := ((prs 310).take i).map fun p => rootN p 2
theorem kc_succ (i : Nat) (h : i < (prs 310).length) : kc (i + 1) = kc i ++ [rootN (prs 310)[i] 3] := by
  unfold kc; rw [List.take_succ_eq_append_getElem h, List.map_append]; rfl
theorem hc_succ (i : Nat) (h : i < (prs 310).length) : hc (i + 1) = hc i ++ [rootN (prs 310)[i] 2] := by
  unfold hc; rw [List.take_succ_eq_append_getElem h, List.map_append]; rfl

theorem cell_later' {B : Nat} {w w' : World} (hb : Below B w w') {p : Addr} {v : Value} (h : w.cell? p = some v) (hp : p.block < B) : w'.cell? p = some v := by
  rw [hb.cell hp]; exact h
/-- Of the old blocks at most g has turned. -/
structure Only (g : Nat) (w w' : World) : Prop where
  os : w'.os = w.os
  tape : w'.tape = w.tape
  output : w'.output = w.output
  size : w.heap.size ≤ w'.heap.size
  block : ∀ k, k < w.heap.size → k ≠ g → w'.heap[k]? = w.heap[k]?
theorem Only.refl (g : Nat) (w : World) : Only g w w := ⟨rfl, rfl, rfl, Nat.le_refl _, fun _ _ _ => rfl⟩
theorem Only.trans {g : Nat} {a b c : World} (h : Only g a b) (k : Only g b c) : Only g a c :=
  ⟨k.os.trans h.os, k.tape.trans h.tape, k.output.trans h.output, Nat.le_trans h.size k.size, fun i hi hg => (k.block i (Nat.lt_of_lt_of_le hi h.size) hg).trans (h.block i hi hg)⟩
theorem Only.of_below {g B : Nat} {w w' : World} (h : Below B w w') (hB : w.heap.size ≤ B) : Only g w w' := ⟨h.os, h.tape, h.output, h.size, fun k hk _ => h.block k (Nat.lt_of_lt_of_le hk hB)⟩
theorem Only.setCell {g : Nat} {a w : World} (h : Only g a w) {p : Addr} (hp : p.block = g) (u : Value) : Only g a (w.setCell p u) :=
  ⟨h.os, h.tape, h.output, by rw [World.size_setCell]; exact h.size, fun k hk hg => (Below.heap_setCell w p u k (by rw [hp]; exact hg)).trans (h.block k hk hg)⟩
theorem Only.drewN {g : Nat} {a w : World} (h : Only g a w) (n : Nat) : Only g a (w.drewN n) := ⟨h.os, h.tape, h.output, h.size, h.block⟩
theorem Only.drew {g : Nat} {a w : World} (h : Only g a w) : Only g a w.drew := ⟨h.os, h.tape, h.output, h.size, h.block⟩
theorem Only.cell {g : Nat} {w w' : World} (h : Only g w w') {p : Addr} (hp : p.block < w.heap.size) (hg : p.block ≠ g) : w'.cell? p = w.cell? p := World.cell?_of_block (h.block p.block hp hg)
theorem Row.only {g : Nat} {w w' : World} {b : Nat} {l : List Int} (h : Row w b l) (ho : Only g w w') (hg : b ≠ g) : Row w' b l := h.of_heap (ho.block b h.lt hg)
/-- What was new above B may turn, too. -/
theorem Only.below {g : Nat} {w w' : World} (h : Only g w w') (B : Nat) (hB : B ≤ g) (hw : B ≤ w.heap.size) : Below B w w' := ⟨h.os, h.tape, h.output, h.size, fun k hk => h.block k (by omega) (by omega)⟩

theorem own_on {w w' : World} {B C : Nat} {e : TypeId} {size : Nat} {v : Value} {n : Nat} {xs : List Value} (h : w.ownsRow B e size v n xs) (hb : Below C w w') (hC : w.heap.size ≤ C) : w'.ownsRow B e size v n xs := by
  obtain ⟨h1, h2⟩ := h
  refine ⟨h1, ?_⟩
  rcases h2 with h2 | ⟨g, cap, cur, rfl, hB, hg, h3⟩
  · exact .inl h2
  · exact .inr ⟨g, cap, cur, rfl, hB, by rw [hb.block g (Nat.lt_of_lt_of_le (Array.getElem?_eq_some_iff.1 hg).1 hC)]; exact hg, h3⟩
theorem own_base {w : World} {B C : Nat} {e : TypeId} {size : Nat} {v : Value} {n : Nat} {xs : List Value} (h : w.ownsRow B e size v n xs) (hC : C ≤ B) : w.ownsRow C e size v n xs := by
  obtain ⟨h1, h2⟩ := h
  refine ⟨h1, ?_⟩
  rcases h2 with h2 | ⟨g, cap, cur, rfl, hB, hg, h3⟩
  · exact .inl h2
  · exact .inr ⟨g, cap, cur, rfl, Nat.le_trans hC hB, hg, h3⟩
theorem own_base_of {w : World} {B : Nat} {e : TypeId} {size : Nat} {v : Value} {n : Nat} {xs : List Value} (h : w.ownsRow B e size v n xs) : ∀ k, v.ownBlock = some k → B ≤ k := fun k hk => (h.lt k hk).1

theorem own_block {w : World} {B n : Nat} {e : TypeId} {v : Value} {l : List Nat} (h : w.ownsRow B e 1 v n (iv l)) (hn : 0 < n) : ∃ k, v.ownBlock = some k ∧ B ≤ k ∧ k < w.heap.size := by
  have h0 := h
  obtain ⟨h1, h2⟩ := h
  rcases h2 with ⟨_, h2⟩ | ⟨g, cap, cur, rfl, hB, hg, h3⟩
  · omega
  · exact ⟨g, rfl, hB, (Array.getElem?_eq_some_iff.1 hg).1⟩

theorem iv_ints (l : List Nat) : iv l = (ints l).map (Value.int .i64) := by simp [iv, ints]
/-- A row of the call's own, as a block. -/
theorem own_row {w : World} {B n : Nat} {e : TypeId} {v : Value} {l : List Nat} (h : w.ownsRow B e 1 v n (iv l)) (hn : 0 < n) : ∃ g cap, v = .slice (some ⟨g, 0, none⟩) n cap ∧ B ≤ g ∧ Row w g (ints l) := by
  obtain ⟨h1, h2⟩ := h
  rcases h2 with ⟨_, h2⟩ | ⟨g, cap, cur, rfl, hB, hg, h3, h4, h5, h6⟩
  · omega
  · refine ⟨g, cap, rfl, hB, e, cur.toList.drop n, ?_⟩
    rw [hg, ← iv_ints, ← h6, Nat.mul_one, List.take_append_drop]

set_option maxRecDepth 100000 in
set_option maxHeartbeats 2000000 in
theorem constants_any (w : World) :
    Calls Tryz.prog 64 #[] w fun e w' => ∃ kv hv, e = .returned (.tuple #[kv, hv]) ∧ w'.ownsRow w.heap.size 3 1 kv 64 (iv (kc 64)) ∧ w'.ownsRow w.heap.size 3 1 hv 8 (iv (hc 8)) ∧ kv.ownBlock ≠ hv.ownBlock ∧ Below w.heap.size w w' := by
  obtain ⟨i0, hi0, hz0, hz1, hz2⟩ := info_parts infoInt
  go_enter Tryz.func64, Tryz.ntmps64
  go_wp2_with fail
  refine (primes64 w).mono ?_
  rintro e w1 ⟨v, rfl, hown, hbl⟩
  have hsz1 := hbl.size
  rcases own_open hown with ⟨-, hnil⟩ | ⟨g, cap, rfl, hBg, -, hcell⟩
  · have := prs_all
    rw [hnil] at this
    cases this
  have hg1 : g < w1.heap.size := (hown.lt g rfl).2
  have HC : Hid (∀ j (hj : j < (prs 310).length), w1.cell? ⟨g, j, none⟩ = some (.int .i64 ((prs 310)[j] : Int))) := hcell
  have HBL : Hid (Below w.heap.size w w1) := hbl
  clear hcell hown hbl
  go_wp2
  go_loopw [3, 5] (fun kv ci wr => ∃ i : Nat, i ≤ 64 ∧ ci = .int .i64 i ∧ Hid (wr.ownsRow w1.heap.size 3 1 kv i (iv (kc i))) ∧ Hid (Below w1.heap.size w1 wr)) (fun _ i _ => 64 - (intOf i).toNat)
  case atStart => exact ⟨0, by omega, rfl, World.ownsRow_nil _ _ _ _, Below.refl _ _⟩
  case round =>
    obtain ⟨i, hi, rfl, HK, HB⟩ := hrel
    by_cases hlt : i < 64
    · have hip : i < (prs 310).length := by rw [prs_all]; exact hlt
      obtain ⟨p, hp⟩ : ∃ p, p = (prs 310)[i] := ⟨_, rfl⟩
      have hpr : 2 ≤ p ∧ p ≤ 310 + 1 := by rw [hp]; exact prs_range 310 _ (List.getElem_mem _)
      have cp : wr.cell? ⟨g, i, none⟩ = some (.int .i64 (p : Int)) := by rw [hp]; exact cell_later' HB.out (HC.out i hip) hg1
      have HP : Hid (p = (prs 310)[i]) := hp
      clear hp
      go_wp2_with fail
      refine (root3 p _ (by omega) (by omega)).mono ?_
      rintro e w2 ⟨rfl, hb2⟩
      obtain ⟨r, hr⟩ : ∃ r, r = rootN p 3 := ⟨_, rfl⟩
      rw [← hr]
      have HR : Hid (r = rootN p 3) := hr
      clear hr cp
      have HK2 : Hid (w2.ownsRow w1.heap.size 3 1 u3 i (iv (kc i))) := own_on HK.out hb2 (Nat.le_refl _)
      have HB2 : Hid (Below w1.heap.size w1 w2) := HB.out.trans (hb2.mono HB.out.size)
      clear hb2 HK HB
      go_wp2_with (at_builtin; refine wpList_append_own_at _ rfl _ _ 34 rfl w1.heap.size 3 i0 (.int .i64 0) 1 8 Tryz.underlying34 hi0 hz0 hz1 hz2 rfl (by decide) _ _ _ rfl (World.ownsRow.alloc HK2.out _) _ 1 1 [.int .i64 (r : Int)] rfl rfl (cell_one_new _ _ _) ?c2 ?c3 ?c4 ?c5 ?_)
      case c2 => intro u hu; rw [List.mem_singleton] at hu; subst hu; rfl
      case c3 => unfold maxLen; omega
      case c4 => omega
      case c5 => have := HB2.out.size; simp; omega
      intro v' w3 hown' hgrow _ _
      have HK3 : Hid (w3.ownsRow w1.heap.size 3 1 v' (i + 1) (iv (kc i) ++ [.int .i64 (r : Int)])) := hown'
      have HB3 : Hid (Below w1.heap.size w1 w3) := (HB2.out.alloc HB2.out.size _).grown hgrow (by have := HB2.out.size; simp; omega) (own_base_of HK2.out)
      clear hown' hgrow
      go_wp2
      go_roundw
      case rel =>
        refine ⟨i + 1, by omega, by go_num, ?_, HB3⟩
        show World.ownsRow _ _ _ _ _ _ _
        rw [kc_succ i hip, iv_append, ← HP.out, ← HR.out]
        exact HK3.out
      case measure => (simp [intOf]; try omega)
    · have hi64 : i = 64 := by omega
      obtain ⟨i1, hi1⟩ : ∃ i1, i1 = i := ⟨_, rfl⟩
      subst hi1
      have HK64 : Hid (wr.ownsRow w1.heap.size 3 1 u3 64 (iv (kc 64))) := by
        have h := HK.out
        rw [hi64] at h
        exact h
      clear HK hi64
      obtain ⟨wk, hwk⟩ : ∃ wk, wk = wr := ⟨_, rfl⟩
      subst hwk
      have hszk := HB.out.size
      go_wp2
      go_loopw [4, 7] (fun hv ci wr' => ∃ i : Nat, i ≤ 8 ∧ ci = .int .i64 i ∧ Hid (wr'.ownsRow wk.heap.size 3 1 hv i (iv (hc i))) ∧ Hid (Below wk.heap.size wk wr')) (fun _ i _ => 8 - (intOf i).toNat)
      case atStart => exact ⟨0, by omega, rfl, World.ownsRow_nil _ _ _ _, Below.refl _ _⟩
      case round =>
        have HBk := HB
        have HKk := HK64
        clear HB HK64
        obtain ⟨i, hi, rfl, HK, HB⟩ := hrel
        by_cases hlt : i < 8
        · have hip : i < (prs 310).length := by rw [prs_all]; omega
          obtain ⟨p, hp⟩ : ∃ p, p = (prs 310)[i] := ⟨_, rfl⟩
          have hpr : 2 ≤ p ∧ p ≤ 310 + 1 := by rw [hp]; exact prs_range 310 _ (List.getElem_mem _)
          have cp : wr.cell? ⟨g, i, none⟩ = some (.int .i64 (p : Int)) := by
            rw [hp]
            exact cell_later' HB.out (cell_later' HBk.out (HC.out i hip) hg1) (by show g < _; omega)
          have HP : Hid (p = (prs 310)[i]) := hp
          clear hp
          go_wp2_with fail
          refine (root2 p _ (by omega) (by omega)).mono ?_
          rintro e w2 ⟨rfl, hb2⟩
          obtain ⟨r, hr⟩ : ∃ r, r = rootN p 2 := ⟨_, rfl⟩
          rw [← hr]
          have HR : Hid (r = rootN p 2) := hr
          clear hr cp
          have HK2 : Hid (w2.ownsRow wk.heap.size 3 1 u4 i (iv (hc i))) := own_on HK.out hb2 (Nat.le_refl _)
          have HB2 : Hid (Below wk.heap.size wk w2) := HB.out.trans (hb2.mono HB.out.size)
          clear hb2 HK HB
          go_wp2_with (at_builtin; refine wpList_append_own_at _ rfl _ _ 34 rfl wk.heap.size 3 i0 (.int .i64 0) 1 8 Tryz.underlying34 hi0 hz0 hz1 hz2 rfl (by decide) _ _ _ rfl (World.ownsRow.alloc HK2.out _) _ 1 1 [.int .i64 (r : Int)] rfl rfl (cell_one_new _ _ _) ?d2 ?d3 ?d4 ?d5 ?_)
          case d2 => intro u hu; rw [List.mem_singleton] at hu; subst hu; rfl
          case d3 => unfold maxLen; omega
          case d4 => omega
          case d5 => have := HB2.out.size; simp; omega
          intro v' w3 hown' hgrow _ _
          have HK3 : Hid (w3.ownsRow wk.heap.size 3 1 v' (i + 1) (iv (hc i) ++ [.int .i64 (r : Int)])) := hown'
          have HB3 : Hid (Below wk.heap.size wk w3) := (HB2.out.alloc HB2.out.size _).grown hgrow (by have := HB2.out.size; simp; omega) (own_base_of HK2.out)
          clear hown' hgrow
          go_wp2
          go_roundw
          case rel =>
            refine ⟨i + 1, by omega, by go_num, ?_, HB3⟩
            show World.ownsRow _ _ _ _ _ _ _
            rw [hc_succ i hip, iv_append, ← HP.out, ← HR.out]
            exact HK3.out
          case measure => (simp [intOf]; try omega)
        · have hi8 : i = 8 := by omega
          subst hi8
          go_wp2
          go_ret2
          refine ⟨_, _, rfl, ?_, ?_, ?_, ?_⟩
          · exact own_base (own_on HKk.out HB.out (Nat.le_refl _)) hsz1
          · exact own_base HK.out (by omega)
          · obtain ⟨a, ha, _, ha2⟩ := own_block HKk.out (by omega)
            obtain ⟨b, hb, hb1, _⟩ := own_block HK.out (by omega)
            intro h
            have h' := ha.symm.trans (h.trans hb)
            cases h'
            omega
          · exact HBL.out.trans ((HBk.out.trans (HB.out.mono hszk)).mono hsz1)

theorem maker_any (w : World) :
    Calls Tryz.prog 39 #[] w fun e w' => ∃ b kv hv, e = .returned (.pointer (some ⟨b, 0, none⟩)) ∧ w.heap.size ≤ b ∧ w'.heap[b]? = some (.cells #[kv, hv] 142 (0, 0)) ∧ w'.ownsRow w.heap.size 3 1 kv 64 (iv (kc 64)) ∧ w'.ownsRow w.heap.size 3 1 hv 8 (iv (hc 8)) ∧ kv.ownBlock ≠ hv.ownBlock ∧ kv.ownBlock ≠ some b ∧ hv.ownBlock ≠ some b ∧ Below w.heap.size w w' := by
  go_enter Tryz.func39, Tryz.ntmps39
  go_wp2_with fail
  refine (constants_any w).mono ?_
  rintro e w1 ⟨kv, hv, rfl, hk, hh, hne, hbl⟩
  have HK : Hid (w1.ownsRow w.heap.size 3 1 kv 64 (iv (kc 64))) := hk
  have HH : Hid (w1.ownsRow w.heap.size 3 1 hv 8 (iv (hc 8))) := hh
  have HN : Hid (kv.ownBlock ≠ hv.ownBlock) := hne
  have HBL : Hid (Below w.heap.size w w1) := hbl
  have hl1 : (kc 64).length = 64 := by unfold kc; rw [List.length_map, List.length_take, prs_all]; rfl
  have hl2 : (hc 8).length = 8 := by unfold hc; rw [List.length_map, List.length_take, prs_all]; rfl
  rcases own_open hk with ⟨-, h0⟩ | ⟨g1, c1, rfl, -, -, -⟩
  · rw [h0] at hl1; cases hl1
  rcases own_open hh with ⟨-, h0⟩ | ⟨g2, c2, rfl, -, -, -⟩
  · rw [h0] at hl2; cases hl2
  clear hk hh hne hbl hl1 hl2
  go_wp2
  go_ret
  obtain ⟨a, ha, _, ha2⟩ := own_block HK.out (by omega)
  obtain ⟨b, hb, _, hb2⟩ := own_block HH.out (by omega)
  refine ⟨w1.heap.size, _, _, rfl, HBL.out.size, ?_, HK.out.alloc _, HH.out.alloc _, HN.out, ?_, ?_, HBL.out.alloc HBL.out.size _⟩
  · show (w1.heap.push _)[w1.heap.size]? = _
    rw [Array.getElem?_push_size]
  · rw [ha]; intro h; cases h; omega
  · rw [hb]; intro h; cases h; omega
end Go.Proofs.YtbnokhdofkpcjaaGreatDoor
