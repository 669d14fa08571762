/- OWN TEXT: the reference's 'below'. -/
import Derived.Test.YtapijhhmjjplmaaGreatDoorTimes
namespace Go.Proofs.YtapijhhmjjplmaaGreatDoor
open Go.RowKit

/-- Is (whole + t / 2^32)^k at most p? (pt: 2 k.) -/
def belowB (whole t p k pt : Nat) : Bool := decide ((whole * 4294967296 + t) ^ k ≤ p * 65536 ^ pt)

set_option maxRecDepth 100000 in
set_option maxHeartbeats 1000000 in
theorem below2 (whole t p : Nat) (w : World) (hw : whole < 65536) (ht : t < 4294967296) :
    Calls Tryz.prog 181 #[.int .i64 (whole : Int), .int .i64 (t : Int), .int .i64 (p : Int), .int .i64 2] w fun e w' =>
      e = .returned (.bool (belowB whole t p 2 4)) ∧ Below w.heap.size w w' := by
  have hti : (t : Int) < 4294967296 := by omega
  have HT : Hid (t < 4294967296) := ht
  clear ht
  have R0 : Row (w.alloc (.cells #[.int .i64 ((t : Int) % 65536), .int .i64 ((t : Int) / 65536), .int .i64 (whole : Int)] 3)) w.heap.size (ints [t % 65536, t / 65536, whole]) :=
    Row.new [(t : Int) % 65536, (t : Int) / 65536, (whole : Int)] 3
  have hdig : ∀ d ∈ [t % 65536, t / 65536, whole], d < 65536 := by
    have := HT.out
    intro d hd
    simp only [List.mem_cons, List.not_mem_nil, or_false] at hd
    omega
  have hal := (Below.refl w.heap.size w).alloc (Nat.le_refl _) (.cells #[.int .i64 ((t : Int) % 65536), .int .i64 ((t : Int) / 65536), .int .i64 (whole : Int)] 3)
  go_enter Tryz.func181, Tryz.ntmps181
  go_wp2_with fail
  refine (times_any w.heap.size w.heap.size 3 3 3 3 _ _ _ R0 R0 hdig hdig (show List.length _ = 3 from rfl) (show List.length _ = 3 from rfl) (by omega) (by omega)).mono ?_
  rintro e w1 ⟨c1, hl1, hd1, hv1, rfl, hr1, hb1⟩
  have hbW : Below w.heap.size w w1 := hal.trans (hb1.mono (by simp))
  generalize hcc : c1 = c at *
  have HV : Hid (dv c = (whole * 4294967296 + t) ^ 2) := by
    show dv c = _
    rw [hv1, dv3, Nat.pow_succ, Nat.pow_one]
  have hrow : Row w1 (w.heap.size + 1) (ints c) := by simpa using hr1
  have hd := hd1
  have hl := hl1
  clear hv1 hd1 hl1 hr1 hal hb1 R0 hcc
  have HD : Hid (∀ d ∈ c, d < 65536) := hd
  have HL : Hid (c.length = 6) := hl
  clear hd hl hdig
  go_wp2
  go_loop [12, 13, 14] (fun n r i => ∃ m n0 r0 : Nat, m ≤ 6 ∧ i = .int .i64 ((m : Int) - 1) ∧ n = .int .i64 (n0 : Int) ∧ r = .int .i64 (r0 : Int) ∧ Hid (n0 = dv (c.drop (max m 4))) ∧ Hid (r0 = ((c.take 4).drop m).sum)) (fun _ _ i => (intOf i + 1).toNat)
  case atStart =>
    refine ⟨6, 0, 0, by omega, rfl, rfl, rfl, ?_, ?_⟩
    · show 0 = _
      rw [List.drop_of_length_le (by rw [HL.out]; decide)]; rfl
    · show 0 = _
      rw [List.drop_of_length_le (by rw [List.length_take]; omega)]; rfl
  case round =>
    obtain ⟨m, n0, r0, hm, rfl, rfl, rfl, hn, hr⟩ := hrel
    by_cases hm0 : 0 < m
    · obtain ⟨m, rfl⟩ : ∃ m', m = m' + 1 := ⟨m - 1, by omega⟩
      have hmc : m < c.length := by have := HL.out; omega
      obtain ⟨x, hx⟩ : ∃ x, x = c[m] := ⟨_, rfl⟩
      have hx1 : x < 65536 := by rw [hx]; exact HD.out _ (List.getElem_mem _)
      have cx : w1.cell? ⟨(w.heap.size + 1), m, none⟩ = some (.int .i64 (x : Int)) := by rw [hx]; exact row_at hrow m hmc
      have HX : Hid (x = c[m]) := hx
      clear hx
      have em : ((m + 1 : Nat) : Int) - 1 = (m : Int) := by omega
      rw [em]
      clear em
      by_cases hmp : 4 ≤ m
      · have hn1 : (n0 : Int) ≤ 4294967295 := by
          have h1 := dv_drop_lt c HD.out (m + 1) (by have := HL.out; omega)
          have h2 := hn.out
          rw [Nat.max_eq_left (by omega)] at h2
          omega
        clear HL HD HV HT hti hw hbW hrow
        go_wp2
        go_round
        case rel =>
          refine ⟨m, x + 65536 * n0, r0, by omega, by go_num, ?_, rfl, ?_, ?_⟩
          · have e : ((x + 65536 * n0 : Nat) : Int) = 65536 * (n0 : Int) + (x : Int) := by omega
            rw [e]
          · show _ = _
            have h2 := hn.out
            rw [Nat.max_eq_left (by omega)] at h2
            rw [Nat.max_eq_left hmp, dv_drop c m hmc, ← HX.out, h2]
          · show _ = _
            rw [hr.out, List.drop_of_length_le (by rw [List.length_take]; omega), List.drop_of_length_le (by rw [List.length_take]; omega)]
        case measure => (simp [intOf]; try omega)
      · have hr1 : r0 ≤ 393210 := by rw [hr.out]; exact sum_drop_lt c HD.out 4 (m + 1) (by omega)
        have hle : 4 ≤ c.length := by have := HL.out; omega
        clear HL HD HV HT hti hw hbW hrow
        go_wp2
        go_round
        case rel =>
          refine ⟨m, n0, x + r0, by omega, by go_num, rfl, ?_, ?_, ?_⟩
          · have e : ((x + r0 : Nat) : Int) = (r0 : Int) + (x : Int) := by omega
            rw [e]
          · show _ = _
            rw [hn.out, Nat.max_eq_right (by omega), Nat.max_eq_right (by omega)]
          · show _ = _
            rw [hr.out, sum_drop c 4 m (by omega) hle, ← HX.out]
        case measure => (simp [intOf]; try omega)
    · have hm1 : m = 0 := by omega
      subst hm1
      have hfin := below_iff c 4 p HD.out (by rw [HL.out]; decide)
      have h1 := hn.out
      have h2 := hr.out
      rw [Nat.max_eq_right (by omega)] at h1
      rw [List.drop_zero] at h2
      rw [← h1, ← h2, HV.out] at hfin
      have HF : Hid ((n0 < p ∨ n0 = p ∧ r0 = 0) ↔ (whole * 4294967296 + t) ^ 2 ≤ p * 65536 ^ 4) := hfin
      clear hfin h1 h2 hn hr HL HD HV HT hrow
      by_cases q1 : n0 < p
      · have hres : belowB whole t p 2 4 = true := decide_eq_true (HF.out.1 (.inl q1))
        have HR : Hid (belowB whole t p 2 4 = true) := hres
        clear hres HF
        go_wp2
        go_ret
        exact ⟨by rw [HR.out]; rfl, hbW⟩
      · by_cases q2 : n0 = p
        · by_cases q3 : r0 = 0
          · have HR : Hid (belowB whole t p 2 4 = true) := decide_eq_true (HF.out.1 (.inr ⟨q2, q3⟩))
            have b1 : ((n0 : Int) == (p : Int)) = true := by rw [q2]; exact beq_self_eq_true _
            have b2 : ((r0 : Int) == 0) = true := by rw [q3]; rfl
            clear q2 q3 HF
            go_wp2
            go_ret
            exact ⟨by rw [HR.out]; rfl, hbW⟩
          · have HR : Hid (belowB whole t p 2 4 = false) := decide_eq_false fun h => by
              rcases HF.out.2 h with h | h
              · exact q1 h
              · exact q3 h.2
            have b1 : ((n0 : Int) == (p : Int)) = true := by rw [q2]; exact beq_self_eq_true _
            have b2 : ((r0 : Int) == 0) = false := by rw [beq_eq_false_iff_ne]; omega
            clear q2 q3 HF
            go_wp2
            go_ret
            exact ⟨by rw [HR.out]; rfl, hbW⟩
        · have HR : Hid (belowB whole t p 2 4 = false) := decide_eq_false fun h => by
            rcases HF.out.2 h with h | h
            · exact q1 h
            · exact q2 h.1
          have b1 : ((n0 : Int) == (p : Int)) = false := by rw [beq_eq_false_iff_ne]; omega
          clear q2 HF
          go_wp2
          go_ret
          exact ⟨by rw [HR.out]; rfl, hbW⟩

set_option maxRecDepth 100000 in
set_option maxHeartbeats 1000000 in
theorem below3 (whole t p : Nat) (w : World) (hw : whole < 65536) (ht : t < 4294967296) :
    Calls Tryz.prog 181 #[.int .i64 (whole : Int), .int .i64 (t : Int), .int .i64 (p : Int), .int .i64 3] w fun e w' =>
      e = .returned (.bool (belowB whole t p 3 6)) ∧ Below w.heap.size w w' := by
  have hti : (t : Int) < 4294967296 := by omega
  have HT : Hid (t < 4294967296) := ht
  clear ht
  have R0 : Row (w.alloc (.cells #[.int .i64 ((t : Int) % 65536), .int .i64 ((t : Int) / 65536), .int .i64 (whole : Int)] 3)) w.heap.size (ints [t % 65536, t / 65536, whole]) :=
    Row.new [(t : Int) % 65536, (t : Int) / 65536, (whole : Int)] 3
  have hdig : ∀ d ∈ [t % 65536, t / 65536, whole], d < 65536 := by
    have := HT.out
    intro d hd
    simp only [List.mem_cons, List.not_mem_nil, or_false] at hd
    omega
  have hal := (Below.refl w.heap.size w).alloc (Nat.le_refl _) (.cells #[.int .i64 ((t : Int) % 65536), .int .i64 ((t : Int) / 65536), .int .i64 (whole : Int)] 3)
  go_enter Tryz.func181, Tryz.ntmps181
  go_wp2_with fail
  refine (times_any w.heap.size w.heap.size 3 3 3 3 _ _ _ R0 R0 hdig hdig (show List.length _ = 3 from rfl) (show List.length _ = 3 from rfl) (by omega) (by omega)).mono ?_
  rintro e w1 ⟨c1, hl1, hd1, hv1, rfl, hr1, hb1⟩
  have R1 : Row w1 w.heap.size (ints [t % 65536, t / 65536, whole]) := R0.on hb1 (by simp)
  have hr1' : Row w1 (w.heap.size + 1) (ints c1) := by simpa using hr1
  have hbW1 : Below w.heap.size w w1 := hal.trans (hb1.mono (by simp))
  clear hr1 hal hb1 R0
  simp only [World.size_alloc]
  go_wp2_with fail
  refine (times_any (w.heap.size + 1) w.heap.size 6 3 6 3 _ _ _ hr1' R1 hd1 hdig hl1 (show List.length _ = 3 from rfl) (by omega) (by omega)).mono ?_
  rintro e w2 ⟨c, hl, hd, hv2, rfl, hrow, hb2⟩
  have hsz := hbW1.size
  have hbW : Below w.heap.size w w2 := hbW1.trans (hb2.mono hsz)
  have HV : Hid (dv c = (whole * 4294967296 + t) ^ 3) := by
    show dv c = _
    rw [hv2, hv1, dv3, Nat.pow_succ, Nat.pow_succ, Nat.pow_one]
  clear hv1 hv2 hd1 hl1 hr1' R1 hbW1 hb2 c1
  have HD : Hid (∀ d ∈ c, d < 65536) := hd
  have HL : Hid (c.length = 9) := hl
  clear hd hl hdig
  go_wp2
  go_loop [12, 13, 14] (fun n r i => ∃ m n0 r0 : Nat, m ≤ 9 ∧ i = .int .i64 ((m : Int) - 1) ∧ n = .int .i64 (n0 : Int) ∧ r = .int .i64 (r0 : Int) ∧ Hid (n0 = dv (c.drop (max m 6))) ∧ Hid (r0 = ((c.take 6).drop m).sum)) (fun _ _ i => (intOf i + 1).toNat)
  case atStart =>
    refine ⟨9, 0, 0, by omega, rfl, rfl, rfl, ?_, ?_⟩
    · show 0 = _
      rw [List.drop_of_length_le (by rw [HL.out]; decide)]; rfl
    · show 0 = _
      rw [List.drop_of_length_le (by rw [List.length_take]; omega)]; rfl
  case round =>
    obtain ⟨m, n0, r0, hm, rfl, rfl, rfl, hn, hr⟩ := hrel
    by_cases hm0 : 0 < m
    · obtain ⟨m, rfl⟩ : ∃ m', m = m' + 1 := ⟨m - 1, by omega⟩
      have hmc : m < c.length := by have := HL.out; omega
      obtain ⟨x, hx⟩ : ∃ x, x = c[m] := ⟨_, rfl⟩
      have hx1 : x < 65536 := by rw [hx]; exact HD.out _ (List.getElem_mem _)
      have cx : w2.cell? ⟨w1.heap.size, m, none⟩ = some (.int .i64 (x : Int)) := by rw [hx]; exact row_at hrow m hmc
      have HX : Hid (x = c[m]) := hx
      clear hx
      have em : ((m + 1 : Nat) : Int) - 1 = (m : Int) := by omega
      rw [em]
      clear em
      by_cases hmp : 6 ≤ m
      · have hn1 : (n0 : Int) ≤ 4294967295 := by
          have h1 := dv_drop_lt c HD.out (m + 1) (by have := HL.out; omega)
          have h2 := hn.out
          rw [Nat.max_eq_left (by omega)] at h2
          omega
        clear HL HD HV HT hti hw hbW hrow
        go_wp2
        go_round
        case rel =>
          refine ⟨m, x + 65536 * n0, r0, by omega, by go_num, ?_, rfl, ?_, ?_⟩
          · have e : ((x + 65536 * n0 : Nat) : Int) = 65536 * (n0 : Int) + (x : Int) := by omega
            rw [e]
          · show _ = _
            have h2 := hn.out
            rw [Nat.max_eq_left (by omega)] at h2
            rw [Nat.max_eq_left hmp, dv_drop c m hmc, ← HX.out, h2]
          · show _ = _
            rw [hr.out, List.drop_of_length_le (by rw [List.length_take]; omega), List.drop_of_length_le (by rw [List.length_take]; omega)]
        case measure => (simp [intOf]; try omega)
      · have hr1 : r0 ≤ 393210 := by rw [hr.out]; exact sum_drop_lt c HD.out 6 (m + 1) (by omega)
        have hle : 6 ≤ c.length := by have := HL.out; omega
        clear HL HD HV HT hti hw hbW hrow
        go_wp2
        go_round
        case rel =>
          refine ⟨m, n0, x + r0, by omega, by go_num, rfl, ?_, ?_, ?_⟩
          · have e : ((x + r0 : Nat) : Int) = (r0 : Int) + (x : Int) := by omega
            rw [e]
          · show _ = _
            rw [hn.out, Nat.max_eq_right (by omega), Nat.max_eq_right (by omega)]
          · show _ = _
            rw [hr.out, sum_drop c 6 m (by omega) hle, ← HX.out]
        case measure => (simp [intOf]; try omega)
    · have hm1 : m = 0 := by omega
      subst hm1
      have hfin := below_iff c 6 p HD.out (by rw [HL.out]; decide)
      have h1 := hn.out
      have h2 := hr.out
      rw [Nat.max_eq_right (by omega)] at h1
      rw [List.drop_zero] at h2
      rw [← h1, ← h2, HV.out] at hfin
      have HF : Hid ((n0 < p ∨ n0 = p ∧ r0 = 0) ↔ (whole * 4294967296 + t) ^ 3 ≤ p * 65536 ^ 6) := hfin
      clear hfin h1 h2 hn hr HL HD HV HT hrow
      by_cases q1 : n0 < p
      · have hres : belowB whole t p 3 6 = true := decide_eq_true (HF.out.1 (.inl q1))
        have HR : Hid (belowB whole t p 3 6 = true) := hres
        clear hres HF
        go_wp2
        go_ret
        exact ⟨by rw [HR.out]; rfl, hbW⟩
      · by_cases q2 : n0 = p
        · by_cases q3 : r0 = 0
          · have HR : Hid (belowB whole t p 3 6 = true) := decide_eq_true (HF.out.1 (.inr ⟨q2, q3⟩))
            have b1 : ((n0 : Int) == (p : Int)) = true := by rw [q2]; exact beq_self_eq_true _
            have b2 : ((r0 : Int) == 0) = true := by rw [q3]; rfl
            clear q2 q3 HF
            go_wp2
            go_ret
            exact ⟨by rw [HR.out]; rfl, hbW⟩
          · have HR : Hid (belowB whole t p 3 6 = false) := decide_eq_false fun h => by
              rcases HF.out.2 h with h | h
              · exact q1 h
              · exact q3 h.2
            have b1 : ((n0 : Int) == (p : Int)) = true := by rw [q2]; exact beq_self_eq_true _
            have b2 : ((r0 : Int) == 0) = false := by rw [beq_eq_false_iff_ne]; omega
            clear q2 q3 HF
            go_wp2
            go_ret
            exact ⟨by rw [HR.out]; rfl, hbW⟩
        · have HR : Hid (belowB whole t p 3 6 = false) := decide_eq_false fun h => by
            rcases HF.out.2 h with h | h
            · exact q1 h
            · exact q2 h.1
          have b1 : ((n0 : Int) == (p : Int)) = false := by rw [beq_eq_false_iff_ne]; omega
          clear q2 HF
          go_wp2
          go_ret
          exact ⟨by rw [HR.out]; rfl, hbW⟩
end Go.Proofs.YtapijhhmjjplmaaGreatDoor
