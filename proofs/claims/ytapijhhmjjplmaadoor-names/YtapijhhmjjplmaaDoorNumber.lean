/- OWN TEXT: plain.number at each of the twelve reasons, bare and in a *Fault: the walks. -/
import Derived.Test.YtapijhhmjjplmaaDoorNum
namespace Go.Proofs.YtapijhhmjjplmaaDoor
open Go.RowKit Go.Extern.Stop Go.Stop Go.Extern

set_option maxHeartbeats 1000000 in
theorem number_bare (k : Nat) (hk : k < 12) (a : Nat → Addr) (w : World) (S : Sent w a) :
    Calls Tryd.prog 5 #[rv (a k)] w fun e w' => e = .returned (.tuple #[.int .i64 ((k : Int) + 1), .int .i64 (-1)]) ∧ Below w.heap.size w w' := by
  have q0 := S.v0
  have q1 := S.v1
  have q2 := S.v2
  have q3 := S.v3
  have q4 := S.v4
  have q5 := S.v5
  have q6 := S.v6
  have q7 := S.v7
  have q8 := S.v8
  have q9 := S.v9
  have q10 := S.v10
  have q11 := S.v11
  go_enter Tryd.func5, Tryd.ntmps5
  go_wp2
  go_loopw [4, 24] (fun n i wr => ∃ m : Nat, m ≤ 12 ∧ i = .int .i64 m ∧ (m ≤ k ∧ n = .int .i64 0 ∨ k < m ∧ n = .int .i64 ((k : Int) + 1)) ∧ Below w.heap.size w wr ∧ w.heap.size < wr.heap.size ∧ ∀ j, j < 12 → wr.cell? ⟨w.heap.size, j, none⟩ = some (rv (a j)))
    (fun _ i _ => 12 - (intOf i).toNat)
  case atStart =>
    refine ⟨0, by omega, rfl, .inl ⟨by omega, rfl⟩, (Below.refl _ _).alloc (by omega) _, by simp, fun j hj => ?_⟩
    rw [World.cell?_alloc_at _ _ _ _ rfl]
    exact reasons_at a j hj
  case round =>
    obtain ⟨m, hm, rfl, hn, hb, hsz, hc⟩ := hrel
    by_cases hlt : m < 12
    · have hcm := hc m hlt
      by_cases hmk : m = k
      · subst hmk
        obtain ⟨_, rfl⟩ : m ≤ m ∧ u4 = .int .i64 0 := by
          rcases hn with h | h
          · exact h
          · omega
        clear hn
        go_wp2_with (go_at_call 6; refine (is_same _ _).mono ?_; rintro e w' ⟨rfl, rfl⟩)
        go_roundw
        case rel => exact ⟨m + 1, by omega, by go_num, .inr ⟨by omega, rfl⟩, hb, hsz, hc⟩
        case measure => simp [intOf]; omega
      · obtain ⟨c1, t1, hr1⟩ := (S.on hb).row k hk
        obtain ⟨c2, t2, hr2⟩ := (S.on hb).row m hlt
        have hne : a k ≠ a m := S.inj k m hk hlt (Ne.symm hmk)
        go_wp2_with (go_at_call 6; refine (is_other (a k) (a m) c1 c2 t1 t2 _ hne hr1 hr2).mono ?_; rintro e w' ⟨rfl, rfl⟩)
        go_roundw
        case rel =>
          refine ⟨m + 1, by omega, by go_num, ?_, hb, hsz, hc⟩
          rcases hn with h | h
          · exact .inl ⟨by omega, h.2⟩
          · exact .inr ⟨by omega, h.2⟩
        case measure => simp [intOf]; omega
    · obtain ⟨_, rfl⟩ : k < m ∧ u4 = .int .i64 ((k : Int) + 1) := by
        rcases hn with h | h
        · omega
        · exact h
      clear hn hc
      have hty := ((S.on hb).on ((Below.refl _ _).alloc (by omega) (.cells #[.pointer none] 28))).ty
      have hz : ((k : Int) + 1 == 0) = false := by simp; omega
      go_wp2_with (go_at_call 7; refine (as_miss2 _ _ _ hty).mono ?_; rintro e w' ⟨rfl, hw⟩)
      go_ret2
      refine ⟨rfl, hb.trans ?_⟩
      exact (((Below.refl wr.heap.size wr).alloc (Nat.le_refl _) _).trans (hw.mono (by simp))).mono (by omega)

set_option maxHeartbeats 1000000 in
theorem number_fault (k : Nat) (hk : k < 12) (a : Nat → Addr) (pb : Nat) (at_ : Int) (w : World) (S : Sent w a) (hat : w.cell? ⟨pb, 0, none⟩ = some (.int .i64 at_)) (her : w.cell? ⟨pb, 1, none⟩ = some (rv (a k))) :
    Calls Tryd.prog 5 #[.iface 28 (.pointer (some ⟨pb, 0, none⟩))] w fun e w' => e = .returned (.tuple #[.int .i64 ((k : Int) + 1), .int .i64 at_]) ∧ Below w.heap.size w w' := by
  have q0 := S.v0
  have q1 := S.v1
  have q2 := S.v2
  have q3 := S.v3
  have q4 := S.v4
  have q5 := S.v5
  have q6 := S.v6
  have q7 := S.v7
  have q8 := S.v8
  have q9 := S.v9
  have q10 := S.v10
  have q11 := S.v11
  have hpb : pb < w.heap.size := cell_lt hat
  go_enter Tryd.func5, Tryd.ntmps5
  go_wp2
  go_loopw [4, 24] (fun n i wr => ∃ m : Nat, m ≤ 12 ∧ i = .int .i64 m ∧ (m ≤ k ∧ n = .int .i64 0 ∨ k < m ∧ n = .int .i64 ((k : Int) + 1)) ∧ Below w.heap.size w wr ∧ w.heap.size < wr.heap.size ∧ ∀ j, j < 12 → wr.cell? ⟨w.heap.size, j, none⟩ = some (rv (a j)))
    (fun _ i _ => 12 - (intOf i).toNat)
  case atStart =>
    refine ⟨0, by omega, rfl, .inl ⟨by omega, rfl⟩, (Below.refl _ _).alloc (by omega) _, by simp, fun j hj => ?_⟩
    rw [World.cell?_alloc_at _ _ _ _ rfl]
    exact reasons_at a j hj
  case round =>
    obtain ⟨m, hm, rfl, hn, hb, hsz, hc⟩ := hrel
    have hat' := cell_on hb hat hpb
    have her' := cell_on hb her hpb
    by_cases hlt : m < 12
    · have hcm := hc m hlt
      by_cases hmk : m = k
      · subst hmk
        obtain ⟨_, rfl⟩ : m ≤ m ∧ u4 = .int .i64 0 := by
          rcases hn with h | h
          · exact h
          · omega
        clear hn
        go_wp2_with (go_at_call 6; refine (is_wrap_same pb 0 _ _ her').mono ?_; rintro e w' ⟨rfl, rfl⟩)
        go_roundw
        case rel => exact ⟨m + 1, by omega, by go_num, .inr ⟨by omega, rfl⟩, hb, hsz, hc⟩
        case measure => simp [intOf]; omega
      · obtain ⟨c1, t1, hr1⟩ := (S.on hb).row k hk
        obtain ⟨c2, t2, hr2⟩ := (S.on hb).row m hlt
        have hne : a k ≠ a m := S.inj k m hk hlt (Ne.symm hmk)
        go_wp2_with (go_at_call 6; refine (is_wrap_other pb 0 (a m) (a k) c1 c2 t1 t2 _ her' hne hr1 hr2).mono ?_; rintro e w' ⟨rfl, rfl⟩)
        go_roundw
        case rel =>
          refine ⟨m + 1, by omega, by go_num, ?_, hb, hsz, hc⟩
          rcases hn with h | h
          · exact .inl ⟨by omega, h.2⟩
          · exact .inr ⟨by omega, h.2⟩
        case measure => simp [intOf]; omega
    · obtain ⟨_, rfl⟩ : k < m ∧ u4 = .int .i64 ((k : Int) + 1) := by
        rcases hn with h | h
        · omega
        · exact h
      clear hn hc
      have hty := ((S.on hb).on ((Below.refl _ _).alloc (by omega) (.cells #[.pointer none] 28))).ty
      have hz : ((k : Int) + 1 == 0) = false := by simp; omega
      have hnew : (wr.alloc (.cells #[.pointer none] 28)).cell? ⟨wr.heap.size, 0, none⟩ = some (.pointer none) := by simp
      have hfro : (wr.alloc (.cells #[.pointer none] 28)).frozen? ⟨wr.heap.size, 0, none⟩ = false := by simp
      have hp2 : pb < wr.heap.size := Nat.lt_trans hpb hsz
      have hbA := (Below.refl wr.heap.size wr).alloc (Nat.le_refl _) (.cells #[.pointer none] 28)
      go_wp2_with fail
      refine (as_hit2 _ _ (.pointer none) _ hty hnew hfro).mono ?_
      rintro e w' ⟨rfl, hw, hcl⟩
      have hbW : Below wr.heap.size wr w' := hbA.trans hw
      have hat2 : w'.cell? ⟨pb, 0, none⟩ = some (.int .i64 at_) := cell_on hbW hat' hp2
      have HB : Hid (Below w.heap.size w w') := hb.trans (hbW.mono (by omega))
      clear hbW hw hbA hb hat' her' hty hnew hfro q0 q1 q2 q3 q4 q5 q6 q7 q8 q9 q10 q11 hat her
      go_wp2
      go_quiet (fail)
      all_goals (try go_wp2)
      all_goals go_ret2
      all_goals exact ⟨rfl, HB.out.trans ⟨rfl, rfl, rfl, Nat.le_refl _, fun _ _ => rfl⟩⟩
end Go.Proofs.YtapijhhmjjplmaaDoor
