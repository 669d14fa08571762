/- OWN TEXT: the law's steps of Disks: (*World).step on a pair. -/
import Derived.Test.YtphhmjcobmnpeaaGreatDoorLS2
namespace Go.Proofs.YtphhmjcobmnpeaaGreatDoor
open Go.RowKit Go.Maps

theorem DInvV.left {w W : World} {i b : Nat} {kv av : Value} {ks : List Int} {l : List PairD} {left : Int} {o : Nat → Nat} (h : DInvV w i W b kv ks av l left o) : W.cell? ⟨w.heap.size, 5, none⟩ = some (.int .i64 left) := by
  rw [cell_of_row _ _ _ _ _ _ h.row]; rfl

set_option maxRecDepth 100000 in
set_option maxHeartbeats 4000000 in
theorem step_pair (w W : World) (a : Nat → Addr) (S0 : Sent w a) (i : Nat) (hi : i ≤ 300000) (x : Stp) (hx : x.kind = 4 ∨ x.kind = 5 ∨ x.kind = 6 ∨ x.kind = 7 ∨ x.kind = 9 ∨ x.kind = 10 ∨ x.kind = 11) (hra : inR x.a) (hrd : inR x.d) (I : DInv w i W)
    (hL : ∃ n : Int, 0 < n ∧ W.cell? ⟨w.heap.size, 5, none⟩ = some (.int .i64 n)) :
    Calls Tryz.prog 17 #[.pointer (some ⟨w.heap.size, 0, none⟩), stpV x] W fun e W' => e = .returned (.bool true) ∧ DInv w (i + 1) W' := by
  obtain ⟨b, kv, ks, av, l, left, o, I⟩ := I
  have hl0 : 0 < left := by
    obtain ⟨n, h1, h2⟩ := hL
    rw [I.left] at h2
    cases h2
    exact h1
  have HD : Hid (∀ V, Below W.heap.size W V → ∀ k, k < l.length → ∀ g cap, av = .slice (some ⟨g, 0, none⟩) l.length cap → Calls Tryz.prog 33 #[.pointer (some ⟨w.heap.size, 0, none⟩), .pointer (some ⟨g, k * 4, none⟩), stpV x] V fun e W' => e = .returned (.bool true) ∧ Hid (DInv w (i + 1) W')) := fun V hV k hk g cap hav => ldisk_any S0 (I.mono hV) hk hi hl0 x hx hra g cap hav
  obtain ⟨kd, xa, xb, xd, xs, xt⟩ := x
  simp only at hx hrd
  obtain ⟨W1, hW1⟩ : ∃ W1, W1 = W.alloc (.cells #[.int .i64 kd, .int .i64 xa, .int .i64 xb, .int .i64 xd, .string xs, .string xt] 40) := ⟨_, rfl⟩
  have hb1 : Below W.heap.size W W1 := by rw [hW1]; exact (Below.refl _ _).alloc (Nat.le_refl _) _
  have I1 := I.mono hb1
  have c2 : W1.cell? ⟨w.heap.size, 2, none⟩ = some av := by rw [cell_of_row _ _ _ _ _ _ I1.row]; rfl
  have d3 : W1.cell? ⟨W.heap.size, 3, none⟩ = some (.int .i64 xd) := by rw [hW1]; simp
  have d0 : W1.cell? ⟨W.heap.size, 0, none⟩ = some (.int .i64 kd) := by rw [hW1]; simp
  have d1 : W1.cell? ⟨W.heap.size, 1, none⟩ = some (.int .i64 xa) := by rw [hW1]; simp
  have d2 : W1.cell? ⟨W.heap.size, 2, none⟩ = some (.int .i64 xb) := by rw [hW1]; simp
  have d4 : W1.cell? ⟨W.heap.size, 4, none⟩ = some (.string xs) := by rw [hW1]; simp
  have d5 : W1.cell? ⟨W.heap.size, 5, none⟩ = some (.string xt) := by rw [hW1]; simp
  by_cases h0 : l.length = 0
  · obtain ⟨ao, c, rfl⟩ := own_shape I1.all
    rw [h0] at c2
    have HF : Hid (DInv w (i + 1) W1) := ⟨b, kv, ks, _, l, left, o, I1.succ⟩
    clear I1 I hL HD hb1 d3 d0 d1 d2 d4 d5 hrd hra
    rw [hW1] at c2 HF
    clear hW1
    rcases hx with rfl | rfl | rfl | rfl | rfl | rfl | rfl
    all_goals
      go_enter Tryz.func17, Tryz.ntmps17
      go_wp2
      go_ret
      exact ⟨rfl, HF.out⟩
  · obtain ⟨g, cap, hav, -, -⟩ := I1.duo (k := 0) (by omega)
    have hn := I.al
    obtain ⟨n, hn'⟩ : ∃ n, n = l.length := ⟨_, rfl⟩
    have HP : Hid (∀ V, Calls Tryz.prog 32 #[.int .i64 xd, .int .i64 (n : Int)] V fun e w' => (∃ k : Nat, k < n ∧ e = .returned (.int .i64 (k : Int))) ∧ V = w') := fun V => pick_any xd n V hrd (by omega) (by omega)
    have HE : Hid (∀ k, k < n → Calls Tryz.prog 33 #[.pointer (some ⟨w.heap.size, 0, none⟩), .pointer (some ⟨g, k * 4, none⟩), .agg #[.int .i64 kd, .int .i64 xa, .int .i64 xb, .int .i64 xd, .string xs, .string xt]] W1.drew fun e W' => e = .returned (.bool true) ∧ Hid (DInv w (i + 1) W')) := fun k hk => HD.out W1.drew hb1.drew k (by omega) g cap hav
    rw [hav, ← hn'] at c2
    have hn0 : ((n : Int) == 0) = false := by simp; omega
    have hnb : (n : Int) ≤ 300000 := by omega
    clear I1 I hL HD hb1 hrd hra hav hn' h0 hn
    rcases hx with rfl | rfl | rfl | rfl | rfl | rfl | rfl
    all_goals
      go_enter Tryz.func17, Tryz.ntmps17
      rw [hW1] at c2
      go_wp2
      rw [← hW1] at c2 ⊢
      clear hW1
      go_region_held3 (fun w' => w'.cell? ⟨w.heap.size, 2, none⟩ = some (.slice (some ⟨g, 0, none⟩) n cap) ∧ w'.cell? ⟨W.heap.size, 3, none⟩ = some (.int .i64 xd)) (((repeat' constructor) <;> first | assumption | (rw [World.cell?_drew]; assumption))) (first | (go_at_call 32; refine (HP.out _).mono ?_; rintro e w' ⟨⟨k, hk, rfl⟩, rfl⟩; have hk0 : (0 : Int) ≤ k := Int.natCast_nonneg k; have hk1 : (k : Int) < n := Int.ofNat_lt.2 hk))
      go_wp2_with (go_at_call 33; refine (HE.out k hk).mono ?_; rintro e W3 ⟨rfl, H3⟩)
      go_ret
      exact ⟨rfl, H3.out⟩
end Go.Proofs.YtphhmjcobmnpeaaGreatDoor
