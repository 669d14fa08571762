/- OWN TEXT: the reference's disk: may, Read, Write. -/
import Derived.Test.YtphhmjcobmnpeaaGreatDoorDMem
import Derived.Test.YtphhmjcobmnpeaaGreatDoorArgs
namespace Go.Proofs.YtphhmjcobmnpeaaGreatDoor
open Go.RowKit

/-- What an operation leaves of the flags. -/
def RDsk.op (r : RDsk) : RDsk := if r.lit then { r with left := wrap64 (r.left - 1), down := r.down || decide (wrap64 (r.left - 1) ≤ 0) } else r
theorem op_not (r : RDsk) (h : r.lit = false) : r.op = r := by unfold RDsk.op; rw [h]; rfl
theorem op_lit (r : RDsk) (h : r.lit = true) : r.op = { r with left := wrap64 (r.left - 1), down := r.down || decide (wrap64 (r.left - 1) ≤ 0) } := by unfold RDsk.op; rw [h]; rfl

set_option maxRecDepth 100000 in
theorem ref_may (be : Nat) (S : Nat → Prop) (r : RDsk) (w : World) (h : RefAt w S be r) :
    Calls Tryz.prog 121 #[.pointer (some ⟨be, 0, none⟩)] w fun e w' => e = .returned (.bool (!r.op.down)) ∧ RefAt w' S be r.op ∧ Same S w w' := by
  obtain ⟨sv, nv, wv, h⟩ := h
  have c3 : w.cell? ⟨be, 3, none⟩ = some (.int .i64 r.left) := cell_of_row _ _ _ _ _ _ h.blk
  have c4 : w.cell? ⟨be, 4, none⟩ = some (.bool r.lit) := cell_of_row _ _ _ _ _ _ h.blk
  have c5 : w.cell? ⟨be, 5, none⟩ = some (.bool r.down) := cell_of_row _ _ _ _ _ _ h.blk
  have f3 := frozen_of_row w be 3 _ _ h.blk
  have f5 := frozen_of_row w be 5 _ _ h.blk
  have HB : Hid (RefV w S be sv nv wv r) := h
  have hnot : ∀ (x : Bool) (w : World), (Op.unary .not (.bool x)).run Tryz.prog w = .ok (.bool (!x)) w := fun _ _ => rfl
  clear h
  cases hl : r.lit
  · rw [hl] at c4
    rw [op_not r hl]
    have HL : Hid (r.lit = false) := hl
    clear hl
    go_enter Tryz.func121, Tryz.ntmps121
    go_wp2
    go_ret
    exact ⟨rfl, ⟨sv, nv, wv, HB.out⟩, Same.refl _ _⟩
  · rw [hl] at c4
    rw [op_lit r hl]
    have h1 := heap_setCell_same w be 3 _ _ (.int .i64 (wrap64 (r.left - 1))) HB.out.blk
    have s1 : Same (· = be) w (w.setCell ⟨be, 3, none⟩ (.int .i64 (wrap64 (r.left - 1)))) := Same.setCell (S := (· = be)) (Same.refl _ w) ⟨be, 3, none⟩ rfl _
    by_cases hz : wrap64 (r.left - 1) ≤ 0
    · have h2 := heap_setCell_same _ be 5 _ _ (.bool true) h1
      have s2 := Same.setCell (S := (· = be)) s1 ⟨be, 5, none⟩ rfl (.bool true)
      have H2 : Hid (RefV _ S be sv nv wv { r with left := wrap64 (r.left - 1), down := r.down || decide (wrap64 (r.left - 1) ≤ 0) }) := HB.out.turn s2 _ _ _ (by rw [h2, decide_eq_true hz, Bool.or_true, hl]; rfl)
      have HS : Hid (Same S w _) := s2.weak (by rintro g rfl; exact HB.out.sb)
      have hd : (!(r.down || decide (wrap64 (r.left - 1) ≤ 0))) = false := by rw [decide_eq_true hz, Bool.or_true]; rfl
      rw [hd]
      clear h1 h2 s1 s2 hl hd
      go_enter Tryz.func121, Tryz.ntmps121
      go_wp2
      go_ret
      exact ⟨rfl, ⟨sv, nv, wv, H2.out⟩, HS.out⟩
    · have H2 : Hid (RefV _ S be sv nv wv { r with left := wrap64 (r.left - 1), down := r.down || decide (wrap64 (r.left - 1) ≤ 0) }) := HB.out.turn s1 _ _ _ (by rw [h1, decide_eq_false hz, Bool.or_false, hl]; rfl)
      have HS : Hid (Same S w _) := s1.weak (by rintro g rfl; exact HB.out.sb)
      have hd : (!(r.down || decide (wrap64 (r.left - 1) ≤ 0))) = !r.down := by rw [decide_eq_false hz, Bool.or_false]
      rw [hd]
      clear h1 s1 hl hd
      go_enter Tryz.func121, Tryz.ntmps121
      go_wp2
      go_ret
      exact ⟨rfl, ⟨sv, nv, wv, H2.out⟩, HS.out⟩

/-- Is a sector there? -/
def hasAt (n : Nat) (at_ : Int) : Prop := 0 ≤ at_ ∧ at_ < n

set_option maxRecDepth 100000 in
theorem ref_read (be : Nat) (S : Nat → Prop) (r : RDsk) (at_ : Int) (w : World) (h : RefAt w S be r) (hn : 0 < r.seen.length) (hr : inR at_) :
    Calls Tryz.prog 61 #[.pointer (some ⟨be, 0, none⟩), .int .i64 at_] w fun e w' =>
      e = .returned (.tuple (if h : 0 ≤ at_ ∧ at_ < r.seen.length then #[.string (r.seen[at_.toNat]'(by omega)), .int .i64 0] else #[.string ⟨#[]⟩, .int .i64 1])) ∧ w = w' := by
  obtain ⟨sv, nv, wv, h⟩ := h
  obtain ⟨g, cap, hv, -, hc, -⟩ := h.seen.open hn
  have c1 : w.cell? ⟨be, 1, none⟩ = some nv := cell_of_row _ _ _ _ _ _ h.blk
  rw [hv] at c1
  unfold inR at hr
  by_cases h0 : at_ < 0
  · rw [dif_neg (by omega)]
    clear hc h
    go_enter Tryz.func61, Tryz.ntmps61
    go_wp2
    refine bodyPost_ret (results_tmp2 rfl _ _ _) rfl ?_
    exact ⟨rfl, rfl⟩
  · by_cases h1 : at_ < r.seen.length
    · obtain ⟨k, rfl⟩ : ∃ k : Nat, at_ = k := ⟨at_.toNat, by omega⟩
      have hk : k < r.seen.length := by omega
      rw [dif_pos (by omega)]
      obtain ⟨s, hs⟩ : ∃ s, s = r.seen[k] := ⟨_, rfl⟩
      have ck : w.cell? ⟨g, k, none⟩ = some (.string s) := by rw [hc k (by rw [strs_length]; exact hk), hs]; simp [strs]
      have e : r.seen[(k : Int).toNat]'(by omega) = s := by rw [hs]; rfl
      rw [e]
      clear hc h hs e
      go_enter Tryz.func61, Tryz.ntmps61
      go_wp2
      refine bodyPost_ret (results_tmp2 rfl _ _ _) rfl ?_
      exact ⟨rfl, rfl⟩
    · rw [dif_neg (by omega)]
      clear hc h
      go_enter Tryz.func61, Tryz.ntmps61
      go_wp2
      refine bodyPost_ret (results_tmp2 rfl _ _ _) rfl ?_
      exact ⟨rfl, rfl⟩
end Go.Proofs.YtphhmjcobmnpeaaGreatDoor
