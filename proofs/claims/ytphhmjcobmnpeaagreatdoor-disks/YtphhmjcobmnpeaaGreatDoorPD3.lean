/- OWN TEXT: the program's disk: operate. -/
import Derived.Test.YtphhmjcobmnpeaaGreatDoorPD2
namespace Go.Proofs.YtphhmjcobmnpeaaGreatDoor
open Go.RowKit Go.Maps

/-- What an operation leaves of fuse and flag. -/
def Dsk.op (d : Dsk) : Dsk := if 0 < d.fuse then { d with fuse := d.fuse - 1, down := d.down || decide (d.fuse - 1 = 0) } else d
theorem dop_not (d : Dsk) (h : ¬ 0 < d.fuse) : d.op = d := by unfold Dsk.op; rw [if_neg h]
theorem dop_lit (d : Dsk) (h : 0 < d.fuse) : d.op = { d with fuse := d.fuse - 1, down := d.down || decide (d.fuse - 1 = 0) } := by unfold Dsk.op; rw [if_pos h]
theorem dop_safe (d : Dsk) : d.op.safe = d.safe := by unfold Dsk.op; split <;> rfl
theorem dop_wait (d : Dsk) : d.op.wait = d.wait := by unfold Dsk.op; split <;> rfl
/-- The world in which an operation's own work is done. -/
def opW (w : World) (bd : Nat) (d : Dsk) : World := if 0 < d.fuse then ((w.setCell ⟨bd, 0, none⟩ (.int .i32 1)).setCell ⟨bd, 5, none⟩ (.int .i64 (d.fuse - 1))).setCell ⟨bd, 6, none⟩ (.bool (d.down || decide (d.fuse - 1 = 0))) else w.setCell ⟨bd, 0, none⟩ (.int .i32 1)
theorem opW_lit (w : World) (bd : Nat) (d : Dsk) (h : 0 < d.fuse) : opW w bd d = ((w.setCell ⟨bd, 0, none⟩ (.int .i32 1)).setCell ⟨bd, 5, none⟩ (.int .i64 (d.fuse - 1))).setCell ⟨bd, 6, none⟩ (.bool (d.down || decide (d.fuse - 1 = 0))) := by unfold opW; rw [if_pos h]
theorem opW_not (w : World) (bd : Nat) (d : Dsk) (h : ¬ 0 < d.fuse) : opW w bd d = w.setCell ⟨bd, 0, none⟩ (.int .i32 1) := by unfold opW; rw [if_neg h]
theorem opW_at {w : World} {S : Nat → Prop} {bd gs bm m : Nat} {wv : Value} {d : Dsk} (h : DskV w S 0 bd gs bm m wv d) : DskV (opW w bd d) S 1 bd gs bm m wv d.op ∧ Same S w (opW w bd d) := by
  obtain ⟨h1, s1⟩ := h.lockTo 1
  by_cases hf : 0 < d.fuse
  · rw [opW_lit w bd d hf, dop_lit d hf]
    obtain ⟨h2, s2⟩ := h1.setFuse (d.fuse - 1)
    obtain ⟨h3, s3⟩ := h2.setDown (d.down || decide (d.fuse - 1 = 0))
    exact ⟨h3, s1.trans (s2.trans s3)⟩
  · rw [opW_not w bd d hf, dop_not d hf]
    exact ⟨h1, s1⟩

set_option maxRecDepth 100000 in
set_option maxHeartbeats 1000000 in
theorem operate_down (bd m : Nat) (S : Nat → Prop) (d : Dsk) (fv ev : Value) (w : World) (h : DskAt w S bd m d) (hE : w.cell? ⟨1, 0, none⟩ = some ev) (hG : bd ≠ 1) (hd : d.op.down = true) (hf : d.fuse ≤ 9223372036854775807) :
    Calls Tryz.prog 100 #[.pointer (some ⟨bd, 0, none⟩), fv] w fun e w' => e = .returned ev ∧ DskAt w' S bd m d.op ∧ Same S w w' := by
  obtain ⟨gs, bm, wv, h⟩ := h
  have c0 : w.cell? ⟨bd, 0, none⟩ = some (.int .i32 0) := cell_of_row _ _ _ _ _ _ h.blk
  have f0 := frozen_of_row w bd 0 _ _ h.blk
  obtain ⟨h1, s1⟩ := h.lockTo 1
  have c5 : (w.setCell ⟨bd, 0, none⟩ (.int .i32 1)).cell? ⟨bd, 5, none⟩ = some (.int .i64 d.fuse) := cell_of_row _ _ _ _ _ _ h1.blk
  have c6 : (w.setCell ⟨bd, 0, none⟩ (.int .i32 1)).cell? ⟨bd, 6, none⟩ = some (.bool d.down) := cell_of_row _ _ _ _ _ _ h1.blk
  have f5 := frozen_of_row _ bd 5 _ _ h1.blk
  have f6 := frozen_of_row _ bd 6 _ _ h1.blk
  obtain ⟨h2, s2⟩ := opW_at h
  have HV : Hid (DskV (opW w bd d) S 1 bd gs bm m wv d.op) := h2
  have HS : Hid (Same S w (opW w bd d)) := s2
  have hnot : ∀ (x : Bool) (w : World), (Op.unary .not (.bool x)).run Tryz.prog w = .ok (.bool (!x)) w := fun _ _ => rfl
  have HE : Hid (w.cell? ⟨1, 0, none⟩ = some ev) := hE
  clear h h1 s1 h2 s2
  have hGa : (⟨bd, 0, none⟩ : Addr) ≠ ⟨1, 0, none⟩ := fun e => hG (congrArg Addr.block e)
  have hE1 : (w.setCell ⟨bd, 0, none⟩ (.int .i32 1)).cell? ⟨1, 0, none⟩ = some ev := by rw [World.cell?_setCell_other _ _ _ _ hGa]; exact hE
  have HFIN : Hid (∀ (w'' : World), w'' = (opW w bd d).setCell ⟨bd, 0, none⟩ (.int .i32 0) → DskAt w'' S bd m d.op ∧ Same S w w'') := fun w'' hw => by
    obtain ⟨h3, s3⟩ := HV.out.lockTo 0
    rw [← hw] at h3 s3
    exact ⟨⟨_, _, _, h3⟩, HS.out.trans s3⟩
  by_cases hfz : 0 < d.fuse
  · rw [dop_lit d hfz] at hd
    have hd' : (d.down || decide (d.fuse - 1 = 0)) = true := hd
    have HOW : Hid (opW w bd d = ((w.setCell ⟨bd, 0, none⟩ (.int .i32 1)).setCell ⟨bd, 5, none⟩ (.int .i64 (d.fuse - 1))).setCell ⟨bd, 6, none⟩ (.bool true)) := by
      show _ = _
      rw [opW_lit w bd d hfz, hd']
    cases hdd : d.down
    · have hb : ((d.fuse - 1 : Int) == 0) = true := by
        rw [hdd, Bool.false_or, decide_eq_true_iff] at hd'
        rw [beq_iff_eq]; exact hd'
      rw [hdd] at c6
      clear hd hd' hdd
      go_enter_defers Tryz.func100, Tryz.ntmps100
      go_wp2_with (go_at_call 122; refine (lock_free ⟨bd, 0, none⟩ _ c0 f0).mono ?_; rintro e w' ⟨rfl, rfl⟩)
      have hv := HV.out
      rw [HOW.out] at hv
      refine leaves_cons (f := 123) (args := #[.pointer (some ⟨bd, 0, none⟩)]) (by simp) (by simp [go_sem]) ?_
      refine (unlock_deferred ⟨bd, 0, none⟩ .returning _ (cell_of_row _ _ _ _ _ _ hv.blk) (frozen_of_row _ _ _ _ _ hv.blk)).mono ?_
      rintro e u' w'' ⟨rfl, rfl, hw⟩
      rw [← HOW.out] at hw
      exact ⟨_, results_tmp rfl _ _ _, rfl, HFIN.out _ hw⟩
    · rw [hdd] at c6
      clear hd hd' hdd
      go_enter_defers Tryz.func100, Tryz.ntmps100
      go_wp2_with (go_at_call 122; refine (lock_free ⟨bd, 0, none⟩ _ c0 f0).mono ?_; rintro e w' ⟨rfl, rfl⟩)
      have hv := HV.out
      rw [HOW.out] at hv
      refine leaves_cons (f := 123) (args := #[.pointer (some ⟨bd, 0, none⟩)]) (by simp) (by simp [go_sem]) ?_
      refine (unlock_deferred ⟨bd, 0, none⟩ .returning _ (cell_of_row _ _ _ _ _ _ hv.blk) (frozen_of_row _ _ _ _ _ hv.blk)).mono ?_
      rintro e u' w'' ⟨rfl, rfl, hw⟩
      rw [← HOW.out] at hw
      exact ⟨_, results_tmp rfl _ _ _, rfl, HFIN.out _ hw⟩
  · rw [dop_not d hfz] at hd
    have HOW : Hid (opW w bd d = w.setCell ⟨bd, 0, none⟩ (.int .i32 1)) := opW_not w bd d hfz
    rw [hd] at c6
    clear hd
    go_enter_defers Tryz.func100, Tryz.ntmps100
    go_wp2_with (go_at_call 122; refine (lock_free ⟨bd, 0, none⟩ _ c0 f0).mono ?_; rintro e w' ⟨rfl, rfl⟩)
    have hv := HV.out
    rw [HOW.out] at hv
    refine leaves_cons (f := 123) (args := #[.pointer (some ⟨bd, 0, none⟩)]) (by simp) (by simp [go_sem]) ?_
    refine (unlock_deferred ⟨bd, 0, none⟩ .returning _ (cell_of_row _ _ _ _ _ _ hv.blk) (frozen_of_row _ _ _ _ _ hv.blk)).mono ?_
    rintro e u' w'' ⟨rfl, rfl, hw⟩
    rw [← HOW.out] at hw
    exact ⟨_, results_tmp rfl _ _ _, rfl, HFIN.out _ hw⟩

set_option maxRecDepth 100000 in
set_option maxHeartbeats 1000000 in
theorem operate_write (bd m m' : Nat) (S T U : Nat → Prop) (d d' : Dsk) (caps : Array Value) (w : World) (h : DskAt w S bd m d) (hd : d.op.down = false) (hf : d.fuse ≤ 9223372036854775807) (hTS : ∀ g, S g → T g) (hUT : ∀ g, U g → T g)
    (hC : ∀ w2 gs bm wv, DskV w2 S 1 bd gs bm m wv d.op → Same (· = bd) w w2 → Calls Tryz.prog 101 caps w2 fun e w3 => e = .returned (.tuple #[]) ∧ (∃ gs' bm' wv', DskV w3 U 1 bd gs' bm' m' wv' d') ∧ Same T w2 w3) :
    Calls Tryz.prog 100 #[.pointer (some ⟨bd, 0, none⟩), .func (.func 101) #[] caps] w fun e w' => e = .returned .nilIface ∧ DskAt w' U bd m' d' ∧ Same T w w' := by
  obtain ⟨gs, bm, wv, h⟩ := h
  have c0 : w.cell? ⟨bd, 0, none⟩ = some (.int .i32 0) := cell_of_row _ _ _ _ _ _ h.blk
  have f0 := frozen_of_row w bd 0 _ _ h.blk
  obtain ⟨h1, s1⟩ := h.lockTo 1
  have c5 : (w.setCell ⟨bd, 0, none⟩ (.int .i32 1)).cell? ⟨bd, 5, none⟩ = some (.int .i64 d.fuse) := cell_of_row _ _ _ _ _ _ h1.blk
  have c6 : (w.setCell ⟨bd, 0, none⟩ (.int .i32 1)).cell? ⟨bd, 6, none⟩ = some (.bool d.down) := cell_of_row _ _ _ _ _ _ h1.blk
  have f5 := frozen_of_row _ bd 5 _ _ h1.blk
  have f6 := frozen_of_row _ bd 6 _ _ h1.blk
  obtain ⟨h2, s2⟩ := opW_at h
  have HV : Hid (DskV (opW w bd d) S 1 bd gs bm m wv d.op) := h2
  have HS : Hid (Same S w (opW w bd d)) := s2
  have hnot : ∀ (x : Bool) (w : World), (Op.unary .not (.bool x)).run Tryz.prog w = .ok (.bool (!x)) w := fun _ _ => rfl
  have hob : Same (· = bd) w (opW w bd d) := by
    by_cases hf : 0 < d.fuse
    · rw [opW_lit w bd d hf]
      exact Same.setCell (S := (· = bd)) (Same.setCell (S := (· = bd)) (Same.setCell (S := (· = bd)) (Same.refl _ w) ⟨bd, 0, none⟩ rfl _) ⟨bd, 5, none⟩ rfl _) ⟨bd, 6, none⟩ rfl _
    · rw [opW_not w bd d hf]
      exact Same.setCell (S := (· = bd)) (Same.refl _ w) ⟨bd, 0, none⟩ rfl _
  have HC : Hid (Calls Tryz.prog 101 caps (opW w bd d) fun e w3 => e = .returned (.tuple #[]) ∧ Hid (∃ gs' bm' wv', DskV w3 U 1 bd gs' bm' m' wv' d') ∧ Hid (Same T (opW w bd d) w3)) := hC (opW w bd d) gs bm wv h2 hob
  clear h h1 s1 h2 s2 hC hob
  by_cases hfz : 0 < d.fuse
  · rw [dop_lit d hfz] at hd
    have hd' : (d.down || decide (d.fuse - 1 = 0)) = false := hd
    have HOW : Hid (opW w bd d = ((w.setCell ⟨bd, 0, none⟩ (.int .i32 1)).setCell ⟨bd, 5, none⟩ (.int .i64 (d.fuse - 1))).setCell ⟨bd, 6, none⟩ (.bool false)) := by
      show _ = _
      rw [opW_lit w bd d hfz, hd']
    rw [Bool.or_eq_false_iff, decide_eq_false_iff_not] at hd'
    have hb : ((d.fuse - 1 : Int) == 0) = false := by rw [beq_eq_false_iff_ne]; exact hd'.2
    rw [hd'.1] at c6
    have HCC := HC
    rw [HOW.out] at HCC
    rw [HOW.out] at HS
    clear hd hd' HC HV
    go_enter_defers Tryz.func100, Tryz.ntmps100
    go_wp2_with (first | (go_at_call 122; refine (lock_free ⟨bd, 0, none⟩ _ c0 f0).mono ?_; rintro e w' ⟨rfl, rfl⟩) | (go_at_call 101; refine HCC.out.mono ?_; rintro e w3 ⟨rfl, HV3, HS3⟩))
    obtain ⟨gs', bm', wv', hv⟩ := HV3.out
    refine leaves_cons (f := 123) (args := #[.pointer (some ⟨bd, 0, none⟩)]) (by simp) (by simp [go_sem]) ?_
    refine (unlock_deferred ⟨bd, 0, none⟩ .returning _ (cell_of_row _ _ _ _ _ _ hv.blk) (frozen_of_row _ _ _ _ _ hv.blk)).mono ?_
    rintro e u' w'' ⟨rfl, rfl, hw⟩
    obtain ⟨h3, s3⟩ := hv.lockTo 0
    rw [← hw] at h3 s3
    exact ⟨_, results_tmp rfl _ _ _, rfl, ⟨_, _, _, h3⟩, (HS.out.weak hTS).trans (HS3.out.trans (s3.weak hUT))⟩
  · rw [dop_not d hfz] at hd
    have HOW : Hid (opW w bd d = w.setCell ⟨bd, 0, none⟩ (.int .i32 1)) := opW_not w bd d hfz
    rw [hd] at c6
    have HCC := HC
    rw [HOW.out] at HCC
    rw [HOW.out] at HS
    clear hd HC HV
    go_enter_defers Tryz.func100, Tryz.ntmps100
    go_wp2_with (first | (go_at_call 122; refine (lock_free ⟨bd, 0, none⟩ _ c0 f0).mono ?_; rintro e w' ⟨rfl, rfl⟩) | (go_at_call 101; refine HCC.out.mono ?_; rintro e w3 ⟨rfl, HV3, HS3⟩))
    obtain ⟨gs', bm', wv', hv⟩ := HV3.out
    refine leaves_cons (f := 123) (args := #[.pointer (some ⟨bd, 0, none⟩)]) (by simp) (by simp [go_sem]) ?_
    refine (unlock_deferred ⟨bd, 0, none⟩ .returning _ (cell_of_row _ _ _ _ _ _ hv.blk) (frozen_of_row _ _ _ _ _ hv.blk)).mono ?_
    rintro e u' w'' ⟨rfl, rfl, hw⟩
    obtain ⟨h3, s3⟩ := hv.lockTo 0
    rw [← hw] at h3 s3
    exact ⟨_, results_tmp rfl _ _ _, rfl, ⟨_, _, _, h3⟩, (HS.out.weak hTS).trans (HS3.out.trans (s3.weak hUT))⟩

set_option maxRecDepth 100000 in
set_option maxHeartbeats 1000000 in
theorem operate_flush (bd m m' : Nat) (S T U : Nat → Prop) (d d' : Dsk) (caps : Array Value) (w : World) (h : DskAt w S bd m d) (hd : d.op.down = false) (hf : d.fuse ≤ 9223372036854775807) (hTS : ∀ g, S g → T g) (hUT : ∀ g, U g → T g)
    (hC : ∀ w2 gs bm wv, DskV w2 S 1 bd gs bm m wv d.op → Same (· = bd) w w2 → Calls Tryz.prog 105 caps w2 fun e w3 => e = .returned (.tuple #[]) ∧ (∃ gs' bm' wv', DskV w3 U 1 bd gs' bm' m' wv' d') ∧ Same T w2 w3) :
    Calls Tryz.prog 100 #[.pointer (some ⟨bd, 0, none⟩), .func (.func 105) #[] caps] w fun e w' => e = .returned .nilIface ∧ DskAt w' U bd m' d' ∧ Same T w w' := by
  obtain ⟨gs, bm, wv, h⟩ := h
  have c0 : w.cell? ⟨bd, 0, none⟩ = some (.int .i32 0) := cell_of_row _ _ _ _ _ _ h.blk
  have f0 := frozen_of_row w bd 0 _ _ h.blk
  obtain ⟨h1, s1⟩ := h.lockTo 1
  have c5 : (w.setCell ⟨bd, 0, none⟩ (.int .i32 1)).cell? ⟨bd, 5, none⟩ = some (.int .i64 d.fuse) := cell_of_row _ _ _ _ _ _ h1.blk
  have c6 : (w.setCell ⟨bd, 0, none⟩ (.int .i32 1)).cell? ⟨bd, 6, none⟩ = some (.bool d.down) := cell_of_row _ _ _ _ _ _ h1.blk
  have f5 := frozen_of_row _ bd 5 _ _ h1.blk
  have f6 := frozen_of_row _ bd 6 _ _ h1.blk
  obtain ⟨h2, s2⟩ := opW_at h
  have HV : Hid (DskV (opW w bd d) S 1 bd gs bm m wv d.op) := h2
  have HS : Hid (Same S w (opW w bd d)) := s2
  have hnot : ∀ (x : Bool) (w : World), (Op.unary .not (.bool x)).run Tryz.prog w = .ok (.bool (!x)) w := fun _ _ => rfl
  have hob : Same (· = bd) w (opW w bd d) := by
    by_cases hf : 0 < d.fuse
    · rw [opW_lit w bd d hf]
      exact Same.setCell (S := (· = bd)) (Same.setCell (S := (· = bd)) (Same.setCell (S := (· = bd)) (Same.refl _ w) ⟨bd, 0, none⟩ rfl _) ⟨bd, 5, none⟩ rfl _) ⟨bd, 6, none⟩ rfl _
    · rw [opW_not w bd d hf]
      exact Same.setCell (S := (· = bd)) (Same.refl _ w) ⟨bd, 0, none⟩ rfl _
  have HC : Hid (Calls Tryz.prog 105 caps (opW w bd d) fun e w3 => e = .returned (.tuple #[]) ∧ Hid (∃ gs' bm' wv', DskV w3 U 1 bd gs' bm' m' wv' d') ∧ Hid (Same T (opW w bd d) w3)) := hC (opW w bd d) gs bm wv h2 hob
  clear h h1 s1 h2 s2 hC hob
  by_cases hfz : 0 < d.fuse
  · rw [dop_lit d hfz] at hd
    have hd' : (d.down || decide (d.fuse - 1 = 0)) = false := hd
    have HOW : Hid (opW w bd d = ((w.setCell ⟨bd, 0, none⟩ (.int .i32 1)).setCell ⟨bd, 5, none⟩ (.int .i64 (d.fuse - 1))).setCell ⟨bd, 6, none⟩ (.bool false)) := by
      show _ = _
      rw [opW_lit w bd d hfz, hd']
    rw [Bool.or_eq_false_iff, decide_eq_false_iff_not] at hd'
    have hb : ((d.fuse - 1 : Int) == 0) = false := by rw [beq_eq_false_iff_ne]; exact hd'.2
    rw [hd'.1] at c6
    have HCC := HC
    rw [HOW.out] at HCC
    rw [HOW.out] at HS
    clear hd hd' HC HV
    go_enter_defers Tryz.func100, Tryz.ntmps100
    go_wp2_with (first | (go_at_call 122; refine (lock_free ⟨bd, 0, none⟩ _ c0 f0).mono ?_; rintro e w' ⟨rfl, rfl⟩) | (go_at_call 105; refine HCC.out.mono ?_; rintro e w3 ⟨rfl, HV3, HS3⟩))
    obtain ⟨gs', bm', wv', hv⟩ := HV3.out
    refine leaves_cons (f := 123) (args := #[.pointer (some ⟨bd, 0, none⟩)]) (by simp) (by simp [go_sem]) ?_
    refine (unlock_deferred ⟨bd, 0, none⟩ .returning _ (cell_of_row _ _ _ _ _ _ hv.blk) (frozen_of_row _ _ _ _ _ hv.blk)).mono ?_
    rintro e u' w'' ⟨rfl, rfl, hw⟩
    obtain ⟨h3, s3⟩ := hv.lockTo 0
    rw [← hw] at h3 s3
    exact ⟨_, results_tmp rfl _ _ _, rfl, ⟨_, _, _, h3⟩, (HS.out.weak hTS).trans (HS3.out.trans (s3.weak hUT))⟩
  · rw [dop_not d hfz] at hd
    have HOW : Hid (opW w bd d = w.setCell ⟨bd, 0, none⟩ (.int .i32 1)) := opW_not w bd d hfz
    rw [hd] at c6
    have HCC := HC
    rw [HOW.out] at HCC
    rw [HOW.out] at HS
    clear hd HC HV
    go_enter_defers Tryz.func100, Tryz.ntmps100
    go_wp2_with (first | (go_at_call 122; refine (lock_free ⟨bd, 0, none⟩ _ c0 f0).mono ?_; rintro e w' ⟨rfl, rfl⟩) | (go_at_call 105; refine HCC.out.mono ?_; rintro e w3 ⟨rfl, HV3, HS3⟩))
    obtain ⟨gs', bm', wv', hv⟩ := HV3.out
    refine leaves_cons (f := 123) (args := #[.pointer (some ⟨bd, 0, none⟩)]) (by simp) (by simp [go_sem]) ?_
    refine (unlock_deferred ⟨bd, 0, none⟩ .returning _ (cell_of_row _ _ _ _ _ _ hv.blk) (frozen_of_row _ _ _ _ _ hv.blk)).mono ?_
    rintro e u' w'' ⟨rfl, rfl, hw⟩
    obtain ⟨h3, s3⟩ := hv.lockTo 0
    rw [← hw] at h3 s3
    exact ⟨_, results_tmp rfl _ _ _, rfl, ⟨_, _, _, h3⟩, (HS.out.weak hTS).trans (HS3.out.trans (s3.weak hUT))⟩
end Go.Proofs.YtphhmjcobmnpeaaGreatDoor
