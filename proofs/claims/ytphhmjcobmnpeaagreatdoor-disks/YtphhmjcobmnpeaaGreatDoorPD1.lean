/- OWN TEXT: the program's disk: Fuse, Read. -/
import Derived.Test.YtphhmjcobmnpeaaGreatDoorPMem
namespace Go.Proofs.YtphhmjcobmnpeaaGreatDoor
open Go.RowKit Go.Maps

theorem DskV.setFuse {w : World} {S : Nat → Prop} {lk : Int} {bd gs bm m : Nat} {wv : Value} {d : Dsk} (h : DskV w S lk bd gs bm m wv d) (x : Int) : DskV (w.setCell ⟨bd, 5, none⟩ (.int .i64 x)) S lk bd gs bm m wv { d with fuse := x } ∧ Same S w (w.setCell ⟨bd, 5, none⟩ (.int .i64 x)) := by
  have hs : Same (· = bd) w (w.setCell ⟨bd, 5, none⟩ (.int .i64 x)) := Same.setCell (S := (· = bd)) (Same.refl _ w) ⟨bd, 5, none⟩ rfl _
  refine ⟨h.turn hs lk x d.down ?_, hs.weak (by rintro g rfl; exact h.rest.sb)⟩
  rw [heap_setCell_same w bd 5 _ _ _ h.blk]
  rfl
theorem DskV.setDown {w : World} {S : Nat → Prop} {lk : Int} {bd gs bm m : Nat} {wv : Value} {d : Dsk} (h : DskV w S lk bd gs bm m wv d) (x : Bool) : DskV (w.setCell ⟨bd, 6, none⟩ (.bool x)) S lk bd gs bm m wv { d with down := x } ∧ Same S w (w.setCell ⟨bd, 6, none⟩ (.bool x)) := by
  have hs : Same (· = bd) w (w.setCell ⟨bd, 6, none⟩ (.bool x)) := Same.setCell (S := (· = bd)) (Same.refl _ w) ⟨bd, 6, none⟩ rfl _
  refine ⟨h.turn hs lk d.fuse x ?_, hs.weak (by rintro g rfl; exact h.rest.sb)⟩
  rw [heap_setCell_same w bd 6 _ _ _ h.blk]
  rfl

set_option maxRecDepth 100000 in
theorem dsk_fuse (bd m : Nat) (S : Nat → Prop) (d : Dsk) (n : Int) (w : World) (h : DskAt w S bd m d) :
    Calls Tryz.prog 66 #[.pointer (some ⟨bd, 0, none⟩), .int .i64 n] w fun e w' => e = .returned (.tuple #[]) ∧ DskAt w' S bd m { d with fuse := max n 0 } ∧ Same S w w' := by
  obtain ⟨gs, bm, wv, h⟩ := h
  have c0 : w.cell? ⟨bd, 0, none⟩ = some (.int .i32 0) := cell_of_row _ _ _ _ _ _ h.blk
  have f0 := frozen_of_row w bd 0 _ _ h.blk
  obtain ⟨h1, s1⟩ := h.lockTo 1
  have c5 : (w.setCell ⟨bd, 0, none⟩ (.int .i32 1)).cell? ⟨bd, 5, none⟩ = some (.int .i64 d.fuse) := cell_of_row _ _ _ _ _ _ h1.blk
  have f5 := frozen_of_row _ bd 5 _ _ h1.blk
  have HV : Hid (DskV (w.setCell ⟨bd, 0, none⟩ (.int .i32 1)) S 1 bd gs bm m wv d) := h1
  have HS : Hid (Same S w (w.setCell ⟨bd, 0, none⟩ (.int .i32 1))) := s1
  clear h h1 s1
  go_enter_defers Tryz.func66, Tryz.ntmps66
  go_wp2_with (go_at_call 122; refine (lock_free ⟨bd, 0, none⟩ _ c0 f0).mono ?_; rintro e w' ⟨rfl, rfl⟩)
  case inl =>
    obtain ⟨h1, s1⟩ := HV.out.setFuse 0
    refine leaves_cons (f := 123) (args := #[.pointer (some ⟨bd, 0, none⟩)]) (by simp) (by simp [go_sem]) ?_
    refine (unlock_deferred ⟨bd, 0, none⟩ .returning _ (cell_of_row _ _ _ _ _ _ h1.blk) (frozen_of_row _ _ _ _ _ h1.blk)).mono ?_
    rintro e u' w'' ⟨rfl, rfl, hw⟩
    obtain ⟨h2, s2⟩ := h1.lockTo 0
    rw [← hw] at h2 s2
    have hm : max n 0 = 0 := by omega
    rw [hm]
    exact ⟨_, results_none rfl _ _ _, rfl, ⟨_, _, _, h2⟩, HS.out.trans (s1.trans s2)⟩
  case inr =>
    obtain ⟨h1, s1⟩ := HV.out.setFuse n
    refine leaves_cons (f := 123) (args := #[.pointer (some ⟨bd, 0, none⟩)]) (by simp) (by simp [go_sem]) ?_
    refine (unlock_deferred ⟨bd, 0, none⟩ .returning _ (cell_of_row _ _ _ _ _ _ h1.blk) (frozen_of_row _ _ _ _ _ h1.blk)).mono ?_
    rintro e u' w'' ⟨rfl, rfl, hw⟩
    obtain ⟨h2, s2⟩ := h1.lockTo 0
    rw [← hw] at h2 s2
    have hm : max n 0 = n := by omega
    rw [hm]
    exact ⟨_, results_none rfl _ _ _, rfl, ⟨_, _, _, h2⟩, HS.out.trans (s1.trans s2)⟩

theorem zero_sec : ∀ w, (zeroValue 199).run Tryz.prog w = .ok (secV z64) w := fun _ => by kernel_rfl
theorem intKey : Keyed Tryz.prog 3 := int_keyed Tryz.underlying3
theorem key_wf (k : Nat) (h : k ≤ 4096) : (Lit.int .i64 (k : Int)).wf = true := by
  simp [Lit.wf, IntKind.min, IntKind.max, IntKind.signed, IntKind.bits]
  omega
/-- 's, ok := d.seen[at]'. -/
theorem wpList_lookup_sec {w : World} {ops : Array Oper} {rest : List Oper} {o : Oper} {a : Act} {Q : Exit → Act → World → Prop} (hg : o.guard = none) (mo x : Operand) (hop : o.op = Op.lookup 52 mo x true)
    (b n : Nat) (l : List (Nat × ByteArray)) (hm : a.eval mo = .map (some b)) (hown : w.ownsMap Tryz.prog 3 heldR b n (mapD l)) (k : Nat) (hx : a.eval x = .int .i64 (k : Int)) (hk : k ≤ 4096)
    (A : Array Value) (hA : secV ((lastW l k).getD z64) = .agg A) (ok : Bool) (hok : (lastW l k).isSome = ok)
    (hK : wpList Tryz.prog ops Q rest (a.put o.dst (.tuple #[.agg A, .bool ok])) w) : wpList Tryz.prog ops Q (o :: rest) a w := by
  refine wpList_lookup_own_ok w hg mo x 52 hop 3 199 intKey Tryz.underlying52 heldR (zero_sec w) (.held (secV z64)) [] rfl b n (mapD l) hm hown _ _ hx (keyOf_int_mk Tryz.underlying3 (key_wf k hk)) (fun v ps hv => ?_)
  obtain ⟨h1, h2⟩ := mapD_at l k (.held (secV z64))
  have hv' : (DataW.held v : DataW Value) = (mapD l).atKey (.int .i64 (k : Int)) (.held (secV z64)) := by
    unfold heldR at hv
    exact (Prod.mk.inj (Option.some.inj hv)).1
  have e : v = .agg A := by
    rw [← hA]
    rw [h1] at hv'
    cases hl : lastW l k with
    | none => rw [hl] at hv'; exact DataW.held.inj hv'
    | some s => rw [hl] at hv'; exact DataW.held.inj hv'
  rw [e, h2, hok]
  exact hK
end Go.Proofs.YtphhmjcobmnpeaaGreatDoor
