/- OWN TEXT: disks in memory: the program's. -/
import Derived.Test.YtphhmjcobmnpeaaGreatDoorRefD5
import Derived.Test.YtphhmjcobmnpeaaGreatDoorRowlaw
import Derived.Test.YtphhmjcobmnpeaaGreatDoorOnce
import Derived.Maps.OwnSet
import Derived.Maps.OwnOps
import Derived.Deep.MidRow
namespace Go.Proofs.YtphhmjcobmnpeaaGreatDoor
open Go.RowKit Go.Maps

/-- How an element of a map is held: as it is. -/
def heldR (v : Value) : Option (DataW Value × List MemPlace) := some (.held v, [])
def secs (l : List ByteArray) : List Value := l.flatMap fun s => bcells s.data.toList
def wrs (l : List (Nat × ByteArray)) : List Value := l.flatMap fun x => .int .i64 (x.1 : Int) :: bcells x.2.data.toList
def secV (s : ByteArray) : Value := .agg (bcells s.data.toList).toArray
/-- The map of the sectors for which a write waits. -/
def mapD (l : List (Nat × ByteArray)) : DataW Value := l.foldl (fun D x => D.put (.int .i64 (x.1 : Int)) (.held (secV x.2))) (.map [])
/-- What was written last at a place, if something waits there. -/
def lastW (l : List (Nat × ByteArray)) (k : Nat) : Option ByteArray := l.foldl (fun o x => if x.1 = k then some x.2 else o) none
theorem mapD_snoc (l : List (Nat × ByteArray)) (k : Nat) (s : ByteArray) : mapD (l ++ [(k, s)]) = (mapD l).put (.int .i64 (k : Int)) (.held (secV s)) := by simp [mapD, List.foldl_append]
theorem lastW_snoc (l : List (Nat × ByteArray)) (k j : Nat) (s : ByteArray) : lastW (l ++ [(k, s)]) j = if k = j then some s else lastW l j := by simp [lastW, List.foldl_append]
theorem mapD_isMap (l : List (Nat × ByteArray)) : IsMap (mapD l) := by
  have : ∀ (l : List (Nat × ByteArray)) (D : DataW Value), IsMap D → IsMap (l.foldl (fun D x => D.put (.int .i64 (x.1 : Int)) (.held (secV x.2))) D) := by
    intro l
    induction l with
    | nil => exact fun _ h => h
    | cons x r ih => exact fun D h => ih _ (h.put _ _)
  exact this l _ isMap_empty
theorem snoc_ind {α : Type} {P : List α → Prop} (h0 : P []) (hs : ∀ l x, P l → P (l ++ [x])) (l : List α) : P l := by
  have h : ∀ l : List α, P l.reverse := by
    intro l
    induction l with
    | nil => exact h0
    | cons x r ih => rw [List.reverse_cons]; exact hs _ _ ih
  have h1 := h l.reverse
  rw [List.reverse_reverse] at h1
  exact h1
theorem key_ne {k j : Nat} (h : k ≠ j) : (Lit.int .i64 (j : Int)) ≠ .int .i64 (k : Int) := by
  intro e
  cases e
  exact h rfl
theorem mapD_at (l : List (Nat × ByteArray)) (k : Nat) (z : DataW Value) : (mapD l).atKey (.int .i64 (k : Int)) z = (match lastW l k with | some s => .held (secV s) | none => z) ∧ Maps.has (mapD l) (.int .i64 (k : Int)) = (lastW l k).isSome := by
  refine snoc_ind (P := fun l => (mapD l).atKey (.int .i64 (k : Int)) z = (match lastW l k with | some s => .held (secV s) | none => z) ∧ Maps.has (mapD l) (.int .i64 (k : Int)) = (lastW l k).isSome) ⟨rfl, rfl⟩ (fun l x ih => ?_) l
  obtain ⟨j, s⟩ := x
  rw [mapD_snoc, lastW_snoc]
  by_cases h : j = k
  · subst h
    rw [if_pos rfl]
    have hk : WideAt.IsKeyLit (.int .i64 (j : Int)) := trivial
    exact ⟨atKey_put_same (mapD_isMap l) hk _ _, has_put_same (mapD_isMap l) hk _⟩
  · rw [if_neg h, atKey_put_other (key_ne h), has_put_other (key_ne h)]
    exact ih

/-- The program's disk. -/
structure Dsk where
  safe : List ByteArray
  wait : List (Nat × ByteArray)
  fuse : Int
  down : Bool

def dskRow (lk : Int) (gs n bm : Nat) (wv : Value) (fuse : Int) (down : Bool) : Array Value := #[.int .i32 lk, .int .u32 0, .slice (some ⟨gs, 0, none⟩) n n, .map (some bm), wv, .int .i64 fuse, .bool down]
/-- What is behind the disk's own block. -/
structure DskB (w : World) (S : Nat → Prop) (bd gs bm m : Nat) (wv : Value) (d : Dsk) : Prop where
  sec : w.heap[gs]? = some (.cells (secs d.safe).toArray 199 (0, 0))
  map : w.ownsMap Tryz.prog 3 heldR bm m (mapD d.wait)
  wait : OwnS w S 201 65 wv d.wait.length (wrs d.wait)
  sb : S bd
  ss : S gs
  sm : S bm
  n1 : bd ≠ gs
  n2 : bd ≠ bm
  n3 : gs ≠ bm
  d1 : ∀ g, wv.ownBlock = some g → g ≠ bd ∧ g ≠ gs ∧ g ≠ bm
  v1 : ∀ s ∈ d.safe, s.size = 64
  v2 : ∀ x ∈ d.wait, x.1 < d.safe.length ∧ x.2.size = 64
structure DskV (w : World) (S : Nat → Prop) (lk : Int) (bd gs bm m : Nat) (wv : Value) (d : Dsk) : Prop where
  blk : w.heap[bd]? = some (.cells (dskRow lk gs d.safe.length bm wv d.fuse d.down) 62 (0, 0))
  rest : DskB w S bd gs bm m wv d
def DskAt (w : World) (S : Nat → Prop) (bd m : Nat) (d : Dsk) : Prop := ∃ gs bm wv, DskV w S 0 bd gs bm m wv d
theorem ownsMap_heap {w w' : World} {k : TypeId} {b n : Nat} {D : DataW Value} (h : w.ownsMap Tryz.prog k heldR b n D) (e : w'.heap[b]? = w.heap[b]?) : w'.ownsMap Tryz.prog k heldR b n D := by
  obtain ⟨es, clock, h1, h2⟩ := h
  exact ⟨es, clock, by rw [e]; exact h1, h2⟩
theorem ownsMap_lt {w : World} {k : TypeId} {b n : Nat} {D : DataW Value} (h : w.ownsMap Tryz.prog k heldR b n D) : b < w.heap.size := by
  obtain ⟨es, clock, h1, h2⟩ := h
  exact (Array.getElem?_eq_some_iff.1 h1).1
theorem DskB.on {w w' : World} {S T : Nat → Prop} {bd gs bm m : Nat} {wv : Value} {d : Dsk} (h : DskB w S bd gs bm m wv d) (hs : Same T w w') (h1 : ¬ T gs) (h2 : ¬ T bm) (h3 : ∀ g, wv.ownBlock = some g → ¬ T g) : DskB w' S bd gs bm m wv d :=
  ⟨by rw [hs.block gs (lt_of_heap' h.sec) h1]; exact h.sec, ownsMap_heap h.map (hs.block bm (ownsMap_lt h.map) h2), h.wait.on hs h3, h.sb, h.ss, h.sm, h.n1, h.n2, h.n3, h.d1, h.v1, h.v2⟩
theorem DskB.own {w w' : World} {S : Nat → Prop} {bd gs bm m : Nat} {wv : Value} {d : Dsk} (h : DskB w S bd gs bm m wv d) (hs : Same (· = bd) w w') : DskB w' S bd gs bm m wv d :=
  h.on hs (fun e => h.n1 e.symm) (fun e => h.n2 e.symm) (fun g hg => (h.d1 g hg).1)
theorem DskB.flags {w : World} {S : Nat → Prop} {bd gs bm m : Nat} {wv : Value} {d : Dsk} (h : DskB w S bd gs bm m wv d) (fuse : Int) (down : Bool) : DskB w S bd gs bm m wv { d with fuse := fuse, down := down } :=
  ⟨h.sec, h.map, h.wait, h.sb, h.ss, h.sm, h.n1, h.n2, h.n3, h.d1, h.v1, h.v2⟩
theorem DskAt.on {w w' : World} {S T : Nat → Prop} {bd m : Nat} {d : Dsk} (h : DskAt w S bd m d) (hs : Same T w w') (hd : ∀ g, S g → ¬ T g) : DskAt w' S bd m d := by
  obtain ⟨gs, bm, wv, h⟩ := h
  refine ⟨gs, bm, wv, ?_, h.rest.on hs (hd _ h.rest.ss) (hd _ h.rest.sm) (fun g hg => hd g (h.rest.wait.2 g hg))⟩
  rw [hs.block bd (lt_of_heap' h.blk) (hd bd h.rest.sb)]
  exact h.blk
theorem DskB.mono {w : World} {S T : Nat → Prop} {bd gs bm m : Nat} {wv : Value} {d : Dsk} (h : DskB w S bd gs bm m wv d) (hd : ∀ g, S g → T g) : DskB w T bd gs bm m wv d :=
  ⟨h.sec, h.map, h.wait.mono hd, hd _ h.sb, hd _ h.ss, hd _ h.sm, h.n1, h.n2, h.n3, h.d1, h.v1, h.v2⟩
theorem DskAt.mono {w : World} {S T : Nat → Prop} {bd m : Nat} {d : Dsk} (h : DskAt w S bd m d) (hd : ∀ g, S g → T g) : DskAt w T bd m d := by
  obtain ⟨gs, bm, wv, h⟩ := h
  exact ⟨gs, bm, wv, h.blk, h.rest.mono hd⟩
/-- The disk's own block is written: the lock, the fuse, the flag. -/
theorem DskV.turn {w w' : World} {S : Nat → Prop} {lk : Int} {bd gs bm m : Nat} {wv : Value} {d : Dsk} (h : DskV w S lk bd gs bm m wv d) (hs : Same (· = bd) w w') (lk' fuse : Int) (down : Bool)
    (hb : w'.heap[bd]? = some (.cells (dskRow lk' gs d.safe.length bm wv fuse down) 62 (0, 0))) : DskV w' S lk' bd gs bm m wv { d with fuse := fuse, down := down } :=
  ⟨hb, (h.rest.own hs).flags fuse down⟩
theorem DskV.lockTo {w : World} {S : Nat → Prop} {lk : Int} {bd gs bm m : Nat} {wv : Value} {d : Dsk} (h : DskV w S lk bd gs bm m wv d) (lk' : Int) : DskV (w.setCell ⟨bd, 0, none⟩ (.int .i32 lk')) S lk' bd gs bm m wv d ∧ Same S w (w.setCell ⟨bd, 0, none⟩ (.int .i32 lk')) := by
  have hs : Same (· = bd) w (w.setCell ⟨bd, 0, none⟩ (.int .i32 lk')) := Same.setCell (S := (· = bd)) (Same.refl _ w) ⟨bd, 0, none⟩ rfl _
  refine ⟨h.turn hs lk' d.fuse d.down ?_, hs.weak (by rintro g rfl; exact h.rest.sb)⟩
  rw [heap_setCell_same w bd 0 _ _ _ h.blk]
  rfl

theorem dsk_has (bd m : Nat) (S : Nat → Prop) (d : Dsk) (at_ : Int) (w : World) (h : DskAt w S bd m d) :
    Calls Tryz.prog 99 #[.pointer (some ⟨bd, 0, none⟩), .int .i64 at_] w fun e w' => e = .returned (.bool (decide (0 ≤ at_) && decide (at_ < d.safe.length))) ∧ w = w' := by
  obtain ⟨gs, bm, wv, h⟩ := h
  have c2 : w.cell? ⟨bd, 2, none⟩ = some (.slice (some ⟨gs, 0, none⟩) d.safe.length d.safe.length) := cell_of_row _ _ _ _ _ _ h.blk
  clear h
  by_cases h0 : 0 ≤ at_
  · rw [decide_eq_true h0, Bool.true_and]
    go_enter Tryz.func99, Tryz.ntmps99
    go_wp2
    go_ret
    exact ⟨rfl, rfl⟩
  · rw [decide_eq_false h0, Bool.false_and]
    go_enter Tryz.func99, Tryz.ntmps99
    go_wp2
    go_ret
    exact ⟨rfl, rfl⟩
theorem dsk_sectors (bd m : Nat) (S : Nat → Prop) (d : Dsk) (w : World) (h : DskAt w S bd m d) :
    Calls Tryz.prog 42 #[.pointer (some ⟨bd, 0, none⟩)] w fun e w' => e = .returned (.int .i64 (d.safe.length : Int)) ∧ w = w' := by
  obtain ⟨gs, bm, wv, h⟩ := h
  have c2 : w.cell? ⟨bd, 2, none⟩ = some (.slice (some ⟨gs, 0, none⟩) d.safe.length d.safe.length) := cell_of_row _ _ _ _ _ _ h.blk
  clear h
  go_enter Tryz.func42, Tryz.ntmps42
  go_wp2
  go_ret
  exact ⟨rfl, rfl⟩

set_option maxRecDepth 100000 in
theorem dsk_waiting (bd m : Nat) (S : Nat → Prop) (d : Dsk) (w : World) (h : DskAt w S bd m d) :
    Calls Tryz.prog 70 #[.pointer (some ⟨bd, 0, none⟩)] w fun e w' => e = .returned (.int .i64 (d.wait.length : Int)) ∧ DskAt w' S bd m d ∧ Same S w w' := by
  obtain ⟨gs, bm, wv, h⟩ := h
  obtain ⟨ao, cw, rfl⟩ : ∃ ao cw, wv = .slice ao d.wait.length cw := by
    obtain ⟨-, h2 | ⟨g, cap, cur, hv, -⟩⟩ := h.rest.wait.1
    · exact ⟨none, 0, by rw [h2.2, h2.1]⟩
    · exact ⟨_, cap, hv⟩
  have c0 : w.cell? ⟨bd, 0, none⟩ = some (.int .i32 0) := cell_of_row _ _ _ _ _ _ h.blk
  have f0 := frozen_of_row w bd 0 _ _ h.blk
  obtain ⟨h1, s1⟩ := h.lockTo 1
  have c4 : (w.setCell ⟨bd, 0, none⟩ (.int .i32 1)).cell? ⟨bd, 4, none⟩ = some (.slice ao d.wait.length cw) := cell_of_row _ _ _ _ _ _ h1.blk
  have HV : Hid (DskV (w.setCell ⟨bd, 0, none⟩ (.int .i32 1)) S 1 bd gs bm m (.slice ao d.wait.length cw) d) := h1
  have HS : Hid (Same S w (w.setCell ⟨bd, 0, none⟩ (.int .i32 1))) := s1
  clear h h1 s1
  go_enter_defers Tryz.func70, Tryz.ntmps70
  go_wp2_with (go_at_call 122; refine (lock_free ⟨bd, 0, none⟩ _ c0 f0).mono ?_; rintro e w' ⟨rfl, rfl⟩)
  refine leaves_cons (f := 123) (args := #[.pointer (some ⟨bd, 0, none⟩)]) (by simp) (by simp [go_sem]) ?_
  refine (unlock_deferred ⟨bd, 0, none⟩ .returning _ (cell_of_row _ _ _ _ _ _ HV.out.blk) (frozen_of_row _ _ _ _ _ HV.out.blk)).mono ?_
  rintro e u' w'' ⟨rfl, rfl, hw⟩
  obtain ⟨h2, s2⟩ := HV.out.lockTo 0
  rw [← hw] at h2 s2
  exact ⟨_, results_tmp rfl _ _ _, rfl, ⟨_, _, _, h2⟩, HS.out.trans s2⟩
end Go.Proofs.YtphhmjcobmnpeaaGreatDoor
