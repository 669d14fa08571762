/- OWN TEXT: joined of: PMem PD1 PD2 PD3 PD4 PD5 PD7a PD7 PD8 PD9. -/
import Derived.Maps.OwnSet
import Derived.Maps.OwnOps
import Derived.Deep.MidRow
import Derived.Laws.Rows
import Derived.Deep.WholeRow
import Derived.Deep.RegionHeld3
import Derived.Great.BuildSlice
import Derived.Test.YtapijhhmjjplmaaGreatDoorJtrees2
namespace Go.Proofs.YtapijhhmjjplmaaGreatDoor
open Go.RowKit Go.Maps
/-- How an element of a map is held: as it is. -/
def heldR (v : Value) : Option (DataW Value × List MemPlace) := some (.held v, [])
def secs (l : List ByteArray) : List Value := l.flatMap fun s => bcells s.data.toList
def wrs (l : List (Nat × ByteArray)) : List Value := l.flatMap fun x => .int .i64 (x.1 : Int) :: bcells x.2.data.toList
def secV (s : ByteArray) : Value := .agg (bcells s.data.toList).toArray
/-- The map of the sectors for which a write waits. -/
def mapD (l : List (Nat × ByteArray)) : DataW Value := l.foldl (fun D x => D.put (.int .i64 (x.1 : Int)) (.held (secV x.2))) (.map [])
/-- What was written last at a place, if something waits there. -/
def lastW (l : List (Nat × ByteArray)) (k : Nat) : Option ByteArray := l.foldl (fun o x => if x.1 = k then some x.2 else o) none
theorem mapD_snoc (l : List (Nat × ByteArray)) (k : Nat) (s : ByteArray) : mapD (l ++ [(k, s)]) = (mapD l).put (.int .i64 (k : Int)) (.held (secV s)) := by simp [mapD, List.foldl_append]
theorem lastW_snoc (l : List (Nat × ByteArray)) (k j : Nat) (s : ByteArray) : lastW (l ++ [(k, s)]) j = if k = j then some s else lastW l j := by simp [lastW, List.foldl_append]
theorem mapD_isMap (l : List (Nat × ByteArray)) : IsMap (mapD l) := by
  have : ∀ (l : List (Nat × ByteArray)) (D : DataW Value), IsMap D → IsMap (l.foldl (fun D x => D.put (.int .i64 (x.1 : Int)) (.held (secV x.2))) D) := by
    intro l
    induction l with
    | nil => exact fun _ h => h
    | cons x r ih => exact fun D h => ih _ (h.put _ _)
  exact this l _ isMap_empty
theorem snoc_ind {α : Type} {P : List α → Prop} (h0 : P []) (hs : ∀ l x, P l → P (l ++ [x])) (l : List α) : P l := by
  have h : ∀ l : List α, P l.reverse := by
    intro l
    induction l with
    | nil => exact h0
    | cons x r ih => rw [List.reverse_cons]; exact hs _ _ ih
  have h1 := h l.reverse
  rw [List.reverse_reverse] at h1
  exact h1
theorem key_ne {k j : Nat} (h : k ≠ j) : (Lit.int .i64 (j : Int)) ≠ .int .i64 (k : Int) := by
  intro e
  cases e
  exact h rfl
theorem mapD_at (l : List (Nat × ByteArray)) (k : Nat) (z : DataW Value) : (mapD l).atKey (.int .i64 (k : Int)) z = (match lastW l k with | some s => .held (secV s) | none => z) ∧ Maps.has (mapD l) (.int .i64 (k : Int)) = (lastW l k).isSome := by
  refine snoc_ind (P := fun l => (mapD l).atKey (.int .i64 (k : Int)) z = (match lastW l k with | some s => .held (secV s) | none => z) ∧ Maps.has (mapD l) (.int .i64 (k : Int)) = (lastW l k).isSome) ⟨rfl, rfl⟩ (fun l x ih => ?_) l
  obtain ⟨j, s⟩ := x
  rw [mapD_snoc, lastW_snoc]
  by_cases h : j = k
  · subst h
    rw [if_pos rfl]
    have hk : WideAt.IsKeyLit (.int .i64 (j : Int)) := trivial
    exact ⟨atKey_put_same (mapD_isMap l) hk _ _, has_put_same (mapD_isMap l) hk _⟩
  · rw [if_neg h, atKey_put_other (key_ne h), has_put_other (key_ne h)]
    exact ih
/-- The program's disk. -/
structure Dsk where
  safe : List ByteArray
  wait : List (Nat × ByteArray)
  fuse : Int
  down : Bool
def dskRow (lk : Int) (gs n bm : Nat) (wv : Value) (fuse : Int) (down : Bool) : Array Value := #[.int .i32 lk, .int .u32 0, .slice (some ⟨gs, 0, none⟩) n n, .map (some bm), wv, .int .i64 fuse, .bool down]
/-- What is behind the disk's own block. -/
structure DskB (w : World) (S : Nat → Prop) (bd gs bm m : Nat) (wv : Value) (d : Dsk) : Prop where
  sec : w.heap[gs]? = some (.cells (secs d.safe).toArray 193 (0, 0))
  map : w.ownsMap Tryz.prog 3 heldR bm m (mapD d.wait)
  wait : OwnS w S 195 65 wv d.wait.length (wrs d.wait)
  sb : S bd
  ss : S gs
  sm : S bm
  n1 : bd ≠ gs
  n2 : bd ≠ bm
  n3 : gs ≠ bm
  d1 : ∀ g, wv.ownBlock = some g → g ≠ bd ∧ g ≠ gs ∧ g ≠ bm
  v1 : ∀ s ∈ d.safe, s.size = 64
  v2 : ∀ x ∈ d.wait, x.1 < d.safe.length ∧ x.2.size = 64
structure DskV (w : World) (S : Nat → Prop) (lk : Int) (bd gs bm m : Nat) (wv : Value) (d : Dsk) : Prop where
  blk : w.heap[bd]? = some (.cells (dskRow lk gs d.safe.length bm wv d.fuse d.down) 88 (0, 0))
  rest : DskB w S bd gs bm m wv d
def DskAt (w : World) (S : Nat → Prop) (bd m : Nat) (d : Dsk) : Prop := ∃ gs bm wv, DskV w S 0 bd gs bm m wv d
theorem ownsMap_heap {w w' : World} {k : TypeId} {b n : Nat} {D : DataW Value} (h : w.ownsMap Tryz.prog k heldR b n D) (e : w'.heap[b]? = w.heap[b]?) : w'.ownsMap Tryz.prog k heldR b n D := by
  obtain ⟨es, clock, h1, h2⟩ := h
  exact ⟨es, clock, by rw [e]; exact h1, h2⟩
theorem ownsMap_lt {w : World} {k : TypeId} {b n : Nat} {D : DataW Value} (h : w.ownsMap Tryz.prog k heldR b n D) : b < w.heap.size := by
  obtain ⟨es, clock, h1, h2⟩ := h
  exact (Array.getElem?_eq_some_iff.1 h1).1
theorem DskB.on {w w' : World} {S T : Nat → Prop} {bd gs bm m : Nat} {wv : Value} {d : Dsk} (h : DskB w S bd gs bm m wv d) (hs : Same T w w') (h1 : ¬ T gs) (h2 : ¬ T bm) (h3 : ∀ g, wv.ownBlock = some g → ¬ T g) : DskB w' S bd gs bm m wv d :=
  ⟨by rw [hs.block gs (lt_of_heap' h.sec) h1]; exact h.sec, ownsMap_heap h.map (hs.block bm (ownsMap_lt h.map) h2), h.wait.on hs h3, h.sb, h.ss, h.sm, h.n1, h.n2, h.n3, h.d1, h.v1, h.v2⟩
theorem DskB.own {w w' : World} {S : Nat → Prop} {bd gs bm m : Nat} {wv : Value} {d : Dsk} (h : DskB w S bd gs bm m wv d) (hs : Same (· = bd) w w') : DskB w' S bd gs bm m wv d :=
  h.on hs (fun e => h.n1 e.symm) (fun e => h.n2 e.symm) (fun g hg => (h.d1 g hg).1)
theorem DskB.flags {w : World} {S : Nat → Prop} {bd gs bm m : Nat} {wv : Value} {d : Dsk} (h : DskB w S bd gs bm m wv d) (fuse : Int) (down : Bool) : DskB w S bd gs bm m wv { d with fuse := fuse, down := down } :=
  ⟨h.sec, h.map, h.wait, h.sb, h.ss, h.sm, h.n1, h.n2, h.n3, h.d1, h.v1, h.v2⟩
theorem DskAt.on {w w' : World} {S T : Nat → Prop} {bd m : Nat} {d : Dsk} (h : DskAt w S bd m d) (hs : Same T w w') (hd : ∀ g, S g → ¬ T g) : DskAt w' S bd m d := by
  obtain ⟨gs, bm, wv, h⟩ := h
  refine ⟨gs, bm, wv, ?_, h.rest.on hs (hd _ h.rest.ss) (hd _ h.rest.sm) (fun g hg => hd g (h.rest.wait.2 g hg))⟩
  rw [hs.block bd (lt_of_heap' h.blk) (hd bd h.rest.sb)]
  exact h.blk
theorem DskB.mono {w : World} {S T : Nat → Prop} {bd gs bm m : Nat} {wv : Value} {d : Dsk} (h : DskB w S bd gs bm m wv d) (hd : ∀ g, S g → T g) : DskB w T bd gs bm m wv d :=
  ⟨h.sec, h.map, h.wait.mono hd, hd _ h.sb, hd _ h.ss, hd _ h.sm, h.n1, h.n2, h.n3, h.d1, h.v1, h.v2⟩
theorem DskAt.mono {w : World} {S T : Nat → Prop} {bd m : Nat} {d : Dsk} (h : DskAt w S bd m d) (hd : ∀ g, S g → T g) : DskAt w T bd m d := by
  obtain ⟨gs, bm, wv, h⟩ := h
  exact ⟨gs, bm, wv, h.blk, h.rest.mono hd⟩
/-- The disk's own block is written: the lock, the fuse, the flag. -/
theorem DskV.turn {w w' : World} {S : Nat → Prop} {lk : Int} {bd gs bm m : Nat} {wv : Value} {d : Dsk} (h : DskV w S lk bd gs bm m wv d) (hs : Same (· = bd) w w') (lk' fuse : Int) (down : Bool)
    (hb : w'.heap[bd]? = some (.cells (dskRow lk' gs d.safe.length bm wv fuse down) 88 (0, 0))) : DskV w' S lk' bd gs bm m wv { d with fuse := fuse, down := down } :=
  ⟨hb, (h.rest.own hs).flags fuse down⟩
theorem DskV.lockTo {w : World} {S : Nat → Prop} {lk : Int} {bd gs bm m : Nat} {wv : Value} {d : Dsk} (h : DskV w S lk bd gs bm m wv d) (lk' : Int) : DskV (w.setCell ⟨bd, 0, none⟩ (.int .i32 lk')) S lk' bd gs bm m wv d ∧ Same S w (w.setCell ⟨bd, 0, none⟩ (.int .i32 lk')) := by
  have hs : Same (· = bd) w (w.setCell ⟨bd, 0, none⟩ (.int .i32 lk')) := Same.setCell (S := (· = bd)) (Same.refl _ w) ⟨bd, 0, none⟩ rfl _
  refine ⟨h.turn hs lk' d.fuse d.down ?_, hs.weak (by rintro g rfl; exact h.rest.sb)⟩
  rw [heap_setCell_same w bd 0 _ _ _ h.blk]
  rfl
theorem dsk_has (bd m : Nat) (S : Nat → Prop) (d : Dsk) (at_ : Int) (w : World) (h : DskAt w S bd m d) :
    Calls Tryz.prog 179 #[.pointer (some ⟨bd, 0, none⟩), .int .i64 at_] w fun e w' => e = .returned (.bool (decide (0 ≤ at_) && decide (at_ < d.safe.length))) ∧ w = w' := by
  obtain ⟨gs, bm, wv, h⟩ := h
  have c2 : w.cell? ⟨bd, 2, none⟩ = some (.slice (some ⟨gs, 0, none⟩) d.safe.length d.safe.length) := cell_of_row _ _ _ _ _ _ h.blk
  clear h
  by_cases h0 : 0 ≤ at_
  · rw [decide_eq_true h0, Bool.true_and]
    go_enter Tryz.func179, Tryz.ntmps179
    go_wp2
    go_ret
    exact ⟨rfl, rfl⟩
  · rw [decide_eq_false h0, Bool.false_and]
    go_enter Tryz.func179, Tryz.ntmps179
    go_wp2
    go_ret
    exact ⟨rfl, rfl⟩
theorem dsk_sectors (bd m : Nat) (S : Nat → Prop) (d : Dsk) (w : World) (h : DskAt w S bd m d) :
    Calls Tryz.prog 62 #[.pointer (some ⟨bd, 0, none⟩)] w fun e w' => e = .returned (.int .i64 (d.safe.length : Int)) ∧ w = w' := by
  obtain ⟨gs, bm, wv, h⟩ := h
  have c2 : w.cell? ⟨bd, 2, none⟩ = some (.slice (some ⟨gs, 0, none⟩) d.safe.length d.safe.length) := cell_of_row _ _ _ _ _ _ h.blk
  clear h
  go_enter Tryz.func62, Tryz.ntmps62
  go_wp2
  go_ret
  exact ⟨rfl, rfl⟩
end Go.Proofs.YtapijhhmjjplmaaGreatDoor
namespace Go.Proofs.YtapijhhmjjplmaaGreatDoor
open Go.RowKit Go.Maps
theorem DskV.setFuse {w : World} {S : Nat → Prop} {lk : Int} {bd gs bm m : Nat} {wv : Value} {d : Dsk} (h : DskV w S lk bd gs bm m wv d) (x : Int) : DskV (w.setCell ⟨bd, 5, none⟩ (.int .i64 x)) S lk bd gs bm m wv { d with fuse := x } ∧ Same S w (w.setCell ⟨bd, 5, none⟩ (.int .i64 x)) := by
  have hs : Same (· = bd) w (w.setCell ⟨bd, 5, none⟩ (.int .i64 x)) := Same.setCell (S := (· = bd)) (Same.refl _ w) ⟨bd, 5, none⟩ rfl _
  refine ⟨h.turn hs lk x d.down ?_, hs.weak (by rintro g rfl; exact h.rest.sb)⟩
  rw [heap_setCell_same w bd 5 _ _ _ h.blk]
  rfl
theorem DskV.setDown {w : World} {S : Nat → Prop} {lk : Int} {bd gs bm m : Nat} {wv : Value} {d : Dsk} (h : DskV w S lk bd gs bm m wv d) (x : Bool) : DskV (w.setCell ⟨bd, 6, none⟩ (.bool x)) S lk bd gs bm m wv { d with down := x } ∧ Same S w (w.setCell ⟨bd, 6, none⟩ (.bool x)) := by
  have hs : Same (· = bd) w (w.setCell ⟨bd, 6, none⟩ (.bool x)) := Same.setCell (S := (· = bd)) (Same.refl _ w) ⟨bd, 6, none⟩ rfl _
  refine ⟨h.turn hs lk d.fuse x ?_, hs.weak (by rintro g rfl; exact h.rest.sb)⟩
  rw [heap_setCell_same w bd 6 _ _ _ h.blk]
  rfl
theorem zero_sec : ∀ w, (zeroValue 193).run Tryz.prog w = .ok (secV z64) w := fun _ => by kernel_rfl
theorem intKey : Keyed Tryz.prog 3 := int_keyed Tryz.underlying3
theorem key_wf (k : Nat) (h : k ≤ 4096) : (Lit.int .i64 (k : Int)).wf = true := by
  simp [Lit.wf, IntKind.min, IntKind.max, IntKind.signed, IntKind.bits]
  omega
/-- 's, ok := d.seen[at]'. -/
theorem wpList_lookup_sec {w : World} {ops : Array Oper} {rest : List Oper} {o : Oper} {a : Act} {Q : Exit → Act → World → Prop} (hg : o.guard = none) (mo x : Operand) (hop : o.op = Op.lookup 78 mo x true)
    (b n : Nat) (l : List (Nat × ByteArray)) (hm : a.eval mo = .map (some b)) (hown : w.ownsMap Tryz.prog 3 heldR b n (mapD l)) (k : Nat) (hx : a.eval x = .int .i64 (k : Int)) (hk : k ≤ 4096)
    (A : Array Value) (hA : secV ((lastW l k).getD z64) = .agg A) (ok : Bool) (hok : (lastW l k).isSome = ok)
    (hK : wpList Tryz.prog ops Q rest (a.put o.dst (.tuple #[.agg A, .bool ok])) w) : wpList Tryz.prog ops Q (o :: rest) a w := by
  refine wpList_lookup_own_ok w hg mo x 78 hop 3 193 intKey Tryz.underlying78 heldR (zero_sec w) (.held (secV z64)) [] rfl b n (mapD l) hm hown _ _ hx (keyOf_int_mk Tryz.underlying3 (key_wf k hk)) (fun v ps hv => ?_)
  obtain ⟨h1, h2⟩ := mapD_at l k (.held (secV z64))
  have hv' : (DataW.held v : DataW Value) = (mapD l).atKey (.int .i64 (k : Int)) (.held (secV z64)) := by
    unfold heldR at hv
    exact (Prod.mk.inj (Option.some.inj hv)).1
  have e : v = .agg A := by
    rw [← hA]
    rw [h1] at hv'
    cases hl : lastW l k with
    | none => rw [hl] at hv'; exact DataW.held.inj hv'
    | some s => rw [hl] at hv'; exact DataW.held.inj hv'
  rw [e, h2, hok]
  exact hK
end Go.Proofs.YtapijhhmjjplmaaGreatDoor
namespace Go.Proofs.YtapijhhmjjplmaaGreatDoor
open Go.RowKit Go.Maps
theorem bcells_oneArr (l : List UInt8) : (bcells l).toArray.all (·.oneCell') = true := by
  rw [Array.all_eq_true_iff_forall_mem]
  intro v hv
  exact bcells_one l v (by simpa using hv)
/-- Where a sector's cells lie. -/
theorem secs_at : ∀ (l : List ByteArray), (∀ s ∈ l, s.size = 64) → ∀ k (h : k < l.length) j, j < 64 → (secs l)[k * 64 + j]? = (bcells l[k].data.toList)[j]?
  | [], _, k, h, _, _ => by cases h
  | s :: r, hs, k, h, j, hj => by
    have hl : (bcells s.data.toList).length = 64 := by rw [bcells_length, Array.length_toList]; exact hs s (List.mem_cons_self ..)
    have e : secs (s :: r) = bcells s.data.toList ++ secs r := rfl
    match k, h with
    | 0, _ =>
      rw [e, Nat.zero_mul, Nat.zero_add, List.getElem?_append_left (by omega)]
      rfl
    | k + 1, h =>
      rw [e, List.getElem?_append_right (by rw [hl]; omega), hl, show (k + 1) * 64 + j - 64 = k * 64 + j by omega]
      exact secs_at r (fun x hx => hs x (List.mem_cons_of_mem _ hx)) k (by simpa using h) j hj
theorem secs_length : ∀ (l : List ByteArray), (∀ s ∈ l, s.size = 64) → (secs l).length = l.length * 64
  | [], _ => rfl
  | s :: r, hs => by
    have hl : (bcells s.data.toList).length = 64 := by rw [bcells_length, Array.length_toList]; exact hs s (List.mem_cons_self ..)
    have e : secs (s :: r) = bcells s.data.toList ++ secs r := rfl
    rw [e, List.length_append, hl, secs_length r (fun x hx => hs x (List.mem_cons_of_mem _ hx)), List.length_cons]
    omega
theorem sec_range {w : World} {gs : Nat} {t : TypeId} {l : List ByteArray} (h : w.heap[gs]? = some (.cells (secs l).toArray t (0, 0))) (hs : ∀ s ∈ l, s.size = 64) (k : Nat) (hk : k < l.length) : w.rangeAt gs (k * 64) (bcells l[k].data.toList) := by
  intro j v hv
  have hj : j < 64 := by
    have := (List.getElem?_eq_some_iff.1 hv).1
    rw [bcells_length, Array.length_toList] at this
    have h64 : l[k].data.size = 64 := hs _ (List.getElem_mem _)
    omega
  rw [cell_of_row _ _ _ _ _ _ h]
  simp only [List.getElem?_toArray]
  rw [secs_at l hs k hk j hj]
  exact hv
theorem DskV.keep {w w' : World} {S : Nat → Prop} {lk : Int} {bd gs bm m : Nat} {wv : Value} {d : Dsk} (h : DskV w S lk bd gs bm m wv d) (hb : Below w.heap.size w w') : DskV w' S lk bd gs bm m wv d := by
  have hs : Same (fun g => w.heap.size ≤ g) w w' := ⟨hb.os, hb.tape, hb.output, hb.size, fun k hk _ => hb.block k hk⟩
  have l1 := lt_of_heap' h.blk
  have l2 := lt_of_heap' h.rest.sec
  have l3 := ownsMap_lt h.rest.map
  refine ⟨by rw [hb.block _ l1]; exact h.blk, h.rest.on hs (by omega) (by omega) (fun g hg => ?_)⟩
  have := h.rest.wait.lt hg
  omega
theorem below_row {w : World} {Z A : Array Value} {t : TypeId} : Below w.heap.size w ((w.alloc (.cells Z t)).setRow w.heap.size A) := below_setRow ((Below.refl _ _).alloc (Nat.le_refl _) _) (Nat.le_refl _) _
theorem below_same {w w' : World} (S : Nat → Prop) (h : Below w.heap.size w w') : Same S w w' := ⟨h.os, h.tape, h.output, h.size, fun k hk _ => h.block k hk⟩
/-- 'string(s[:])' of a sector that lies in a new block. -/
theorem sec_string (w : World) (s : ByteArray) (hs : s.size = 64) (A : Array Value) (hA : A = (bcells s.data.toList).toArray) (Z : Array Value) :
    (convert 134 9 (.slice (some ⟨w.heap.size, 0, none⟩) 64 64)).run Tryz.prog ((w.alloc (.cells Z 193)).setRow w.heap.size A) = .ok (.string s) ((w.alloc (.cells Z 193)).setRow w.heap.size A) := by
  have hl : s.data.toList.length = 64 := by rw [Array.length_toList]; exact hs
  have h := run_convert_bytes_back (P := Tryz.prog) ((w.alloc (.cells Z 193)).setRow w.heap.size A) 134 9 5 ⟨w.heap.size, 0, none⟩ 64 s.data.toList Tryz.underlying134 Tryz.underlying5 Tryz.underlying9 ?_
  · rw [hl] at h
    exact h
  · intro j hj
    have e1 : (⟨w.heap.size, 0, none⟩ : Addr).add j = ⟨w.heap.size, j, none⟩ := by unfold Addr.add; split <;> simp_all
    have hr := setRow_heap _ _ _ A _ _ (heap_alloc_new w (.cells Z 193))
    rw [e1, cell_of_row _ _ _ _ _ _ hr, hA]
    simp only [List.getElem?_toArray]
    unfold bcells
    rw [List.getElem?_map, List.getElem?_eq_getElem hj]
    rfl
/-- A whole row is stored; the world behind it is a letter. -/
theorem wpList_store_rowA {P : Program} {ops : Array Oper} {rest : List Oper} {o : Oper} {a : Act} {w : World} {Q : Exit → Act → World → Prop} (hgd : o.guard = none) (ty : TypeId) (x y : Operand) (ho : o.op = .store ty x y)
    (g : Nat) (cells : Array Value) (hx : a.eval x = .pointer (some ⟨g, 0, none⟩)) (hy : a.eval y = .agg cells)
    (t : TypeId) (old : Array Value) (hg : w.heap[g]? = some (.cells old t (0, 0))) (hi : (P.info? ty).map (·.size) = some cells.size)
    (hold : old.size = cells.size) (h1 : cells.all (·.oneCell') = true)
    (h : ∀ w', Hid (w' = w.setRow g cells) → wpList P ops Q rest (a.put o.dst undef) w') : wpList P ops Q (o :: rest) a w :=
  wpList_store_row hgd ty x y ho g cells hx hy t old hg hi hold h1 (h _ rfl)
/-- What is read at a place. -/
def Dsk.at (d : Dsk) (k : Nat) (h : k < d.safe.length) : ByteArray := (lastW d.wait k).getD d.safe[k]
set_option maxRecDepth 100000 in
set_option maxHeartbeats 1000000 in
theorem dsk_read (bd m : Nat) (S : Nat → Prop) (d : Dsk) (k : Nat) (w : World) (h : DskAt w S bd m d) (hk : k < d.safe.length) (hn : d.safe.length ≤ 4096) :
    Calls Tryz.prog 104 #[.pointer (some ⟨bd, 0, none⟩), .int .i64 (k : Int)] w fun e w' => e = .returned (.tuple #[.string (d.at k hk), .nilIface]) ∧ DskAt w' S bd m d ∧ Same S w w' := by
  have HH : Hid (Calls Tryz.prog 179 #[.pointer (some ⟨bd, 0, none⟩), .int .i64 (k : Int)] w fun e w' => e = .returned (.bool true) ∧ w = w') := by
    have h1 := dsk_has bd m S d k w h
    have e : (decide (0 ≤ (k : Int)) && decide ((k : Int) < d.safe.length)) = true := by
      rw [Bool.and_eq_true, decide_eq_true_iff, decide_eq_true_iff]
      omega
    rw [e] at h1
    exact h1
  obtain ⟨gs, bm, wv, h⟩ := h
  have c0 : w.cell? ⟨bd, 0, none⟩ = some (.int .i32 0) := cell_of_row _ _ _ _ _ _ h.blk
  have f0 := frozen_of_row w bd 0 _ _ h.blk
  obtain ⟨h1, s1⟩ := h.lockTo 1
  obtain ⟨w1, hw1⟩ : ∃ w1, w1 = w.setCell ⟨bd, 0, none⟩ (.int .i32 1) := ⟨_, rfl⟩
  have HL : Hid (Calls Tryz.prog 57 #[.pointer (some ⟨bd, 0, none⟩)] w fun e w' => e = .returned (.tuple #[]) ∧ w1 = w') := by
    refine (lock_free ⟨bd, 0, none⟩ w c0 f0).mono ?_
    rintro e w' ⟨rfl, rfl⟩
    exact ⟨rfl, hw1⟩
  rw [← hw1] at h1 s1
  have c3 : w1.cell? ⟨bd, 3, none⟩ = some (.map (some bm)) := cell_of_row _ _ _ _ _ _ h1.blk
  have hlb := lt_of_heap' h1.blk
  have hnot : ∀ (x : Bool) (w : World), (Op.unary .not (.bool x)).run Tryz.prog w = .ok (.bool (!x)) w := fun _ _ => rfl
  obtain ⟨A, hA⟩ : ∃ A, secV ((lastW d.wait k).getD z64) = .agg A := ⟨_, rfl⟩
  have hs64 : ((lastW d.wait k).getD z64).size = 64 := by
    cases hl : lastW d.wait k with
    | none => exact z64_size
    | some s =>
      have : ∀ (l : List (Nat × ByteArray)), (∀ x ∈ l, x.2.size = 64) → ∀ s, lastW l k = some s → s.size = 64 := by
        intro l
        refine snoc_ind (P := fun l => (∀ x ∈ l, x.2.size = 64) → ∀ s, lastW l k = some s → s.size = 64) (fun _ s e => by cases e) (fun l x ih hx s e => ?_) l
        obtain ⟨j, t⟩ := x
        rw [lastW_snoc] at e
        split at e
        · cases e
          exact hx (j, s) (by simp)
        · exact ih (fun y hy => hx y (by simp [hy])) s e
      exact this d.wait (fun x hx => (h1.rest.v2 x hx).2) s hl
  have hAs : A.size = 64 := by
    unfold secV at hA
    cases hA
    rw [List.size_toArray, bcells_length, Array.length_toList]
    exact hs64
  have HIA : Hid ((Tryz.prog.info? 193).map (·.size) = some A.size) := by show _ = _; rw [hAs]; kernel_rfl
  have HZA : Hid (∀ Z : Array Value, Z.size = 64 → Z.size = A.size) := fun Z hz => hz.trans hAs.symm
  have HOA : Hid (A.all (·.oneCell') = true) := by
    unfold secV at hA
    cases hA
    exact bcells_oneArr _
  have HMAP : Hid (w1.ownsMap Tryz.prog 3 heldR bm m (mapD d.wait)) := h1.rest.map
  have HV : Hid (DskV w1 S 1 bd gs bm m wv d) := h1
  have HS : Hid (Same S w w1) := s1
  have HAE : Hid (secV ((lastW d.wait k).getD z64) = .agg A) := hA
  have HS64 : Hid (((lastW d.wait k).getD z64).size = 64) := hs64
  clear h h1 s1 hw1 hA hAs c0 f0 hs64
  cases hok : lastW d.wait k with
  | some s =>
    have hk4 : k ≤ 4096 := by omega
    have HOK : Hid ((lastW d.wait k).isSome = true) := by rw [hok]; rfl
    have hAs : A = (bcells s.data.toList).toArray := by
      have h := HAE.out
      rw [hok] at h
      exact (Value.agg.inj h).symm
    have hs64 : s.size = 64 := by
      have h := HS64.out
      rw [hok] at h
      exact h
    have hcv := sec_string w1 s hs64 A hAs
    have hat : d.at k hk = s := by unfold Dsk.at; rw [hok]; rfl
    rw [hat]
    clear hat hAs hs64 hok
    go_enter_defers Tryz.func104, Tryz.ntmps104
    go_wp2_with (first | (go_at_call 179; refine HH.out.mono ?_; rintro e w' ⟨rfl, rfl⟩) | (go_at_call 57; refine HL.out.mono ?_; rintro e w' ⟨rfl, rfl⟩) | (at_lookup; refine wpList_lookup_sec rfl _ _ rfl bm m d.wait rfl HMAP.out k rfl hk4 A HAE.out true HOK.out ?_) | refine wpList_store_row rfl 193 _ _ rfl w1.heap.size A rfl rfl 193 _ (heap_alloc_new w1 _) HIA.out (HZA.out _ rfl) HOA.out ?_)
    have h2 := fun Z => HV.out.keep (below_row (Z := Z) (A := A) (t := 193))
    refine leaves_cons (f := 58) (args := #[.pointer (some ⟨bd, 0, none⟩)]) (by simp) (by simp [go_sem]) ?_
    refine (unlock_deferred ⟨bd, 0, none⟩ .returning _ (cell_of_row _ _ _ _ _ _ (h2 _).blk) (frozen_of_row _ _ _ _ _ (h2 _).blk)).mono ?_
    rintro e u' w'' ⟨rfl, rfl, hw⟩
    have h3 := fun Z => (h2 Z).lockTo 0
    refine ⟨_, results_tmp2 rfl _ _ _, rfl, ?_, ?_⟩
    · rw [hw]
      exact ⟨_, _, _, (h3 _).1⟩
    · rw [hw]
      exact HS.out.trans ((below_same S below_row).trans (h3 _).2)
  | none =>
    have hk4 : k ≤ 4096 := by omega
    have HOK : Hid ((lastW d.wait k).isSome = false) := by rw [hok]; rfl
    obtain ⟨s, hs⟩ : ∃ s, s = d.safe[k] := ⟨_, rfl⟩
    have hs64 : s.size = 64 := by rw [hs]; exact HV.out.rest.v1 _ (List.getElem_mem _)
    obtain ⟨C, hC⟩ : ∃ C, C = bcells s.data.toList := ⟨_, rfl⟩
    obtain ⟨B, hB⟩ : ∃ B, B = C.toArray := ⟨_, rfl⟩
    have hCl : C.length = 64 := by rw [hC, bcells_length, Array.length_toList]; exact hs64
    have hBs : B.size = 64 := by rw [hB, List.size_toArray]; exact hCl
    have HCV : Hid (∀ (Z : Array Value) (w2 w3 : World), w2 = (w1.alloc (.cells Z 193)).setRow w1.heap.size A → w3 = w2.setRow w1.heap.size B → (convert 134 9 (.slice (some ⟨w1.heap.size, 0, none⟩) 64 64)).run Tryz.prog w3 = .ok (.string s) w3) := fun Z w2 w3 e1 e2 => by
      rw [e2, e1, setRow_setRow]
      exact sec_string w1 s hs64 B (by rw [hB, hC]) Z
    have hat : d.at k hk = s := by unfold Dsk.at; rw [hok, hs]; rfl
    rw [hat]
    have HRG0 : Hid (∀ w2, Below w1.heap.size w1 w2 → w2.rangeAt gs (k * 64) C) := fun w2 hb => by
      rw [hC, hs]
      exact sec_range (HV.out.keep hb).rest.sec HV.out.rest.v1 k hk
    have HIC : Hid ((Tryz.prog.info? 193).map (·.size) = some C.length) := by show _ = _; rw [hCl]; kernel_rfl
    have HIB : Hid ((Tryz.prog.info? 193).map (·.size) = some B.size) := by show _ = _; rw [hBs]; kernel_rfl
    have HAB : Hid (A.size = B.size) := by show _ = _; rw [hBs]; exact (HZA.out (List.replicate 64 (Value.int .u8 0)).toArray (by simp)).symm.trans (by simp)
    have HOB : Hid (B.all (·.oneCell') = true) := by rw [hB, hC]; exact bcells_oneArr _
    have HBC : Hid (C.toArray = B) := hB.symm
    have hki : (k : Int) < d.safe.length := by omega
    clear hat hs64 hok hs hC hB hCl hBs
    go_enter_defers Tryz.func104, Tryz.ntmps104
    go_wp2_with (first | (go_at_call 179; refine HH.out.mono ?_; rintro e w' ⟨rfl, rfl⟩) | (go_at_call 57; refine HL.out.mono ?_; rintro e w' ⟨rfl, rfl⟩) | (at_lookup; refine wpList_lookup_sec rfl _ _ rfl bm m d.wait rfl HMAP.out k rfl hk4 A HAE.out false HOK.out ?_) | (refine wpList_store_rowA rfl 193 _ _ rfl w1.heap.size A rfl rfl 193 _ (heap_alloc_new w1 _) HIA.out (HZA.out _ rfl) HOA.out ?_; intro w2 hw2; have HB2 : Hid (Below w1.heap.size w1 w2) := (by rw [hw2.out]; exact below_row); have HCV2 := fun w3 => HCV.out _ w2 w3 hw2.out; have HCV3 : Hid (∀ w3, w3 = w2.setRow w1.heap.size B → (convert 134 9 (.slice (some ⟨w1.heap.size, 0, none⟩) 64 64)).run Tryz.prog w3 = .ok (.string s) w3) := HCV2; have HR2 : Hid (w2.heap[w1.heap.size]? = some (.cells A 193 (0, 0))) := (by rw [hw2.out]; exact setRow_heap _ _ _ _ _ _ (heap_alloc_new w1 _)); have c2 : w2.cell? ⟨bd, 2, none⟩ = some (.slice (some ⟨gs, 0, none⟩) d.safe.length d.safe.length) := cell_of_row _ _ _ _ _ _ (HV.out.keep HB2.out).blk; have HRG : Hid (w2.rangeAt gs (k * 64) C) := HRG0.out w2 HB2.out; clear HCV2 hw2) | (refine wpList_load_mid rfl 193 _ rfl gs (k * 64) rfl C _ HRG.out Tryz.underlying193 rfl HIC.out ?_; rw [HBC.out]) | (refine wpList_store_rowA rfl 193 _ _ rfl w1.heap.size B rfl rfl 193 A HR2.out HIB.out HAB.out HOB.out ?_; intro w3 hw3; have hcv := HCV3.out w3 hw3.out; have HB3 : Hid (Below w1.heap.size w1 w3) := (by rw [hw3.out]; exact below_setRow HB2.out (Nat.le_refl _) _)))
    have h2 := HV.out.keep HB3.out
    refine leaves_cons (f := 58) (args := #[.pointer (some ⟨bd, 0, none⟩)]) (by simp) (by simp [go_sem]) ?_
    refine (unlock_deferred ⟨bd, 0, none⟩ .returning _ (cell_of_row _ _ _ _ _ _ h2.blk) (frozen_of_row _ _ _ _ _ h2.blk)).mono ?_
    rintro e u' w'' ⟨rfl, rfl, hw⟩
    obtain ⟨h3, s3⟩ := h2.lockTo 0
    rw [← hw] at h3 s3
    exact ⟨_, results_tmp2 rfl _ _ _, rfl, ⟨_, _, _, h3⟩, HS.out.trans ((below_same S HB3.out).trans s3)⟩
end Go.Proofs.YtapijhhmjjplmaaGreatDoor
namespace Go.Proofs.YtapijhhmjjplmaaGreatDoor
open Go.RowKit Go.Maps
/-- What an operation leaves of fuse and flag. -/
def Dsk.op (d : Dsk) : Dsk := if 0 < d.fuse then { d with fuse := d.fuse - 1, down := d.down || decide (d.fuse - 1 = 0) } else d
theorem dop_not (d : Dsk) (h : ¬ 0 < d.fuse) : d.op = d := by unfold Dsk.op; rw [if_neg h]
theorem dop_lit (d : Dsk) (h : 0 < d.fuse) : d.op = { d with fuse := d.fuse - 1, down := d.down || decide (d.fuse - 1 = 0) } := by unfold Dsk.op; rw [if_pos h]
theorem dop_safe (d : Dsk) : d.op.safe = d.safe := by unfold Dsk.op; split <;> rfl
theorem dop_wait (d : Dsk) : d.op.wait = d.wait := by unfold Dsk.op; split <;> rfl
/-- The world in which an operation's own work is done. -/
def opW (w : World) (bd : Nat) (d : Dsk) : World := if 0 < d.fuse then ((w.setCell ⟨bd, 0, none⟩ (.int .i32 1)).setCell ⟨bd, 5, none⟩ (.int .i64 (d.fuse - 1))).setCell ⟨bd, 6, none⟩ (.bool (d.down || decide (d.fuse - 1 = 0))) else w.setCell ⟨bd, 0, none⟩ (.int .i32 1)
theorem opW_lit (w : World) (bd : Nat) (d : Dsk) (h : 0 < d.fuse) : opW w bd d = ((w.setCell ⟨bd, 0, none⟩ (.int .i32 1)).setCell ⟨bd, 5, none⟩ (.int .i64 (d.fuse - 1))).setCell ⟨bd, 6, none⟩ (.bool (d.down || decide (d.fuse - 1 = 0))) := by unfold opW; rw [if_pos h]
theorem opW_not (w : World) (bd : Nat) (d : Dsk) (h : ¬ 0 < d.fuse) : opW w bd d = w.setCell ⟨bd, 0, none⟩ (.int .i32 1) := by unfold opW; rw [if_neg h]
theorem opW_at {w : World} {S : Nat → Prop} {bd gs bm m : Nat} {wv : Value} {d : Dsk} (h : DskV w S 0 bd gs bm m wv d) : DskV (opW w bd d) S 1 bd gs bm m wv d.op ∧ Same S w (opW w bd d) := by
  obtain ⟨h1, s1⟩ := h.lockTo 1
  by_cases hf : 0 < d.fuse
  · rw [opW_lit w bd d hf, dop_lit d hf]
    obtain ⟨h2, s2⟩ := h1.setFuse (d.fuse - 1)
    obtain ⟨h3, s3⟩ := h2.setDown (d.down || decide (d.fuse - 1 = 0))
    exact ⟨h3, s1.trans (s2.trans s3)⟩
  · rw [opW_not w bd d hf, dop_not d hf]
    exact ⟨h1, s1⟩
set_option maxRecDepth 100000 in
set_option maxHeartbeats 1000000 in
theorem operate_down (bd m : Nat) (S : Nat → Prop) (d : Dsk) (fv ev : Value) (w : World) (h : DskAt w S bd m d) (hE : w.cell? ⟨1, 0, none⟩ = some ev) (hG : bd ≠ 1) (hd : d.op.down = true) (hf : d.fuse ≤ 9223372036854775807) :
    Calls Tryz.prog 214 #[.pointer (some ⟨bd, 0, none⟩), fv] w fun e w' => e = .returned ev ∧ DskAt w' S bd m d.op ∧ Same S w w' := by
  obtain ⟨gs, bm, wv, h⟩ := h
  have c0 : w.cell? ⟨bd, 0, none⟩ = some (.int .i32 0) := cell_of_row _ _ _ _ _ _ h.blk
  have f0 := frozen_of_row w bd 0 _ _ h.blk
  obtain ⟨h1, s1⟩ := h.lockTo 1
  have c5 : (w.setCell ⟨bd, 0, none⟩ (.int .i32 1)).cell? ⟨bd, 5, none⟩ = some (.int .i64 d.fuse) := cell_of_row _ _ _ _ _ _ h1.blk
  have c6 : (w.setCell ⟨bd, 0, none⟩ (.int .i32 1)).cell? ⟨bd, 6, none⟩ = some (.bool d.down) := cell_of_row _ _ _ _ _ _ h1.blk
  have f5 := frozen_of_row _ bd 5 _ _ h1.blk
  have f6 := frozen_of_row _ bd 6 _ _ h1.blk
  obtain ⟨h2, s2⟩ := opW_at h
  have HV : Hid (DskV (opW w bd d) S 1 bd gs bm m wv d.op) := h2
  have HS : Hid (Same S w (opW w bd d)) := s2
  have hnot : ∀ (x : Bool) (w : World), (Op.unary .not (.bool x)).run Tryz.prog w = .ok (.bool (!x)) w := fun _ _ => rfl
  have HE : Hid (w.cell? ⟨1, 0, none⟩ = some ev) := hE
  clear h h1 s1 h2 s2
  have hGa : (⟨bd, 0, none⟩ : Addr) ≠ ⟨1, 0, none⟩ := fun e => hG (congrArg Addr.block e)
  have hE1 : (w.setCell ⟨bd, 0, none⟩ (.int .i32 1)).cell? ⟨1, 0, none⟩ = some ev := by rw [World.cell?_setCell_other _ _ _ _ hGa]; exact hE
  have HFIN : Hid (∀ (w'' : World), w'' = (opW w bd d).setCell ⟨bd, 0, none⟩ (.int .i32 0) → DskAt w'' S bd m d.op ∧ Same S w w'') := fun w'' hw => by
    obtain ⟨h3, s3⟩ := HV.out.lockTo 0
    rw [← hw] at h3 s3
    exact ⟨⟨_, _, _, h3⟩, HS.out.trans s3⟩
  by_cases hfz : 0 < d.fuse
  · rw [dop_lit d hfz] at hd
    have hd' : (d.down || decide (d.fuse - 1 = 0)) = true := hd
    have HOW : Hid (opW w bd d = ((w.setCell ⟨bd, 0, none⟩ (.int .i32 1)).setCell ⟨bd, 5, none⟩ (.int .i64 (d.fuse - 1))).setCell ⟨bd, 6, none⟩ (.bool true)) := by
      show _ = _
      rw [opW_lit w bd d hfz, hd']
    cases hdd : d.down
    · have hb : ((d.fuse - 1 : Int) == 0) = true := by
        rw [hdd, Bool.false_or, decide_eq_true_iff] at hd'
        rw [beq_iff_eq]; exact hd'
      rw [hdd] at c6
      clear hd hd' hdd
      go_enter_defers Tryz.func214, Tryz.ntmps214
      go_wp2_with (go_at_call 57; refine (lock_free ⟨bd, 0, none⟩ _ c0 f0).mono ?_; rintro e w' ⟨rfl, rfl⟩)
      have hv := HV.out
      rw [HOW.out] at hv
      refine leaves_cons (f := 58) (args := #[.pointer (some ⟨bd, 0, none⟩)]) (by simp) (by simp [go_sem]) ?_
      refine (unlock_deferred ⟨bd, 0, none⟩ .returning _ (cell_of_row _ _ _ _ _ _ hv.blk) (frozen_of_row _ _ _ _ _ hv.blk)).mono ?_
      rintro e u' w'' ⟨rfl, rfl, hw⟩
      rw [← HOW.out] at hw
      exact ⟨_, results_tmp rfl _ _ _, rfl, HFIN.out _ hw⟩
    · rw [hdd] at c6
      clear hd hd' hdd
      go_enter_defers Tryz.func214, Tryz.ntmps214
      go_wp2_with (go_at_call 57; refine (lock_free ⟨bd, 0, none⟩ _ c0 f0).mono ?_; rintro e w' ⟨rfl, rfl⟩)
      have hv := HV.out
      rw [HOW.out] at hv
      refine leaves_cons (f := 58) (args := #[.pointer (some ⟨bd, 0, none⟩)]) (by simp) (by simp [go_sem]) ?_
      refine (unlock_deferred ⟨bd, 0, none⟩ .returning _ (cell_of_row _ _ _ _ _ _ hv.blk) (frozen_of_row _ _ _ _ _ hv.blk)).mono ?_
      rintro e u' w'' ⟨rfl, rfl, hw⟩
      rw [← HOW.out] at hw
      exact ⟨_, results_tmp rfl _ _ _, rfl, HFIN.out _ hw⟩
  · rw [dop_not d hfz] at hd
    have HOW : Hid (opW w bd d = w.setCell ⟨bd, 0, none⟩ (.int .i32 1)) := opW_not w bd d hfz
    rw [hd] at c6
    clear hd
    go_enter_defers Tryz.func214, Tryz.ntmps214
    go_wp2_with (go_at_call 57; refine (lock_free ⟨bd, 0, none⟩ _ c0 f0).mono ?_; rintro e w' ⟨rfl, rfl⟩)
    have hv := HV.out
    rw [HOW.out] at hv
    refine leaves_cons (f := 58) (args := #[.pointer (some ⟨bd, 0, none⟩)]) (by simp) (by simp [go_sem]) ?_
    refine (unlock_deferred ⟨bd, 0, none⟩ .returning _ (cell_of_row _ _ _ _ _ _ hv.blk) (frozen_of_row _ _ _ _ _ hv.blk)).mono ?_
    rintro e u' w'' ⟨rfl, rfl, hw⟩
    rw [← HOW.out] at hw
    exact ⟨_, results_tmp rfl _ _ _, rfl, HFIN.out _ hw⟩
set_option maxRecDepth 100000 in
set_option maxHeartbeats 1000000 in
theorem operate_write (bd m m' : Nat) (S T U : Nat → Prop) (d d' : Dsk) (caps : Array Value) (w : World) (h : DskAt w S bd m d) (hd : d.op.down = false) (hf : d.fuse ≤ 9223372036854775807) (hTS : ∀ g, S g → T g) (hUT : ∀ g, U g → T g)
    (hC : ∀ w2 gs bm wv, DskV w2 S 1 bd gs bm m wv d.op → Same (· = bd) w w2 → Calls Tryz.prog 215 caps w2 fun e w3 => e = .returned (.tuple #[]) ∧ (∃ gs' bm' wv', DskV w3 U 1 bd gs' bm' m' wv' d') ∧ Same T w2 w3) :
    Calls Tryz.prog 214 #[.pointer (some ⟨bd, 0, none⟩), .func (.func 215) #[] caps] w fun e w' => e = .returned .nilIface ∧ DskAt w' U bd m' d' ∧ Same T w w' := by
  obtain ⟨gs, bm, wv, h⟩ := h
  have c0 : w.cell? ⟨bd, 0, none⟩ = some (.int .i32 0) := cell_of_row _ _ _ _ _ _ h.blk
  have f0 := frozen_of_row w bd 0 _ _ h.blk
  obtain ⟨h1, s1⟩ := h.lockTo 1
  have c5 : (w.setCell ⟨bd, 0, none⟩ (.int .i32 1)).cell? ⟨bd, 5, none⟩ = some (.int .i64 d.fuse) := cell_of_row _ _ _ _ _ _ h1.blk
  have c6 : (w.setCell ⟨bd, 0, none⟩ (.int .i32 1)).cell? ⟨bd, 6, none⟩ = some (.bool d.down) := cell_of_row _ _ _ _ _ _ h1.blk
  have f5 := frozen_of_row _ bd 5 _ _ h1.blk
  have f6 := frozen_of_row _ bd 6 _ _ h1.blk
  obtain ⟨h2, s2⟩ := opW_at h
  have HV : Hid (DskV (opW w bd d) S 1 bd gs bm m wv d.op) := h2
  have HS : Hid (Same S w (opW w bd d)) := s2
  have hnot : ∀ (x : Bool) (w : World), (Op.unary .not (.bool x)).run Tryz.prog w = .ok (.bool (!x)) w := fun _ _ => rfl
  have hob : Same (· = bd) w (opW w bd d) := by
    by_cases hf : 0 < d.fuse
    · rw [opW_lit w bd d hf]
      exact Same.setCell (S := (· = bd)) (Same.setCell (S := (· = bd)) (Same.setCell (S := (· = bd)) (Same.refl _ w) ⟨bd, 0, none⟩ rfl _) ⟨bd, 5, none⟩ rfl _) ⟨bd, 6, none⟩ rfl _
    · rw [opW_not w bd d hf]
      exact Same.setCell (S := (· = bd)) (Same.refl _ w) ⟨bd, 0, none⟩ rfl _
  have HC : Hid (Calls Tryz.prog 215 caps (opW w bd d) fun e w3 => e = .returned (.tuple #[]) ∧ Hid (∃ gs' bm' wv', DskV w3 U 1 bd gs' bm' m' wv' d') ∧ Hid (Same T (opW w bd d) w3)) := hC (opW w bd d) gs bm wv h2 hob
  clear h h1 s1 h2 s2 hC hob
  by_cases hfz : 0 < d.fuse
  · rw [dop_lit d hfz] at hd
    have hd' : (d.down || decide (d.fuse - 1 = 0)) = false := hd
    have HOW : Hid (opW w bd d = ((w.setCell ⟨bd, 0, none⟩ (.int .i32 1)).setCell ⟨bd, 5, none⟩ (.int .i64 (d.fuse - 1))).setCell ⟨bd, 6, none⟩ (.bool false)) := by
      show _ = _
      rw [opW_lit w bd d hfz, hd']
    rw [Bool.or_eq_false_iff, decide_eq_false_iff_not] at hd'
    have hb : ((d.fuse - 1 : Int) == 0) = false := by rw [beq_eq_false_iff_ne]; exact hd'.2
    rw [hd'.1] at c6
    have HCC := HC
    rw [HOW.out] at HCC
    rw [HOW.out] at HS
    clear hd hd' HC HV
    go_enter_defers Tryz.func214, Tryz.ntmps214
    go_wp2_with (first | (go_at_call 57; refine (lock_free ⟨bd, 0, none⟩ _ c0 f0).mono ?_; rintro e w' ⟨rfl, rfl⟩) | (go_at_call 215; refine HCC.out.mono ?_; rintro e w3 ⟨rfl, HV3, HS3⟩))
    obtain ⟨gs', bm', wv', hv⟩ := HV3.out
    refine leaves_cons (f := 58) (args := #[.pointer (some ⟨bd, 0, none⟩)]) (by simp) (by simp [go_sem]) ?_
    refine (unlock_deferred ⟨bd, 0, none⟩ .returning _ (cell_of_row _ _ _ _ _ _ hv.blk) (frozen_of_row _ _ _ _ _ hv.blk)).mono ?_
    rintro e u' w'' ⟨rfl, rfl, hw⟩
    obtain ⟨h3, s3⟩ := hv.lockTo 0
    rw [← hw] at h3 s3
    exact ⟨_, results_tmp rfl _ _ _, rfl, ⟨_, _, _, h3⟩, (HS.out.weak hTS).trans (HS3.out.trans (s3.weak hUT))⟩
  · rw [dop_not d hfz] at hd
    have HOW : Hid (opW w bd d = w.setCell ⟨bd, 0, none⟩ (.int .i32 1)) := opW_not w bd d hfz
    rw [hd] at c6
    have HCC := HC
    rw [HOW.out] at HCC
    rw [HOW.out] at HS
    clear hd HC HV
    go_enter_defers Tryz.func214, Tryz.ntmps214
    go_wp2_with (first | (go_at_call 57; refine (lock_free ⟨bd, 0, none⟩ _ c0 f0).mono ?_; rintro e w' ⟨rfl, rfl⟩) | (go_at_call 215; refine HCC.out.mono ?_; rintro e w3 ⟨rfl, HV3, HS3⟩))
    obtain ⟨gs', bm', wv', hv⟩ := HV3.out
    refine leaves_cons (f := 58) (args := #[.pointer (some ⟨bd, 0, none⟩)]) (by simp) (by simp [go_sem]) ?_
    refine (unlock_deferred ⟨bd, 0, none⟩ .returning _ (cell_of_row _ _ _ _ _ _ hv.blk) (frozen_of_row _ _ _ _ _ hv.blk)).mono ?_
    rintro e u' w'' ⟨rfl, rfl, hw⟩
    obtain ⟨h3, s3⟩ := hv.lockTo 0
    rw [← hw] at h3 s3
    exact ⟨_, results_tmp rfl _ _ _, rfl, ⟨_, _, _, h3⟩, (HS.out.weak hTS).trans (HS3.out.trans (s3.weak hUT))⟩
set_option maxRecDepth 100000 in
set_option maxHeartbeats 1000000 in
theorem operate_flush (bd m m' : Nat) (S T U : Nat → Prop) (d d' : Dsk) (caps : Array Value) (w : World) (h : DskAt w S bd m d) (hd : d.op.down = false) (hf : d.fuse ≤ 9223372036854775807) (hTS : ∀ g, S g → T g) (hUT : ∀ g, U g → T g)
    (hC : ∀ w2 gs bm wv, DskV w2 S 1 bd gs bm m wv d.op → Same (· = bd) w w2 → Calls Tryz.prog 216 caps w2 fun e w3 => e = .returned (.tuple #[]) ∧ (∃ gs' bm' wv', DskV w3 U 1 bd gs' bm' m' wv' d') ∧ Same T w2 w3) :
    Calls Tryz.prog 214 #[.pointer (some ⟨bd, 0, none⟩), .func (.func 216) #[] caps] w fun e w' => e = .returned .nilIface ∧ DskAt w' U bd m' d' ∧ Same T w w' := by
  obtain ⟨gs, bm, wv, h⟩ := h
  have c0 : w.cell? ⟨bd, 0, none⟩ = some (.int .i32 0) := cell_of_row _ _ _ _ _ _ h.blk
  have f0 := frozen_of_row w bd 0 _ _ h.blk
  obtain ⟨h1, s1⟩ := h.lockTo 1
  have c5 : (w.setCell ⟨bd, 0, none⟩ (.int .i32 1)).cell? ⟨bd, 5, none⟩ = some (.int .i64 d.fuse) := cell_of_row _ _ _ _ _ _ h1.blk
  have c6 : (w.setCell ⟨bd, 0, none⟩ (.int .i32 1)).cell? ⟨bd, 6, none⟩ = some (.bool d.down) := cell_of_row _ _ _ _ _ _ h1.blk
  have f5 := frozen_of_row _ bd 5 _ _ h1.blk
  have f6 := frozen_of_row _ bd 6 _ _ h1.blk
  obtain ⟨h2, s2⟩ := opW_at h
  have HV : Hid (DskV (opW w bd d) S 1 bd gs bm m wv d.op) := h2
  have HS : Hid (Same S w (opW w bd d)) := s2
  have hnot : ∀ (x : Bool) (w : World), (Op.unary .not (.bool x)).run Tryz.prog w = .ok (.bool (!x)) w := fun _ _ => rfl
  have hob : Same (· = bd) w (opW w bd d) := by
    by_cases hf : 0 < d.fuse
    · rw [opW_lit w bd d hf]
      exact Same.setCell (S := (· = bd)) (Same.setCell (S := (· = bd)) (Same.setCell (S := (· = bd)) (Same.refl _ w) ⟨bd, 0, none⟩ rfl _) ⟨bd, 5, none⟩ rfl _) ⟨bd, 6, none⟩ rfl _
    · rw [opW_not w bd d hf]
      exact Same.setCell (S := (· = bd)) (Same.refl _ w) ⟨bd, 0, none⟩ rfl _
  have HC : Hid (Calls Tryz.prog 216 caps (opW w bd d) fun e w3 => e = .returned (.tuple #[]) ∧ Hid (∃ gs' bm' wv', DskV w3 U 1 bd gs' bm' m' wv' d') ∧ Hid (Same T (opW w bd d) w3)) := hC (opW w bd d) gs bm wv h2 hob
  clear h h1 s1 h2 s2 hC hob
  by_cases hfz : 0 < d.fuse
  · rw [dop_lit d hfz] at hd
    have hd' : (d.down || decide (d.fuse - 1 = 0)) = false := hd
    have HOW : Hid (opW w bd d = ((w.setCell ⟨bd, 0, none⟩ (.int .i32 1)).setCell ⟨bd, 5, none⟩ (.int .i64 (d.fuse - 1))).setCell ⟨bd, 6, none⟩ (.bool false)) := by
      show _ = _
      rw [opW_lit w bd d hfz, hd']
    rw [Bool.or_eq_false_iff, decide_eq_false_iff_not] at hd'
    have hb : ((d.fuse - 1 : Int) == 0) = false := by rw [beq_eq_false_iff_ne]; exact hd'.2
    rw [hd'.1] at c6
    have HCC := HC
    rw [HOW.out] at HCC
    rw [HOW.out] at HS
    clear hd hd' HC HV
    go_enter_defers Tryz.func214, Tryz.ntmps214
    go_wp2_with (first | (go_at_call 57; refine (lock_free ⟨bd, 0, none⟩ _ c0 f0).mono ?_; rintro e w' ⟨rfl, rfl⟩) | (go_at_call 216; refine HCC.out.mono ?_; rintro e w3 ⟨rfl, HV3, HS3⟩))
    obtain ⟨gs', bm', wv', hv⟩ := HV3.out
    refine leaves_cons (f := 58) (args := #[.pointer (some ⟨bd, 0, none⟩)]) (by simp) (by simp [go_sem]) ?_
    refine (unlock_deferred ⟨bd, 0, none⟩ .returning _ (cell_of_row _ _ _ _ _ _ hv.blk) (frozen_of_row _ _ _ _ _ hv.blk)).mono ?_
    rintro e u' w'' ⟨rfl, rfl, hw⟩
    obtain ⟨h3, s3⟩ := hv.lockTo 0
    rw [← hw] at h3 s3
    exact ⟨_, results_tmp rfl _ _ _, rfl, ⟨_, _, _, h3⟩, (HS.out.weak hTS).trans (HS3.out.trans (s3.weak hUT))⟩
  · rw [dop_not d hfz] at hd
    have HOW : Hid (opW w bd d = w.setCell ⟨bd, 0, none⟩ (.int .i32 1)) := opW_not w bd d hfz
    rw [hd] at c6
    have HCC := HC
    rw [HOW.out] at HCC
    rw [HOW.out] at HS
    clear hd HC HV
    go_enter_defers Tryz.func214, Tryz.ntmps214
    go_wp2_with (first | (go_at_call 57; refine (lock_free ⟨bd, 0, none⟩ _ c0 f0).mono ?_; rintro e w' ⟨rfl, rfl⟩) | (go_at_call 216; refine HCC.out.mono ?_; rintro e w3 ⟨rfl, HV3, HS3⟩))
    obtain ⟨gs', bm', wv', hv⟩ := HV3.out
    refine leaves_cons (f := 58) (args := #[.pointer (some ⟨bd, 0, none⟩)]) (by simp) (by simp [go_sem]) ?_
    refine (unlock_deferred ⟨bd, 0, none⟩ .returning _ (cell_of_row _ _ _ _ _ _ hv.blk) (frozen_of_row _ _ _ _ _ hv.blk)).mono ?_
    rintro e u' w'' ⟨rfl, rfl, hw⟩
    obtain ⟨h3, s3⟩ := hv.lockTo 0
    rw [← hw] at h3 s3
    exact ⟨_, results_tmp rfl _ _ _, rfl, ⟨_, _, _, h3⟩, (HS.out.weak hTS).trans (HS3.out.trans (s3.weak hUT))⟩
end Go.Proofs.YtapijhhmjjplmaaGreatDoor
namespace Go.Proofs.YtapijhhmjjplmaaGreatDoor
open Go.RowKit Go.Maps
theorem wpList_clear_map {w : World} {ops : Array Oper} {rest : List Oper} {o : Oper} {a : Act} {Q : Exit → Act → World → Prop} (hgd : o.guard = none) (x : Operand)
    (ho : o.op = .call { callee := .builtin .clear, args := #[x], argTypes := #[78] }) (bm m : Nat) (D : DataW Value) (hx : a.eval x = .map (some bm)) (hown : w.ownsMap Tryz.prog 3 heldR bm m D)
    (h : ∀ w', w'.ownsMap Tryz.prog 3 heldR bm m (.map []) → Same (· = bm) w w' → wpList Tryz.prog ops Q rest (a.put o.dst (.tuple #[])) w') : wpList Tryz.prog ops Q (o :: rest) a w := by
  obtain ⟨es, clock, hb, -⟩ := hown
  refine wpList_plain hgd fun K hK => ?_
  have hlt : bm < w.heap.size := lt_of_heap' hb
  have hrun : (Builtin.clear_ #[78] o.type #[.map (some bm)]).run Tryz.prog w = .ok (.tuple #[]) { w with heap := w.heap.setIfInBounds bm (.map #[] clock) } := by
    simp [Builtin.clear_, run_underlying Tryz.underlying78, MapKept.run_getObj_map hb, MapKept.run_setObj_map _ hb, Result.andThen]
  unfold Oper.wp
  simp [execOp, ho, resolve, invoke, builtin, hx, hrun, Result.andThen]
  refine hK _ _ (h _ ⟨#[], clock, by simp [hlt], ⟨by simp, MapKept.stamped_empty clock, by simp⟩, Nat.zero_le _, rfl⟩ ⟨rfl, rfl, rfl, by simp, fun k hk hn => ?_⟩)
  simp [Array.getElem?_setIfInBounds]
  exact fun e => absurd e.symm hn
/-- Cells stored into the middle of a row that is known whole. -/
theorem setCells_row (P : Program) (w : World) (g o : Nat) (t : TypeId) (vs : List Value) (cur : Array Value) (hg : w.heap[g]? = some (.cells cur t (0, 0))) (hl : o + vs.length ≤ cur.size) (h1 : ∀ v ∈ vs, v.oneCell' = true) :
    w.setCells g o vs = w.setRow g (cur.toList.take o ++ vs ++ cur.toList.drop (o + vs.length)).toArray := by
  have a := run_storeCells_at P g o t vs 0 cur w hg (by simpa using hl) h1
  have b := run_storeCells_cells (P := P) g o vs 0 w (fun j hj => by rw [Nat.add_zero, cell_of_row _ _ _ _ _ _ hg, Array.getElem?_eq_getElem (by omega)]; rfl) (fun j hj => frozen_of_row _ _ _ _ _ hg) h1
  simp only [Nat.add_zero] at a b
  rw [a] at b
  exact (Result.ok.inj b).2.symm
theorem dsk_forget (bd gs bm m : Nat) (S : Nat → Prop) (lk : Int) (wv : Value) (d : Dsk) (w : World) (h : DskV w S lk bd gs bm m wv d) :
    Calls Tryz.prog 101 #[.pointer (some ⟨bd, 0, none⟩)] w fun e w' => e = .returned (.tuple #[]) ∧ DskV w' S lk bd gs bm m (.slice none 0 0) { d with wait := [] } ∧ Same S w w' := by
  have c3 : w.cell? ⟨bd, 3, none⟩ = some (.map (some bm)) := cell_of_row _ _ _ _ _ _ h.blk
  have HV : Hid (DskV w S lk bd gs bm m wv d) := h
  clear h
  go_enter Tryz.func101, Tryz.ntmps101
  go_wp2_with (refine wpList_clear_map rfl _ rfl bm m _ rfl HV.out.rest.map ?_; intro w1 hm hs; have hb1 := hs.block bd (lt_of_heap' HV.out.blk) HV.out.rest.n2; have c4 : w1.cell? ⟨bd, 4, none⟩ = some wv := cell_of_row _ _ _ _ _ _ (hb1.trans HV.out.blk); have f4 := frozen_of_row w1 bd 4 _ _ (hb1.trans HV.out.blk); have HM : Hid (w1.ownsMap Tryz.prog 3 heldR bm m (.map [])) := hm; have HS : Hid (Same (· = bm) w w1) := hs; clear hm hs hb1)
  go_end0
  have hv := HV.out
  have hb1 := (HS.out.block bd (lt_of_heap' hv.blk) hv.rest.n2).trans hv.blk
  have hl := lt_of_heap' hb1
  refine ⟨rfl, ⟨?_, ?_⟩, (HS.out.weak (by rintro g rfl; exact hv.rest.sm)).trans (Same.setCell (S := S) (Same.refl _ _) ⟨bd, 4, none⟩ hv.rest.sb _)⟩
  · rw [heap_setCell_same w1 bd 4 _ _ _ hb1]
    rfl
  · have hs2 : Same (· = bd) w1 (w1.setCell ⟨bd, 4, none⟩ (.slice none 0 0)) := Same.setCell (S := (· = bd)) (Same.refl _ _) ⟨bd, 4, none⟩ rfl _
    refine ⟨?_, ?_, ?_, hv.rest.sb, hv.rest.ss, hv.rest.sm, hv.rest.n1, hv.rest.n2, hv.rest.n3, ?_, hv.rest.v1, ?_⟩
    · have h1 := (HS.out.block gs (lt_of_heap' hv.rest.sec) hv.rest.n3).trans hv.rest.sec
      rw [hs2.block gs (lt_of_heap' h1) (fun e => hv.rest.n1 e.symm)]
      exact h1
    · exact ownsMap_heap HM.out (hs2.block bm (ownsMap_lt HM.out) (fun e => hv.rest.n2 e.symm))
    · exact ⟨⟨rfl, .inl ⟨rfl, rfl⟩⟩, fun g hg => by cases hg⟩
    · exact fun g hg => by cases hg
    · exact fun x hx => by cases hx
theorem secs_set : ∀ (l : List ByteArray), (∀ s ∈ l, s.size = 64) → ∀ k (_ : k < l.length) (s : ByteArray), (secs l).take (k * 64) ++ bcells s.data.toList ++ (secs l).drop (k * 64 + 64) = secs (l.set k s)
  | [], _, k, h, _ => by cases h
  | x :: r, hs, k, h, s => by
    have hl : (bcells x.data.toList).length = 64 := by rw [bcells_length, Array.length_toList]; exact hs x (List.mem_cons_self ..)
    have e : secs (x :: r) = bcells x.data.toList ++ secs r := rfl
    match k, h with
    | 0, _ =>
      rw [e, Nat.zero_mul, List.take_zero, List.nil_append, Nat.zero_add, List.drop_append_of_le_length (by omega), List.drop_eq_nil_of_le (by omega), List.nil_append]
      rfl
    | k + 1, h =>
      have ih := secs_set r (fun y hy => hs y (List.mem_cons_of_mem _ hy)) k (by simpa using h) s
      have e2 : secs ((x :: r).set (k + 1) s) = bcells x.data.toList ++ secs (r.set k s) := rfl
      rw [e2, ← ih, e, show (k + 1) * 64 = 64 + k * 64 by omega]
      have t1 : (bcells x.data.toList ++ secs r).take (64 + k * 64) = bcells x.data.toList ++ (secs r).take (k * 64) := by
        rw [List.take_append, List.take_of_length_le (by omega), hl, show 64 + k * 64 - 64 = k * 64 by omega]
      have t2 : (bcells x.data.toList ++ secs r).drop (64 + k * 64 + 64) = (secs r).drop (k * 64 + 64) := by
        rw [List.drop_append, List.drop_eq_nil_of_le (by omega), hl, List.nil_append, show 64 + k * 64 + 64 - 64 = k * 64 + 64 by omega]
      rw [t1, t2]
      simp only [List.append_assoc]
/-- A sector is stored. -/
theorem DskV.setSec {w : World} {S : Nat → Prop} {lk : Int} {bd gs bm m : Nat} {wv : Value} {d : Dsk} (h : DskV w S lk bd gs bm m wv d) (k : Nat) (hk : k < d.safe.length) (s : ByteArray) (hs : s.size = 64) :
    DskV (w.setCells gs (k * 64) (bcells s.data.toList)) S lk bd gs bm m wv { d with safe := d.safe.set k s } ∧ Same S w (w.setCells gs (k * 64) (bcells s.data.toList)) := by
  have hl : (bcells s.data.toList).length = 64 := by rw [bcells_length, Array.length_toList]; exact hs
  have hsl := secs_length d.safe h.rest.v1
  have e := setCells_row Tryz.prog w gs (k * 64) _ (bcells s.data.toList) _ h.rest.sec (by rw [hl, List.size_toArray, hsl]; omega) (bcells_one _)
  rw [hl] at e
  simp only [] at e
  rw [secs_set d.safe h.rest.v1 k hk s] at e
  have hsame : Same (· = gs) w (w.setRow gs (secs (d.safe.set k s)).toArray) := ⟨rfl, rfl, rfl, by simp, fun j hj hn => setRow_other _ _ _ _ hn⟩
  rw [e]
  refine ⟨⟨?_, ?_, ?_, ?_, h.rest.sb, h.rest.ss, h.rest.sm, h.rest.n1, h.rest.n2, h.rest.n3, h.rest.d1, ?_, ?_⟩, hsame.weak (by rintro g rfl; exact h.rest.ss)⟩
  · rw [hsame.block bd (lt_of_heap' h.blk) h.rest.n1]
    have hlen : (d.safe.set k s).length = d.safe.length := List.length_set
    show _ = some (Obj.cells (dskRow lk gs (List.length (d.safe.set k s)) bm wv d.fuse d.down) _ _)
    rw [hlen]
    exact h.blk
  · exact setRow_heap _ _ _ _ _ _ h.rest.sec
  · exact ownsMap_heap h.rest.map (hsame.block bm (ownsMap_lt h.rest.map) (fun e => h.rest.n3 e.symm))
  · exact h.rest.wait.on hsame (fun g hg => (h.rest.d1 g hg).2.1)
  · intro y hy
    rcases List.mem_or_eq_of_mem_set hy with hy | rfl
    · exact h.rest.v1 y hy
    · exact hs
  · intro x hx
    have := h.rest.v2 x hx
    exact ⟨by show _ < List.length (d.safe.set k s); rw [List.length_set]; exact this.1, this.2⟩
def applyAll (wait : List (Nat × ByteArray)) (safe : List ByteArray) : List ByteArray := wait.foldl (fun l x => l.set x.1 x.2) safe
theorem applyAll_length : ∀ (wait : List (Nat × ByteArray)) (safe : List ByteArray), (applyAll wait safe).length = safe.length
  | [], _ => rfl
  | x :: r, safe => by
    show (applyAll r (safe.set x.1 x.2)).length = _
    rw [applyAll_length r, List.length_set]
theorem applyAll_snoc (wait : List (Nat × ByteArray)) (safe : List ByteArray) (i : Nat) (h : i < wait.length) : applyAll (wait.take (i + 1)) safe = (applyAll (wait.take i) safe).set wait[i].1 wait[i].2 := by
  unfold applyAll
  rw [List.take_succ_eq_append_getElem h, List.foldl_append]
  rfl
theorem wrs_at : ∀ (l : List (Nat × ByteArray)), (∀ x ∈ l, x.2.size = 64) → ∀ k (h : k < l.length) j, j < 65 → (wrs l)[k * 65 + j]? = (.int .i64 (l[k].1 : Int) :: bcells l[k].2.data.toList)[j]?
  | [], _, k, h, _, _ => by cases h
  | x :: r, hs, k, h, j, hj => by
    have hl : (bcells x.2.data.toList).length = 64 := by rw [bcells_length, Array.length_toList]; exact hs x (List.mem_cons_self ..)
    have hl' : (Value.int .i64 (x.1 : Int) :: bcells x.2.data.toList).length = 65 := by rw [List.length_cons, hl]
    have e : wrs (x :: r) = (.int .i64 (x.1 : Int) :: bcells x.2.data.toList) ++ wrs r := rfl
    match k, h with
    | 0, _ =>
      rw [e, Nat.zero_mul, Nat.zero_add, List.getElem?_append_left (by omega)]
      rfl
    | k + 1, h =>
      rw [e, List.getElem?_append_right (by rw [hl']; omega), hl', show (k + 1) * 65 + j - 65 = k * 65 + j by omega]
      exact wrs_at r (fun y hy => hs y (List.mem_cons_of_mem _ hy)) k (by simpa using h) j hj
theorem wrs_range {w : World} {S : Nat → Prop} {gw cw n : Nat} {l : List (Nat × ByteArray)} (h : OwnS w S 195 65 (.slice (some ⟨gw, 0, none⟩) n cw) n (wrs l)) (hn : n = l.length) (hs : ∀ x ∈ l, x.2.size = 64) (k : Nat) (hk : k < l.length) :
    w.rangeAt gw (k * 65) (.int .i64 (l[k].1 : Int) :: bcells l[k].2.data.toList) := by
  intro j v hv
  obtain ⟨g', c', e, -, hc, -⟩ := h.open (by omega)
  cases e
  have hj : j < 65 := by
    have := (List.getElem?_eq_some_iff.1 hv).1
    rw [List.length_cons, bcells_length, Array.length_toList] at this
    have h64 : l[k].2.data.size = 64 := hs _ (List.getElem_mem _)
    omega
  have hw := wrs_at l hs k hk j hj
  rw [hv] at hw
  obtain ⟨hlt, he⟩ := List.getElem?_eq_some_iff.1 hw
  rw [hc (k * 65 + j) hlt, he]
end Go.Proofs.YtapijhhmjjplmaaGreatDoor
namespace Go.Proofs.YtapijhhmjjplmaaGreatDoor
open Go.RowKit Go.Maps
theorem wv_shape {w : World} {S : Nat → Prop} {bd gs bm m : Nat} {wv : Value} {d : Dsk} (h : DskB w S bd gs bm m wv d) : ∃ ao cw, wv = .slice ao d.wait.length cw ∧ (0 < d.wait.length → ∃ gw, ao = some ⟨gw, 0, none⟩) := by
  obtain ⟨-, h2 | ⟨g, cap, cur, hv, -⟩⟩ := h.wait.1
  · exact ⟨none, 0, by rw [h2.2, h2.1], fun h => by omega⟩
  · exact ⟨_, cap, hv, fun _ => ⟨g, rfl⟩⟩
theorem Same.alloc0 {S : Nat → Prop} (w : World) (o : Obj) : Same S w (w.alloc o) := (Same.refl S w).alloc o
set_option maxRecDepth 100000 in
set_option maxHeartbeats 1000000 in
theorem flush1 (bd gs bm m : Nat) (S : Nat → Prop) (wv : Value) (d : Dsk) (pl : Addr) (w : World) (h : DskV w S 1 bd gs bm m wv d) (hp : w.cell? pl = some (.pointer (some ⟨bd, 0, none⟩))) (hpl : ¬ S pl.block) (hwl : d.wait.length ≤ 1000000) (hn : d.safe.length ≤ 4096) :
    Calls Tryz.prog 216 #[.pointer (some pl)] w fun e w' => e = .returned (.tuple #[]) ∧ (∃ gs' bm' wv', DskV w' S 1 bd gs' bm' m wv' { d with safe := applyAll d.wait d.safe, wait := [] }) ∧ Same S w w' := by
  obtain ⟨ao, cw, rfl, hao⟩ := wv_shape h.rest
  obtain ⟨q, hq⟩ : ∃ q, q = d.wait.length := ⟨_, rfl⟩
  obtain ⟨n, hn'⟩ : ∃ n, n = d.safe.length := ⟨_, rfl⟩
  rw [← hq] at h hao hwl
  have c4 : w.cell? ⟨bd, 4, none⟩ = some (.slice ao q cw) := cell_of_row _ _ _ _ _ _ h.blk
  have HV0 : Hid (DskV w S 1 bd gs bm m (.slice ao q cw) { d with safe := applyAll (d.wait.take 0) d.safe }) := h
  have HP : Hid (w.cell? pl = some (.pointer (some ⟨bd, 0, none⟩))) := hp
  have HQ : Hid (q = d.wait.length) := hq
  have HN : Hid (n = d.safe.length) := hn'
  have HAO : Hid (0 < q → ∃ gw, ao = some ⟨gw, 0, none⟩) := hao
  have hqi : (q : Int) ≤ 1000000 := by omega
  have hni : (n : Int) ≤ 4096 := by omega
  have HV2 : Hid (∀ x ∈ d.wait, x.1 < d.safe.length ∧ x.2.size = 64) := h.rest.v2
  clear h hq hn' hao hwl hn
  go_enter Tryz.func216, Tryz.ntmps216
  go_wp2
  clear c4 hp
  go_loopw [8] (fun iv_ wr => ∃ i : Nat, i ≤ q ∧ iv_ = .int .i64 (i : Int) ∧ Hid (DskV wr S 1 bd gs bm m (.slice ao q cw) { d with safe := applyAll (d.wait.take i) d.safe }) ∧ Hid (Same S w wr)) (fun iv_ _ => q - (intOf iv_).toNat)
  case atStart => exact ⟨0, by omega, rfl, HV0, Same.refl _ _⟩
  case round =>
    clear HV0
    obtain ⟨i, hi, rfl, HV, HS⟩ := hrel
    by_cases hlt : i < q
    · obtain ⟨gw, rfl⟩ := HAO.out (by omega)
      have hiw : i < d.wait.length := by rw [← HQ.out]; exact hlt
      obtain ⟨x, hx⟩ : ∃ x, x = d.wait[i] := ⟨_, rfl⟩
      obtain ⟨hx1, hx2⟩ := HV2.out x (by rw [hx]; exact List.getElem_mem _)
      rw [← HN.out] at hx1
      obtain ⟨C, hC⟩ : ∃ C, C = Value.int .i64 (x.1 : Int) :: bcells x.2.data.toList := ⟨_, rfl⟩
      have HRG : Hid (wr.rangeAt gw (i * 65) C) := by
        have hw' : OwnS wr S 195 65 (.slice (some ⟨gw, 0, none⟩) q cw) d.wait.length (wrs d.wait) := HV.out.rest.wait
        rw [← HQ.out] at hw'
        rw [hC, hx]
        exact wrs_range hw' HQ.out (fun y hy => (HV2.out y hy).2) i hiw
      have hbl : (bcells x.2.data.toList).length = 64 := by rw [bcells_length, Array.length_toList]; exact hx2
      have hCl : C.length = 65 := by rw [hC, List.length_cons, hbl]
      have HIC : Hid ((Tryz.prog.info? 195).map (·.size) = some C.length) := by show _ = _; rw [hCl]; kernel_rfl
      obtain ⟨E, hE⟩ : ∃ E, E = C.toArray := ⟨_, rfl⟩
      have hEs : E.size = 65 := by rw [hE, List.size_toArray]; exact hCl
      have HIE : Hid ((Tryz.prog.info? 195).map (·.size) = some E.size) := by show _ = _; rw [hEs]; kernel_rfl
      have HCE : Hid (C.toArray = E) := hE.symm
      have HZE : Hid (∀ Z : Array Value, Z.size = 65 → Z.size = E.size) := fun Z hz => hz.trans hEs.symm
      have HOE : Hid (E.all (·.oneCell') = true) := by
        show _ = _
        rw [hE, hC, Array.all_eq_true_iff_forall_mem]
        intro v hv
        rcases List.mem_cons.1 (by simpa using hv : v ∈ Value.int .i64 (x.1 : Int) :: bcells x.2.data.toList) with rfl | hv
        · rfl
        · exact bcells_one _ v hv
      have HEC : Hid (E = (Value.int .i64 (x.1 : Int) :: bcells x.2.data.toList).toArray) := by rw [hE, hC]; rfl
      have HX2 : Hid (x.2.size = 64) := hx2
      have HXX : Hid (x = d.wait[i]) := hx
      clear hx hC hE hCl hEs
      go_wp2_with (first | (refine wpList_load_mid rfl 195 _ rfl gw (i * 65) rfl C _ HRG.out Tryz.underlying195 rfl HIC.out ?_; rw [HCE.out]) | (refine wpList_store_rowA rfl 195 _ _ rfl wr.heap.size E rfl rfl 195 _ (heap_alloc_new wr _) HIE.out (HZE.out _ rfl) HOE.out ?_; intro w2 hw2))
      have HB2 : Hid (Below wr.heap.size wr w2) := by rw [hw2.out]; exact below_row
      have hrow : w2.heap[wr.heap.size]? = some (.cells E 195 (0, 0)) := by rw [hw2.out]; exact setRow_heap _ _ _ _ _ _ (heap_alloc_new wr _)
      have hV2 := HV.out.keep HB2.out
      have hal : (applyAll (d.wait.take i) d.safe).length = n := by rw [applyAll_length, HN.out]
      have cpl : w2.cell? pl = some (.pointer (some ⟨bd, 0, none⟩)) := by
        have h1 := HS.out.cell hpl HP.out
        rw [HB2.out.cell (block_lt_of_cell h1)]
        exact h1
      have c2 : w2.cell? ⟨bd, 2, none⟩ = some (.slice (some ⟨gs, 0, none⟩) n n) := by
        have h1 : w2.cell? ⟨bd, 2, none⟩ = some (.slice (some ⟨gs, 0, none⟩) (applyAll (d.wait.take i) d.safe).length (applyAll (d.wait.take i) d.safe).length) := cell_of_row _ _ _ _ _ _ hV2.blk
        rw [hal] at h1
        exact h1
      have cn0 : w2.cell? ⟨wr.heap.size, 0, none⟩ = some (.int .i64 (x.1 : Int)) := by
        rw [cell_of_row _ _ _ _ _ _ hrow, HEC.out]
        rfl
      obtain ⟨B, hB⟩ : ∃ B, B = bcells x.2.data.toList := ⟨_, rfl⟩
      have hBl : B.length = 64 := by rw [hB]; exact hbl
      have hrg : w2.rangeAt wr.heap.size 1 B := by
        intro j v hv
        rw [cell_of_row _ _ _ _ _ _ hrow, HEC.out]
        simp only [List.getElem?_toArray]
        rw [Nat.add_comm 1 j, List.getElem?_cons_succ, ← hB]
        exact hv
      have hth : w2.there gs (x.1 * 64) 64 := by
        intro j hj
        have hsec := hV2.rest.sec
        have hsl := secs_length (applyAll (d.wait.take i) d.safe) hV2.rest.v1
        rw [hal] at hsl
        refine ⟨?_, frozen_of_row w2 gs _ _ _ hsec⟩
        rw [cell_of_row _ _ _ _ _ _ hsec, Array.getElem?_eq_getElem (by rw [List.size_toArray]; show _ < (secs (applyAll (d.wait.take i) d.safe)).length; rw [hsl]; omega)]
        rfl
      have hu199 : Tryz.prog.underlying 193 = some (.array 64 5) := Tryz.underlying193
      have hi199 : (Tryz.prog.info? 193).map (·.size) = some B.length := by rw [hBl]; kernel_rfl
      have h1B : ∀ v ∈ B, v.oneCell' = true := by rw [hB]; exact bcells_one _
      have hgp : pl.block ≠ gs := fun e => hpl (by rw [e]; exact HV.out.rest.ss)
      have hgb : bd ≠ gs := HV.out.rest.n1
      have hgl := lt_of_heap' HV.out.rest.sec
      have HVN : Hid (DskV (w2.drew.setCells gs (x.1 * 64) B) S 1 bd gs bm m (.slice (some ⟨gw, 0, none⟩) q cw) { d with safe := applyAll (d.wait.take (i + 1)) d.safe }) := by
        have h1 : DskV w2.drew S 1 bd gs bm m (.slice (some ⟨gw, 0, none⟩) q cw) { d with safe := applyAll (d.wait.take i) d.safe } := hV2.keep (Below.refl w2.heap.size w2).drew
        have h2 := (h1.setSec x.1 (by show x.1 < (applyAll (d.wait.take i) d.safe).length; rw [hal]; exact hx1) x.2 HX2.out).1
        rw [← hB] at h2
        rw [applyAll_snoc _ _ i hiw, ← HXX.out]
        exact h2
      have HSN : Hid (Same S w (w2.drew.setCells gs (x.1 * 64) B)) := by
        have h1 : DskV w2.drew S 1 bd gs bm m (.slice (some ⟨gw, 0, none⟩) q cw) { d with safe := applyAll (d.wait.take i) d.safe } := hV2.keep (Below.refl w2.heap.size w2).drew
        have h2 := (h1.setSec x.1 (by show x.1 < (applyAll (d.wait.take i) d.safe).length; rw [hal]; exact hx1) x.2 HX2.out).2
        rw [← hB] at h2
        exact HS.out.trans ((below_same S HB2.out).drew.trans h2)
      have hx1i : (x.1 : Int) < n := by omega
      clear hV2 hrow hal hB hw2 HRG
      go_frame
      go_region_held3 (fun w' => w'.cell? pl = some (.pointer (some ⟨bd, 0, none⟩)) ∧ w'.cell? ⟨bd, 2, none⟩ = some (.slice (some ⟨gs, 0, none⟩) n n) ∧ w'.cell? ⟨wr.heap.size, 0, none⟩ = some (.int .i64 (x.1 : Int)) ∧ w'.rangeAt wr.heap.size 1 B ∧ w'.there gs (x.1 * 64) 64) ((go_split_ands; ((repeat' constructor) <;> first | assumption | (rw [World.cell?_drew]; assumption) | (rw [World.rangeAt_drew]; assumption) | (rw [World.there_drew]; assumption) | (apply World.there_setCells; assumption) | (refine World.rangeAt_setCells_apart (by assumption) _ _ _ (by omega)) | (rw [World.cell?_setCells_out _ _ _ _ _ (by intro h1 h2; first | exact absurd h1 hgp | exact absurd h1 hgb | exact absurd h1 (by show wr.heap.size ≠ gs; omega))]; assumption)))) (fail)
      go_wp2
      go_roundw
      case rel => exact ⟨i + 1, by omega, by go_num, HVN, HSN⟩
      case measure => (simp [intOf]; try omega)
    · obtain ⟨i1, hi1⟩ : ∃ i1, i1 = i := ⟨_, rfl⟩
      subst hi1
      have HV1 : Hid (DskV wr S 1 bd gs bm m (.slice ao q cw) { d with safe := applyAll d.wait d.safe }) := by
        have h1 := HV.out
        rw [List.take_of_length_le (by rw [← HQ.out]; omega)] at h1
        exact h1
      have cpl : wr.cell? pl = some (.pointer (some ⟨bd, 0, none⟩)) := HS.out.cell hpl HP.out
      have HF : Hid (Calls Tryz.prog 101 #[.pointer (some ⟨bd, 0, none⟩)] wr fun e w' => e = .returned (.tuple #[]) ∧ Hid (DskV w' S 1 bd gs bm m (.slice none 0 0) { d with safe := applyAll d.wait d.safe, wait := [] }) ∧ Hid (Same S wr w')) := dsk_forget bd gs bm m S 1 _ _ wr HV1.out
      clear HV
      go_wp2_with fail
      refine HF.out.mono ?_
      rintro e w3 ⟨rfl, HV3, HS3⟩
      go_wp2
      go_end0
      exact ⟨rfl, ⟨_, _, _, HV3.out⟩, HS.out.trans HS3.out⟩
/-- What a flush leaves. -/
def Dsk.flush (d : Dsk) : Dsk := if d.op.down then d.op else { d.op with safe := applyAll d.op.wait d.op.safe, wait := [] }
set_option maxRecDepth 100000 in
theorem dsk_flush (bd m : Nat) (S : Nat → Prop) (d : Dsk) (ev : Value) (w : World) (h : DskAt w S bd m d) (hE : w.cell? ⟨1, 0, none⟩ = some ev) (hG : ¬ S 1) (hf : d.fuse ≤ 9223372036854775807) (hwl : d.wait.length ≤ 1000000) (hn : d.safe.length ≤ 4096) (hSl : ∀ g, S g → g < w.heap.size) :
    Calls Tryz.prog 141 #[.pointer (some ⟨bd, 0, none⟩)] w fun e w' => e = .returned (if d.op.down then ev else .nilIface) ∧ DskAt w' S bd m d.flush ∧ Same S w w' := by
  have hmf : ∀ (fn : Fn) (first cap : Array Value) (w : World), (Instr.makeFunc fn first cap).run Tryz.prog w = .ok (.func fn first cap) w := fun _ _ _ _ => rfl
  obtain ⟨w1, hw1⟩ : ∃ w1, w1 = w.alloc (.cells #[.pointer (some ⟨bd, 0, none⟩)] 30) := ⟨_, rfl⟩
  have hs1 : Same (fun _ => False) w w1 := by rw [hw1]; exact Same.alloc0 w _
  have h1 : DskAt w1 S bd m d := h.on hs1 (fun _ _ h => h)
  have hE1 : w1.cell? ⟨1, 0, none⟩ = some ev := hs1.cell (fun h => h) hE
  have hp1 : w1.cell? ⟨w.heap.size, 0, none⟩ = some (.pointer (some ⟨bd, 0, none⟩)) := by rw [hw1]; simp
  have hnS : ¬ S w.heap.size := fun h => by have := hSl _ h; omega
  have hSb : S bd := by obtain ⟨_, _, _, h⟩ := h; exact h.rest.sb
  have HO : Hid (Calls Tryz.prog 214 #[.pointer (some ⟨bd, 0, none⟩), .func (.func 216) #[] #[.pointer (some ⟨w.heap.size, 0, none⟩)]] w1 fun e w' => e = .returned (if d.op.down then ev else .nilIface) ∧ Hid (DskAt w' S bd m d.flush) ∧ Hid (Same S w w')) := by
    cases hd : d.op.down
    · have hfl : d.flush = { d.op with safe := applyAll d.op.wait d.op.safe, wait := [] } := by unfold Dsk.flush; rw [hd]; rfl
      rw [hfl]
      refine (operate_flush bd m m S S S d { d.op with safe := applyAll d.op.wait d.op.safe, wait := [] } _ w1 h1 hd hf (fun _ h => h) (fun _ h => h) (fun w2 gs bm wv hv hs2 => ?_)).mono ?_
      · have hp2 : w2.cell? ⟨w.heap.size, 0, none⟩ = some (.pointer (some ⟨bd, 0, none⟩)) := hs2.cell (by show ¬ w.heap.size = bd; rintro rfl; exact hnS hSb) hp1
        exact flush1 bd gs bm m S wv d.op ⟨w.heap.size, 0, none⟩ w2 hv hp2 hnS (by rw [dop_wait]; exact hwl) (by rw [dop_safe]; exact hn)
      · rintro e w3 ⟨rfl, h3, s3⟩
        exact ⟨rfl, h3, (hs1.weak (fun _ h => h.elim)).trans s3⟩
    · have hfl : d.flush = d.op := by unfold Dsk.flush; rw [hd]; rfl
      rw [hfl]
      refine (operate_down bd m S d _ ev w1 h1 hE1 (by rintro rfl; exact hG hSb) hd hf).mono ?_
      rintro e w3 ⟨rfl, h3, s3⟩
      exact ⟨rfl, h3, (hs1.weak (fun _ h => h.elim)).trans s3⟩
  rw [hw1] at HO
  obtain ⟨rv, hrv⟩ : ∃ rv, rv = (if d.op.down then ev else Value.nilIface) := ⟨_, rfl⟩
  rw [← hrv] at HO ⊢
  clear hrv hw1 hs1 h1 hE1 hp1 h hE hf hwl hn hSl w1
  go_enter Tryz.func141, Tryz.ntmps141
  go_wp2_with (go_at_call 214; refine HO.out.mono ?_; rintro e w3 ⟨rfl, H3, S3⟩)
  go_ret
  exact ⟨rfl, H3.out, S3.out⟩
end Go.Proofs.YtapijhhmjjplmaaGreatDoor
namespace Go.Proofs.YtapijhhmjjplmaaGreatDoor
open Go.RowKit Go.Maps
@[reducible] def w1o0 (p : String) : Oper := { dst := some 17, op := .load 30 (.tmp 2), type := 30, pos := p, after := #[], guard := none }
@[reducible] def w1o1 (p : String) : Oper := { dst := some 18, op := .load 30 (.tmp 2), type := 30, pos := p, after := #[], guard := none }
@[reducible] def w1o2 (p : String) : Oper := { dst := some 19, op := .nilCheck (.tmp 18), type := 0, pos := p, after := #[{ on := 1, ground := .data }], guard := none }
@[reducible] def w1o3 (p : String) : Oper := { dst := some 20, op := .fieldAddr 88 (.tmp 19) 3, type := 0, pos := p, after := #[{ on := 2, ground := .data }], guard := none }
@[reducible] def w1o4 (p : String) : Oper := { dst := some 21, op := .load 86 (.tmp 20), type := 86, pos := p, after := #[{ on := 3, ground := .data }], guard := none }
@[reducible] def w1o5 (p : String) : Oper := { dst := some 22, op := .load 195 (.tmp 3), type := 195, pos := p, after := #[], guard := none }
@[reducible] def w1o6 (p : String) : Oper := { dst := some 23, op := .buildSlice 86 1 #[(0, .tmp 22)], type := 86, pos := p, after := #[{ on := 5, ground := .data }], guard := none }
@[reducible] def w1o7 (p : String) : Oper := { dst := some 24, op := .call { callee := .builtin .append, args := #[.tmp 21, .tmp 23], argTypes := #[86, 86] }, type := 86, pos := p, after := #[{ on := 4, ground := .data }, { on := 6, ground := .data }], guard := none }
@[reducible] def w1o8 (p : String) : Oper := { dst := some 25, op := .nilCheck (.tmp 17), type := 0, pos := p, after := #[{ on := 0, ground := .data }, { on := 0, ground := .phase }, { on := 1, ground := .phase }, { on := 2, ground := .phase }, { on := 3, ground := .phase }, { on := 4, ground := .phase }, { on := 5, ground := .phase }, { on := 6, ground := .phase }, { on := 7, ground := .phase }], guard := none }
@[reducible] def w1o9 (p : String) : Oper := { dst := some 26, op := .fieldAddr 88 (.tmp 25) 3, type := 0, pos := p, after := #[{ on := 8, ground := .data }, { on := 0, ground := .phase }, { on := 1, ground := .phase }, { on := 2, ground := .phase }, { on := 3, ground := .phase }, { on := 4, ground := .phase }, { on := 5, ground := .phase }, { on := 6, ground := .phase }, { on := 7, ground := .phase }], guard := none }
@[reducible] def w1o10 (p : String) : Oper := { dst := none, op := .store 86 (.tmp 26) (.tmp 24), type := 0, pos := p, after := #[{ on := 9, ground := .data }, { on := 7, ground := .data }, { on := 7, ground := .chain }, { on := 0, ground := .phase }, { on := 1, ground := .phase }, { on := 2, ground := .phase }, { on := 3, ground := .phase }, { on := 4, ground := .phase }, { on := 5, ground := .phase }, { on := 6, ground := .phase }, { on := 7, ground := .phase }], guard := none }
@[reducible] def w1ops (p : String) : Array Oper := #[w1o0 p, w1o1 p, w1o2 p, w1o3 p, w1o4 p, w1o5 p, w1o6 p, w1o7 p, w1o8 p, w1o9 p, w1o10 p]
theorem infoWr : ∃ i z, Tryz.prog.info? 195 = some i ∧ i.zero = some z ∧ i.size = 65 ∧ i.bytes = 72 ∧ z.cells.size = 65 := by
  have h : ((Tryz.prog.info? 195).bind fun i => i.zero.map fun z => (i.size, i.bytes, z.cells.size)) = some (65, 72, 65) := by kernel_rfl
  cases hi : Tryz.prog.info? 195 with
  | none => rw [hi] at h; cases h
  | some i =>
    rw [hi] at h
    cases hz : i.zero with
    | none => simp [hz] at h
    | some z =>
      simp [hz] at h
      exact ⟨i, z, rfl, hz, h.1, h.2.1, h.2.2⟩
/-- What the region's loads read. -/
def W1S (pd : Addr) (bd bw : Nat) (cs : List Value) (w : World) : Prop := w.cell? pd = some (.pointer (some ⟨bd, 0, none⟩)) ∧ w.rangeAt bw 0 cs
section
variable (p : String) (bd bw : Nat) (pd : Addr) (cs : List Value) (wv : Value) (n : Nat) (xs : List Value) (Q : Exit → Act → World → Prop)
/-- Behind the append. -/
theorem w1_end (hQ : ∀ c a d v w, Q (.panic c) (Act.put a d v) w → Q (.panic c) a w) (t : List Value) (g' m' c' : Nat) (v18 v19 v20 v21 v22 v23 : Value) (ht : t.length = 17)
    (w : World) (hS : W1S pd bd bw cs w) (hc : w.cell? ⟨bd, 4, none⟩ = some wv) (hf : w.frozen? ⟨bd, 4, none⟩ = false) (nd : pd.block ≠ bd) (nw : bw ≠ bd)
    (hpost : ∀ a', a'.defers = [] → Q .normal a' (w.setCell ⟨bd, 4, none⟩ (.slice (some ⟨g', 0, none⟩) m' c'))) :
    wpAnyH Tryz.prog .any (w1ops p) Q (W1S pd bd bw cs) 3 #[true, true, true, true, true, true, true, true, false, false, false]
      { tmps := (t ++ [.pointer (some ⟨bd, 0, none⟩), v18, v19, v20, v21, v22, v23, .slice (some ⟨g', 0, none⟩) m' c', undef, undef]).toArray, defers := [] } w := by
  match t, ht with
  | [t0, t1, t2, t3, t4, t5, t6, t7, t8, t9, t10, t11, t12, t13, t14, t15, t16], _ =>
  refine wpAnyH_take (i := 8) (oi := w1o8 p) (v := .pointer (some ⟨bd, 0, none⟩)) rfl (by kernel_rfl) (by kernel_rfl) (by kernel_rfl) (fun _ _ _ h => hQ _ _ _ _ _ h) (Or.inl ⟨by rfl, ?_⟩) hS ?_
  · intro w _
    go_simp
  simp only [Act.put, List.setIfInBounds_toArray, List.set_cons_zero, List.set_cons_succ, List.cons_append, List.nil_append]
  refine wpAnyH_take (i := 9) (oi := w1o9 p) (v := .pointer (some ⟨bd, 4, none⟩)) rfl (by kernel_rfl) (by kernel_rfl) (by kernel_rfl) (fun _ _ _ h => hQ _ _ _ _ _ h) (Or.inl ⟨by rfl, ?_⟩) hS ?_
  · intro w _
    go_simp
  simp only [Act.put, List.setIfInBounds_toArray, List.set_cons_zero, List.set_cons_succ]
  refine wpAnyH_ready (rs := [10]) (by kernel_rfl) (by simp) ?_
  refine AllReadyH.cons (o := w1o10 p) rfl (fun K hK => ?_) AllReadyH.nil
  go_simp
  refine hK.out _ _ ⟨?_, ?_⟩ (fun hS' => ?_)
  · rw [World.cell?_setCell_far _ _ _ _ (fun e => nd e.symm)]
    exact hS.1
  · intro j v hv
    rw [World.cell?_setCell_far _ _ _ _ (fun e => nw e.symm)]
    exact hS.2 j v hv
  refine wpAnyH_done (by kernel_rfl) ?_ _
  exact hpost _ rfl
/-- The append. -/
theorem w1_append (hQ : ∀ c a d v w, Q (.panic c) (Act.put a d v) w → Q (.panic c) a w) (t : List Value) (v18 v19 v20 v22 : Value) (ht : t.length = 17)
    (w : World) (hS : W1S pd bd bw cs (w.alloc (.cells cs.toArray 195))) (row : Array Value) (rt : TypeId) (hb : w.heap[bd]? = some (.cells row rt (0, 0))) (hc : w.cell? ⟨bd, 4, none⟩ = some wv) (nd : pd.block ≠ bd) (nw : bw ≠ bd)
    (hown : w.ownsRow 0 195 65 wv n xs) (hl : cs.length = 65) (h1 : ∀ u ∈ cs, u.oneCell' = true) (hn : n ≤ 1000000)
    (o1 : wv.ownBlock ≠ some bd) (o2 : wv.ownBlock ≠ some bw) (o3 : wv.ownBlock ≠ some pd.block)
    (hpost : ∀ g' c' w', w'.ownsRow 0 195 65 (.slice (some ⟨g', 0, none⟩) (n + 1) c') (n + 1) (xs ++ cs) → (w.alloc (.cells cs.toArray 195)).grownBy w' wv.ownBlock → (some g' = wv.ownBlock ∨ g' = w.heap.size + 1) → ∀ a', a'.defers = [] → Q .normal a' (w'.setCell ⟨bd, 4, none⟩ (.slice (some ⟨g', 0, none⟩) (n + 1) c'))) :
    wpAnyH Tryz.prog .any (w1ops p) Q (W1S pd bd bw cs) 4 #[true, true, true, true, true, true, true, false, false, false, false]
      { tmps := (t ++ [.pointer (some ⟨bd, 0, none⟩), v18, v19, v20, wv, v22, .slice (some ⟨w.heap.size, 0, none⟩) 1 1, undef, undef, undef]).toArray, defers := [] } (w.alloc (.cells cs.toArray 195)) := by
  obtain ⟨i, z, hi, hz, hz1, hz2, hz3⟩ := infoWr
  have hlt : bd < w.heap.size := block_lt_of_cell hc
  obtain ⟨v', w', hr, h2, h3, h4, h5⟩ := run_append_own_at (P := Tryz.prog) (w.alloc (.cells cs.toArray 195)) 0 86 86 195 i z 65 72 Tryz.underlying86 hi hz hz1 hz2 hz3 (by decide) wv n xs (World.ownsRow.alloc hown _) ⟨w.heap.size, 0, none⟩ 1 1 cs (by omega)
    (fun j u hj => by
      have e : (⟨w.heap.size, 0, none⟩ : Addr).add j = ⟨w.heap.size, j, none⟩ := by simp [Addr.add]; omega
      rw [e, cell_of_row _ _ _ _ _ _ (heap_alloc_new w _)]
      simpa using hj) h1 (by unfold maxLen; omega) (by omega) (by simp)
  obtain ⟨g', c', rfl⟩ : ∃ g' c', v' = .slice (some ⟨g', 0, none⟩) (n + 1) c' := by
    obtain ⟨-, h | ⟨g', cap', cur', hv', -⟩⟩ := h2
    · omega
    · exact ⟨g', cap', hv'⟩
  have hbk : w'.heap[bd]? = w.heap[bd]? := by rw [h3.block bd (by simp; omega) (fun e => o1 e.symm), Below.heap_alloc _ _ _ hlt]
  have hc' : w'.cell? ⟨bd, 4, none⟩ = some wv := by
    have e : w'.cell? ⟨bd, 4, none⟩ = w.cell? ⟨bd, 4, none⟩ := by unfold World.cell?; rw [hbk]
    rw [e]; exact hc
  have hf' : w'.frozen? ⟨bd, 4, none⟩ = false := frozen_of_row w' bd 4 _ _ (hbk.trans hb)
  have far : ∀ q : Addr, q.block < w.heap.size + 1 → wv.ownBlock ≠ some q.block → w'.cell? q = (w.alloc (.cells cs.toArray 195)).cell? q := fun q hq ho => by
    unfold World.cell?
    rw [h3.block q.block (by simpa using hq) (fun e => ho e.symm)]
  have hS' : W1S pd bd bw cs w' := by
    refine ⟨?_, fun j v hv => ?_⟩
    · rw [far pd (by simpa using block_lt_of_cell hS.1) o3]; exact hS.1
    · rw [far ⟨bw, 0 + j, none⟩ (by simpa using block_lt_of_cell (hS.2 j v hv)) o2]; exact hS.2 j v hv
  refine wpAnyH_ready (rs := [7]) (by kernel_rfl) (by simp) ?_
  refine AllReadyH.cons (o := w1o7 p) rfl (fun K hK => ?_) AllReadyH.nil
  match t, ht with
  | [t0, t1, t2, t3, t4, t5, t6, t7, t8, t9, t10, t11, t12, t13, t14, t15, t16], hh =>
  rw [if_pos (by rfl)]
  unfold Oper.wp execOp
  simp only [resolve, invoke, builtin, Sem.run_bind, Sem.run_pure, Result.andThen_ok, List.map_toArray, List.map_cons, List.map_nil]
  show Oper.upon _ _ _ K Q ((Sem.run Tryz.prog (Builtin.append_ #[86, 86] 86 #[wv, .slice (some ⟨w.heap.size, 0, none⟩) 1 1]) _).andThen _)
  rw [hr]
  refine hK.out _ _ hS' (fun _ => ?_)
  refine w1_end p bd bw pd cs wv Q hQ [t0, t1, t2, t3, t4, t5, t6, t7, t8, t9, t10, t11, t12, t13, t14, t15, t16] g' (n + 1) c' v18 v19 v20 wv v22 _ rfl w' hS' hc' hf' nd nw (hpost g' c' w' h2 h3 ?_)
  rcases h5 with e | e
  · exact .inl e
  · exact .inr (by simpa [Value.ownBlock] using e)
set_option maxRecDepth 100000 in
/-- The region. -/
theorem w1_region (hQ : ∀ c a d v w, Q (.panic c) (Act.put a d v) w → Q (.panic c) a w) (id : Nat) (t0 t1 t4 t5 t6 t7 t8 t9 t10 t11 t12 t13 t14 t15 t16 : Value)
    (w : World) (hd : w.cell? pd = some (.pointer (some ⟨bd, 0, none⟩))) (hr : w.rangeAt bw 0 cs) (row : Array Value) (rt : TypeId) (hb : w.heap[bd]? = some (.cells row rt (0, 0))) (hc : w.cell? ⟨bd, 4, none⟩ = some wv) (nd : pd.block ≠ bd) (nw : bw ≠ bd)
    (hown : w.ownsRow 0 195 65 wv n xs) (hl : cs.length = 65) (h1 : ∀ u ∈ cs, u.oneCell' = true) (hn : n ≤ 1000000)
    (o1 : wv.ownBlock ≠ some bd) (o2 : wv.ownBlock ≠ some bw) (o3 : wv.ownBlock ≠ some pd.block) (hwv : ∃ a l c, wv = .slice a l c)
    (hpost : ∀ g' c' w', w'.ownsRow 0 195 65 (.slice (some ⟨g', 0, none⟩) (n + 1) c') (n + 1) (xs ++ cs) → (w.drew.alloc (.cells cs.toArray 195)).grownBy w' wv.ownBlock → (some g' = wv.ownBlock ∨ g' = w.heap.size + 1) → ∀ a', a'.defers = [] → Q .normal a' (w'.setCell ⟨bd, 4, none⟩ (.slice (some ⟨g', 0, none⟩) (n + 1) c'))) :
    (Code.region id (w1ops p) true).wp Tryz.prog Q
      { tmps := #[t0, t1, .pointer (some pd), .pointer (some ⟨bw, 0, none⟩), t4, t5, t6, t7, t8, t9, t10, t11, t12, t13, t14, t15, t16, undef, undef, undef, undef, undef, undef, undef, undef, undef, undef], defers := [] } w := by
  have hS0 : W1S pd bd bw cs w.drew := ⟨by rw [World.cell?_drew]; exact hd, by rw [World.rangeAt_drew]; exact hr⟩
  have hSa : W1S pd bd bw cs (w.drew.alloc (.cells cs.toArray 195)) := by
    refine ⟨?_, fun j v hv => ?_⟩
    · rw [World.cell?_alloc_some _ _ _ (by rw [hS0.1]; rfl)]; exact hS0.1
    · rw [World.cell?_alloc_some _ _ _ (by rw [hS0.2 j v hv]; rfl)]; exact hS0.2 j v hv
  have hi : (Tryz.prog.info? 195).map (·.size) = some cs.length := by rw [hl]; kernel_rfl
  refine wp_region_held_drew (S := W1S pd bd bw cs) (by kernel_rfl) hS0 (fun _ => ?_)
  have e0 : Array.replicate (w1ops p).size false = #[false, false, false, false, false, false, false, false, false, false, false] := by rfl
  have e1 : (w1ops p).size = 11 := rfl
  rw [e0, e1]
  refine wpAnyH_take (i := 5) (oi := w1o5 p) (v := .agg cs.toArray) rfl (by kernel_rfl) (by kernel_rfl) (by kernel_rfl) (fun _ _ _ h => hQ _ _ _ _ _ h) (yieldsIf_load_mid (by rfl) _ _ rfl bw 0 rfl cs _ (fun w h => h.2) Tryz.underlying195 rfl hi) hS0 ?_
  simp only [Act.put, List.setIfInBounds_toArray, List.set_cons_zero, List.set_cons_succ]
  refine wpAnyH_take (i := 0) (oi := w1o0 p) (v := .pointer (some ⟨bd, 0, none⟩)) rfl (by kernel_rfl) (by kernel_rfl) (by kernel_rfl) (fun _ _ _ h => hQ _ _ _ _ _ h) (Or.inl ⟨by rfl, ?_⟩) hS0 ?_
  · intro w hw
    have hw := hw.1
    go_simp
  simp only [Act.put, List.setIfInBounds_toArray, List.set_cons_zero, List.set_cons_succ]
  refine wpAnyH_take (i := 1) (oi := w1o1 p) (v := .pointer (some ⟨bd, 0, none⟩)) rfl (by kernel_rfl) (by kernel_rfl) (by kernel_rfl) (fun _ _ _ h => hQ _ _ _ _ _ h) (Or.inl ⟨by rfl, ?_⟩) hS0 ?_
  · intro w hw
    have hw := hw.1
    go_simp
  simp only [Act.put, List.setIfInBounds_toArray, List.set_cons_zero, List.set_cons_succ]
  refine wpAnyH_take (i := 2) (oi := w1o2 p) (v := .pointer (some ⟨bd, 0, none⟩)) rfl (by kernel_rfl) (by kernel_rfl) (by kernel_rfl) (fun _ _ _ h => hQ _ _ _ _ _ h) (Or.inl ⟨by rfl, ?_⟩) hS0 ?_
  · intro w _
    go_simp
  simp only [Act.put, List.setIfInBounds_toArray, List.set_cons_zero, List.set_cons_succ]
  refine wpAnyH_take (i := 3) (oi := w1o3 p) (v := .pointer (some ⟨bd, 4, none⟩)) rfl (by kernel_rfl) (by kernel_rfl) (by kernel_rfl) (fun _ _ _ h => hQ _ _ _ _ _ h) (Or.inl ⟨by rfl, ?_⟩) hS0 ?_
  · intro w _
    go_simp
  simp only [Act.put, List.setIfInBounds_toArray, List.set_cons_zero, List.set_cons_succ]
  have key := w1_append p bd bw pd cs wv n xs Q hQ [t0, t1, .pointer (some pd), .pointer (some ⟨bw, 0, none⟩), t4, t5, t6, t7, t8, t9, t10, t11, t12, t13, t14, t15, t16] (.pointer (some ⟨bd, 0, none⟩)) (.pointer (some ⟨bd, 0, none⟩)) (.pointer (some ⟨bd, 4, none⟩)) (.agg cs.toArray) rfl w.drew hSa row rt hb (by rw [World.cell?_drew]; exact hc) nd nw hown hl h1 hn o1 o2 o3 hpost
  obtain ⟨i, z, hi, hz, hz1, hz2, hz3⟩ := infoWr
  have hfill : Instr.fill (fun j => some (j * i.size, i.size)) ((Array.range (1 * i.size)).map (z.cells[· % z.cells.size]!)) [(0, Value.agg cs.toArray)] = some cs.toArray := by
    have h := Great.fill_whole (s := i.size) (by omega) [Value.agg cs.toArray] ((Array.range (1 * i.size)).map (z.cells[· % z.cells.size]!)) (by intro v hv; rw [List.mem_singleton.1 hv]; show cs.toArray.size = _; simp; omega) (by simp)
    simpa [Value.cells] using h
  have hparts : ∀ a : Act, a.eval (.tmp 22) = .agg cs.toArray → Instr.fill (fun j => some (j * i.size, i.size)) ((Array.range (1 * i.size)).map (z.cells[· % z.cells.size]!)) ((#[((0 : Nat), Operand.tmp 22)] : Array (Nat × Operand)).map fun (i, x) => (i, a.eval x)).toList = some cs.toArray := fun a ha => by
    simp only [List.map_toArray, List.map_cons, List.map_nil, ha]
    exact hfill
  simp only [List.cons_append, List.nil_append] at key
  refine wpAnyH_ready (rs := [4, 6]) (by kernel_rfl) (by simp) ?_
  refine AllReadyH.cons (o := w1o4 p) rfl (fun K hK => ?_) (AllReadyH.cons (o := w1o6 p) rfl (fun K hK => ?_) AllReadyH.nil)
  · have hcd : w.drew.cell? ⟨bd, 4, none⟩ = some wv := by rw [World.cell?_drew]; exact hc
    obtain ⟨a, l, c, rfl⟩ := hwv
    go_simp
    refine hK.out _ _ hS0 (fun _ => ?_)
    refine wpAnyH_ready (rs := [6]) (by kernel_rfl) (by simp) ?_
    refine AllReadyH.cons (o := w1o6 p) rfl (fun K hK => ?_) AllReadyH.nil
    rw [if_pos (by rfl)]
    refine wp_buildSlice 86 195 1 _ rfl cs.toArray i z Tryz.underlying86 hi hz (by omega) (by omega) (hparts _ rfl) ?_
    refine hK.out _ _ hSa (fun _ => ?_)
    simp only [Act.put, List.setIfInBounds_toArray, List.set_cons_zero, List.set_cons_succ]
    exact key
  · rw [if_pos (by rfl)]
    refine wp_buildSlice 86 195 1 _ rfl cs.toArray i z Tryz.underlying86 hi hz (by omega) (by omega) (hparts _ rfl) ?_
    refine hK.out _ _ hSa (fun _ => ?_)
    refine wpAnyH_ready (rs := [4]) (by kernel_rfl) (by simp) ?_
    refine AllReadyH.cons (o := w1o4 p) rfl (fun K hK => ?_) AllReadyH.nil
    have hcd : (w.drew.alloc (.cells cs.toArray 195)).cell? ⟨bd, 4, none⟩ = some wv := by rw [World.cell?_alloc_some _ _ _ (by rw [World.cell?_drew, hc]; rfl), World.cell?_drew]; exact hc
    obtain ⟨wa, hwa⟩ : ∃ wa, w.drew.alloc (.cells cs.toArray 195) = wa := ⟨_, rfl⟩
    rw [hwa] at hcd hSa key ⊢
    clear hpost
    obtain ⟨a, l, c, rfl⟩ := hwv
    clear hwa
    go_simp
    refine hK.out _ _ hSa (fun _ => ?_)
    simp only [List.setIfInBounds_toArray, List.set_cons_zero, List.set_cons_succ]
    exact key
end
end Go.Proofs.YtapijhhmjjplmaaGreatDoor
namespace Go.Proofs.YtapijhhmjjplmaaGreatDoor
open Go.RowKit Go.Maps
/-- A write that is not filled yet. -/
def wr0 (k : Nat) : Array Value := (Value.int .i64 (k : Int) :: List.replicate 64 (Value.int .u8 0)).toArray
/-- A write. -/
def wrE (k : Nat) (s : ByteArray) : Array Value := (Value.int .i64 (k : Int) :: bcells s.data.toList).toArray
theorem wr0_size (k : Nat) : (wr0 k).size = 65 := by simp [wr0]
theorem wr0_one (k : Nat) : (wr0 k).all (·.oneCell') = true := by
  rw [Array.all_eq_true_iff_forall_mem]
  intro v hv
  unfold wr0 at hv
  rcases List.mem_cons.1 (by simpa using hv : v ∈ Value.int .i64 (k : Int) :: List.replicate 64 (Value.int .u8 0)) with rfl | hv
  · rfl
  · rw [List.eq_of_mem_replicate hv]; rfl
set_option maxRecDepth 100000 in
set_option maxHeartbeats 1000000 in
theorem write1 (bd gs bm m : Nat) (S : Nat → Prop) (wv : Value) (d : Dsk) (pa ps pd : Addr) (k : Nat) (s : ByteArray) (w : World) (h : DskV w S 1 bd gs bm m wv d)
    (ha : w.cell? pa = some (.int .i64 (k : Int))) (hs : w.cell? ps = some (.string s)) (hd : w.cell? pd = some (.pointer (some ⟨bd, 0, none⟩))) (na : ¬ S pa.block) (nd : ¬ S pd.block)
    (hk : k < d.safe.length) (hs64 : s.size = 64) (hwl : d.wait.length ≤ 1000000) (hm : m ≤ 1000000) (hn : d.safe.length ≤ 4096) :
    Calls Tryz.prog 215 #[.pointer (some pa), .pointer (some ps), .pointer (some pd)] w fun e w' => e = .returned (.tuple #[]) ∧ (∃ gs' bm' wv', DskV w' (fun g => S g ∨ w.heap.size ≤ g) 1 bd gs' bm' (m + 1) wv' { d with wait := d.wait ++ [(k, s)] }) ∧ Same S w w' := by
  obtain ⟨C, hC⟩ : ∃ C, C = bcells s.data.toList := ⟨_, rfl⟩
  have hsl : s.data.toList.length = 64 := by rw [Array.length_toList]; exact hs64
  have hCl : C.length = 64 := by rw [hC, bcells_length]; exact hsl
  have HI0 : Hid ((Tryz.prog.info? 195).map (·.size) = some (wr0 k).size) := by show _ = _; rw [wr0_size]; kernel_rfl
  have HZ0 : Hid (∀ Z : Array Value, Z.size = 65 → Z.size = (wr0 k).size) := fun Z hz => hz.trans (wr0_size k).symm
  have HO0 : Hid ((wr0 k).all (·.oneCell') = true) := wr0_one k
  have HV : Hid (DskV w S 1 bd gs bm m wv d) := h
  have HA : Hid (w.cell? pa = some (.int .i64 (k : Int))) := ha
  have HSS : Hid (w.cell? ps = some (.string s)) := hs
  have HDD : Hid (w.cell? pd = some (.pointer (some ⟨bd, 0, none⟩))) := hd
  have HC : Hid (C = bcells s.data.toList) := hC
  have HCS : Hid (C = bcells (s.data.toList.take 64)) := by show _ = _; rw [List.take_of_length_le (by omega)]; exact hC
  have HIU : Hid ((Tryz.prog.info? 5).map (·.size) = some 1) := by show _ = _; kernel_rfl
  have HFIT : Hid (1 + C.length ≤ (wr0 k).size) := by show _ ≤ _; rw [wr0_size, hCl]; omega
  have HRR : Hid (((wr0 k).toList.take 1 ++ C ++ (wr0 k).toList.drop (1 + C.length)).toArray = wrE k s) := by
    show _ = _
    have e : (wr0 k).toList.drop (1 + C.length) = [] := List.drop_eq_nil_of_le (by rw [Array.length_toList, wr0_size, hCl]; omega)
    rw [e, List.append_nil, hC]
    rfl
  have HNN : Hid ((C.length : Int) = 64) := by show _ = _; rw [hCl]; rfl
  clear h hs hd hC
  go_enter Tryz.func215, Tryz.ntmps215
  go_wp2_with (refine wpList_store_rowA rfl 195 _ _ rfl w.heap.size (wr0 k) rfl rfl 195 _ (heap_alloc_new w _) HI0.out (HZ0.out _ rfl) HO0.out ?_; intro w1 hw1)
  have HB1 : Hid (Below w.heap.size w w1) := by rw [hw1.out]; exact below_row
  have hz1 : w1.heap.size = w.heap.size + 1 := by rw [hw1.out]; simp
  have HROW : Hid (w1.heap[w.heap.size]? = some (.cells (wr0 k) 195 (0, 0))) := by rw [hw1.out]; exact setRow_heap _ _ _ _ _ _ (heap_alloc_new w _)
  have cs1 : w1.cell? ps = some (.string s) := by rw [HB1.out.cell (block_lt_of_cell HSS.out)]; exact HSS.out
  clear hw1 ha
  go_frame
  go_region_law (refine step_copy_str rfl (.tmp 7) (.tmp 8) 134 9 rfl 5 Tryz.underlying134 HIU.out w.heap.size 1 64 64 s (by simp [Act.eval]) (by simp [Act.eval]) (wr0 k) 195 HROW.out C HCS.out HFIT.out (wrE k s) HRR.out 64 HNN.out ?_)
  obtain ⟨w2, hw2⟩ : ∃ w2, w2 = w1.drew.setRow w.heap.size (wrE k s) := ⟨_, rfl⟩
  rw [← hw2]
  have HB2 : Hid (Below w.heap.size w w2) := by rw [hw2]; exact below_setRow HB1.out.drew (Nat.le_refl _) _
  have hz2 : w2.heap.size = w.heap.size + 1 := by rw [hw2]; simpa using hz1
  have HROW2 : Hid (w2.heap[w.heap.size]? = some (.cells (wrE k s) 195 (0, 0))) := by rw [hw2]; exact setRow_heap _ _ _ _ _ _ HROW.out
  have hV2 := HV.out.keep HB2.out
  have cpd : w2.cell? pd = some (.pointer (some ⟨bd, 0, none⟩)) := by rw [HB2.out.cell (block_lt_of_cell HDD.out)]; exact HDD.out
  have cpa : w2.cell? pa = some (.int .i64 (k : Int)) := by rw [HB2.out.cell (block_lt_of_cell HA.out)]; exact HA.out
  have cb3 : w2.cell? ⟨bd, 3, none⟩ = some (.map (some bm)) := cell_of_row _ _ _ _ _ _ hV2.blk
  have rg2 : w2.rangeAt w.heap.size 1 C := by
    intro j v hv
    rw [cell_of_row _ _ _ _ _ _ HROW2.out]
    unfold wrE
    simp only [List.getElem?_toArray]
    rw [Nat.add_comm 1 j, List.getElem?_cons_succ, ← HC.out]
    exact hv
  have hu199 : Tryz.prog.underlying 193 = some (.array 64 5) := Tryz.underlying193
  have hi199 : (Tryz.prog.info? 193).map (·.size) = some C.length := by rw [hCl]; kernel_rfl
  have h1C : ∀ v ∈ C, v.oneCell' = true := by rw [HC.out]; exact bcells_one _
  have hmap : w2.drew.ownsMap Tryz.prog 3 heldR bm m (mapD d.wait) := ownsMap_heap hV2.rest.map rfl
  obtain ⟨w3, hup, hm3, hg3⟩ := hmap.update intKey Tryz.underlying78 (by unfold maxLen; omega) (keyOf_int_mk Tryz.underlying3 (key_wf k (by omega))) (show heldR (.agg C.toArray) = some (.held (.agg C.toArray), []) from rfl)
  have hs3 : Same (· = bm) w2.drew w3 := ⟨hg3.os, hg3.tape, hg3.output, hg3.size, fun j hj hn => hg3.block j hj (fun e => hn (Option.some.inj e))⟩
  have nm : ∀ p : Addr, ¬ S p.block → p.block ≠ bm := fun p hp e => hp (by rw [e]; exact HV.out.rest.sm)
  have cpd3 : w3.cell? pd = some (.pointer (some ⟨bd, 0, none⟩)) := hs3.cell (nm pd nd) (by rw [World.cell?_drew]; exact cpd)
  have cpa3 : w3.cell? pa = some (.int .i64 (k : Int)) := hs3.cell (nm pa na) (by rw [World.cell?_drew]; exact cpa)
  have hbb3 := (hs3.block bd (lt_of_heap' hV2.blk) HV.out.rest.n2).trans hV2.blk
  have cb33 : w3.cell? ⟨bd, 3, none⟩ = some (.map (some bm)) := cell_of_row _ _ _ _ _ _ hbb3
  have hnbm : w.heap.size ≠ bm := fun e => by have := ownsMap_lt HV.out.rest.map; omega
  have hrow3 := (hs3.block w.heap.size (by show w.heap.size < w2.heap.size; omega) hnbm).trans HROW2.out
  have rg3 : w3.rangeAt w.heap.size 1 C := by
    intro j v hv
    rw [cell_of_row _ _ _ _ _ _ hrow3, ← cell_of_row _ _ _ _ _ _ HROW2.out]
    exact rg2 j v hv
  have HV2' : Hid (DskV w2 S 1 bd gs bm m wv d) := hV2
  have HM3 : Hid (w3.ownsMap Tryz.prog 3 heldR bm (m + 1) ((mapD d.wait).put (.int .i64 (k : Int)) (.held (.agg C.toArray)))) := hm3
  have HS3 : Hid (Same (· = bm) w2.drew w3) := hs3
  have HROW3 : Hid (w3.heap[w.heap.size]? = some (.cells (wrE k s) 195 (0, 0))) := hrow3
  have HBB3 : Hid (w3.heap[bd]? = some (.cells (dskRow 1 gs d.safe.length bm wv d.fuse d.down) 88 (0, 0))) := hbb3
  clear hV2 hm3 hg3 hs3 hrow3 hbb3 hmap hw2 HROW HROW2 nm
  go_wp2
  go_region_held3 (fun w' => w'.cell? pd = some (.pointer (some ⟨bd, 0, none⟩)) ∧ w'.cell? pa = some (.int .i64 (k : Int)) ∧ w'.cell? ⟨bd, 3, none⟩ = some (.map (some bm)) ∧ w'.rangeAt w.heap.size 1 C) ((go_split_ands; ((repeat' constructor) <;> first | assumption | (rw [World.cell?_drew]; assumption) | (rw [World.rangeAt_drew]; assumption)))) (fail)
  go_wp2
  have hV := HV2'.out
  have hold := HV.out
  have hz3 : w2.heap.size ≤ w3.heap.size := HS3.out.size
  have hb3 : bd < w3.heap.size := lt_of_heap' HBB3.out
  have hbm3 : bm < w3.heap.size := ownsMap_lt HM3.out
  have hd1 := hold.rest.d1
  have hown3 : w3.ownsRow 0 195 65 wv d.wait.length (wrs d.wait) := own_heap hV.rest.wait.1 (fun g hg => HS3.out.block g (hV.rest.wait.lt hg) (hd1 g hg).2.2)
  refine w1_region _ bd w.heap.size pd (.int .i64 (k : Int) :: C) wv d.wait.length (wrs d.wait) _ (fun _ _ d _ _ h => by cases d <;> exact h) _ _ _ _ _ _ _ _ _ _ _ _ _ _ _ _ w3 cpd3 ?_ _ _ HBB3.out (cell_of_row _ _ _ _ _ _ HBB3.out) (fun e => nd (by rw [e]; exact hold.rest.sb)) (fun e => by have := lt_of_heap' hold.blk; omega) hown3 (by simp [hCl]) ?_ hwl (fun e => (hd1 bd e).1 rfl) (fun e => by have := hold.rest.wait.lt e; omega) (fun e => nd (hold.rest.wait.2 _ e)) ?_ ?_
  · intro j v hv
    rw [cell_of_row _ _ _ _ _ _ HROW3.out]
    unfold wrE
    rw [← HC.out]
    simpa using hv
  · intro u hu
    rcases List.mem_cons.1 hu with rfl | hu
    · rfl
    · exact h1C u hu
  · obtain ⟨-, ⟨h, -⟩ | ⟨g, c, cur, h, -⟩⟩ := hown3
    · exact ⟨_, _, _, h⟩
    · exact ⟨_, _, _, h⟩
  intro g' c' w' h2 h3 h5 a' ha
  have hzw : w3.heap.size + 1 ≤ w'.heap.size := by have := h3.size; simpa using this
  have hkeep : ∀ g, g < w3.heap.size → wv.ownBlock ≠ some g → w'.heap[g]? = w3.heap[g]? := fun g hg ho => by
    rw [h3.block g (by simp; omega) (fun e => ho e.symm), Below.heap_alloc _ _ _ (by simpa using hg)]
    rfl
  have hbe : w'.heap[bd]? = some (.cells (dskRow 1 gs d.safe.length bm wv d.fuse d.down) 88 (0, 0)) := (hkeep bd hb3 (fun e => (hd1 bd e).1 rfl)).trans HBB3.out
  have hnew : ∀ g, g < w3.heap.size → wv.ownBlock ≠ some g → g' ≠ g := fun g hg ho e => by
    rcases h5 with h | h
    · exact ho (by rw [← h, e])
    · omega
  have hgs3 : gs < w3.heap.size := by have := lt_of_heap' hV.rest.sec; omega
  refine ⟨ha, .tuple #[], by simp [results, Tryz.f215], rfl, ⟨gs, bm, .slice (some ⟨g', 0, none⟩) (d.wait.length + 1) c', ?_, ?_⟩, ?_⟩
  · rw [heap_setCell_same w' bd 4 _ _ _ hbe]
    rfl
  · refine ⟨?_, ?_, ⟨?_, ?_⟩, .inl hold.rest.sb, .inl hold.rest.ss, .inl hold.rest.sm, hold.rest.n1, hold.rest.n2, hold.rest.n3, ?_, hold.rest.v1, ?_⟩
    · rw [heap_setCell_other _ _ _ _ (fun e => hold.rest.n1 e.symm), hkeep gs hgs3 (fun e => (hd1 gs e).2.1 rfl), HS3.out.block gs (lt_of_heap' hV.rest.sec) hold.rest.n3]
      exact hV.rest.sec
    · have hm := HM3.out
      rw [HC.out] at hm
      have e : mapD (d.wait ++ [(k, s)]) = (mapD d.wait).put (.int .i64 (k : Int)) (.held (.agg (bcells s.data.toList).toArray)) := mapD_snoc _ _ _
      show World.ownsMap _ _ _ _ _ _ (mapD (d.wait ++ [(k, s)]))
      rw [e]
      exact ownsMap_heap hm (by rw [heap_setCell_other _ _ _ _ (fun e => hold.rest.n2 e.symm), hkeep bm hbm3 (fun e => (hd1 bm e).2.2 rfl)])
    · have e : wrs (d.wait ++ [(k, s)]) = wrs d.wait ++ (.int .i64 (k : Int) :: C) := by rw [HC.out]; simp [wrs]
      have e2 : (d.wait ++ [(k, s)]).length = d.wait.length + 1 := by simp
      show World.ownsRow _ _ _ _ _ (List.length (d.wait ++ [(k, s)])) (wrs (d.wait ++ [(k, s)]))
      rw [e, e2]
      refine own_heap h2 (fun g hg => ?_)
      cases hg
      rw [heap_setCell_other _ _ _ _ (hnew bd hb3 (fun e => (hd1 bd e).1 rfl))]
    · intro g hg
      cases hg
      rcases h5 with h | h
      · exact .inl (hold.rest.wait.2 _ h.symm)
      · exact .inr (by show w.heap.size ≤ g'; omega)
    · intro g hg
      cases hg
      exact ⟨hnew bd hb3 (fun e => (hd1 bd e).1 rfl), hnew gs hgs3 (fun e => (hd1 gs e).2.1 rfl), hnew bm hbm3 (fun e => (hd1 bm e).2.2 rfl)⟩
    · intro x hx
      rcases List.mem_append.1 hx with hx | hx
      · exact hold.rest.v2 x hx
      · cases List.mem_singleton.1 hx
        exact ⟨hk, hs64⟩
  · have s1 : Same S w w2 := below_same S HB2.out
    have s2 : Same S w2 w3 := ⟨HS3.out.os, HS3.out.tape, HS3.out.output, HS3.out.size, fun g hg hn => HS3.out.block g hg (by rintro rfl; exact hn hold.rest.sm)⟩
    refine s1.trans (s2.trans ⟨?_, ?_, ?_, ?_, fun g hg hn => ?_⟩)
    · rw [show (w'.setCell _ _).os = w'.os from rfl, h3.os]; rfl
    · rw [show (w'.setCell _ _).tape = w'.tape from rfl, h3.tape]; rfl
    · rw [show (w'.setCell _ _).output = w'.output from rfl, h3.output]; rfl
    · simp; omega
    · rw [heap_setCell_other _ _ _ _ (by rintro rfl; exact hn hold.rest.sb), hkeep g hg (fun e => hn (hold.rest.wait.2 g e))]
end Go.Proofs.YtapijhhmjjplmaaGreatDoor
namespace Go.Proofs.YtapijhhmjjplmaaGreatDoor
open Go.RowKit Go.Maps
/-- What a write leaves. -/
def Dsk.write (d : Dsk) (k : Nat) (s : ByteArray) : Dsk := if d.op.down then d.op else { d.op with wait := d.op.wait ++ [(k, s)] }
/-- The three variables of Write lie in boxes. -/
def boxW (w : World) (bd : Nat) (at_ : Int) (s : ByteArray) : World := ((w.alloc (.cells #[.pointer (some ⟨bd, 0, none⟩)] 30)).alloc (.cells #[.int .i64 at_] 3)).alloc (.cells #[.string s] 9)
theorem boxW_same (S : Nat → Prop) (w : World) (bd : Nat) (at_ : Int) (s : ByteArray) : Same S w (boxW w bd at_ s) := ((Same.alloc0 w _).alloc _).alloc _
theorem boxW_size (w : World) (bd : Nat) (at_ : Int) (s : ByteArray) : (boxW w bd at_ s).heap.size = w.heap.size + 3 := by simp [boxW]
theorem boxW_d (w : World) (bd : Nat) (at_ : Int) (s : ByteArray) : (boxW w bd at_ s).cell? ⟨w.heap.size, 0, none⟩ = some (.pointer (some ⟨bd, 0, none⟩)) := by
  have h : (boxW w bd at_ s).heap[w.heap.size]? = some (.cells #[.pointer (some ⟨bd, 0, none⟩)] 30 (0, 0)) := by
    unfold boxW
    rw [Below.heap_alloc _ _ _ (by simp; omega), Below.heap_alloc _ _ _ (by simp)]
    exact heap_alloc_new w _
  rw [cell_of_row _ _ _ _ _ _ h]
  rfl
theorem boxW_a (w : World) (bd : Nat) (at_ : Int) (s : ByteArray) : (boxW w bd at_ s).cell? ⟨w.heap.size + 1, 0, none⟩ = some (.int .i64 at_) := by
  have h : (boxW w bd at_ s).heap[w.heap.size + 1]? = some (.cells #[.int .i64 at_] 3 (0, 0)) := by
    unfold boxW
    rw [Below.heap_alloc _ _ _ (by simp)]
    have h := heap_alloc_new (w.alloc (.cells #[.pointer (some ⟨bd, 0, none⟩)] 30)) (.cells #[.int .i64 at_] 3)
    simpa using h
  rw [cell_of_row _ _ _ _ _ _ h]
  rfl
theorem boxW_s (w : World) (bd : Nat) (at_ : Int) (s : ByteArray) : (boxW w bd at_ s).cell? ⟨w.heap.size + 2, 0, none⟩ = some (.string s) := by
  have h : (boxW w bd at_ s).heap[w.heap.size + 2]? = some (.cells #[.string s] 9 (0, 0)) := by
    unfold boxW
    have h := heap_alloc_new ((w.alloc (.cells #[.pointer (some ⟨bd, 0, none⟩)] 30)).alloc (.cells #[.int .i64 at_] 3)) (.cells #[.string s] 9)
    simpa using h
  rw [cell_of_row _ _ _ _ _ _ h]
  rfl
set_option maxRecDepth 100000 in
theorem dsk_write (bd m : Nat) (S : Nat → Prop) (d : Dsk) (k : Nat) (s : ByteArray) (ev : Value) (w : World) (h : DskAt w S bd m d) (hE : w.cell? ⟨1, 0, none⟩ = some ev) (hG : ¬ S 1) (hf : d.fuse ≤ 9223372036854775807)
    (hk : k < d.safe.length) (hs : s.size = 64) (hwl : d.wait.length ≤ 1000000) (hm : m ≤ 1000000) (hn : d.safe.length ≤ 4096) (hSl : ∀ g, S g → g < w.heap.size) :
    Calls Tryz.prog 140 #[.pointer (some ⟨bd, 0, none⟩), .int .i64 (k : Int), .string s] w fun e w' => e = .returned (if d.op.down then ev else .nilIface) ∧ (∃ m', m' ≤ m + 1 ∧ DskAt w' (fun g => S g ∨ w.heap.size ≤ g) bd m' (d.write k s)) ∧ Same S w w' := by
  have hmf : ∀ (fn : Fn) (first cap : Array Value) (w : World), (Instr.makeFunc fn first cap).run Tryz.prog w = .ok (.func fn first cap) w := fun _ _ _ _ => rfl
  have hnot : ∀ (x : Bool) (w : World), (Op.unary .not (.bool x)).run Tryz.prog w = .ok (.bool (!x)) w := fun _ _ => rfl
  have hs1 : Same (fun _ => False) w (boxW w bd k s) := boxW_same _ w bd k s
  have h1 : DskAt (boxW w bd k s) S bd m d := h.on hs1 (fun _ _ h => h)
  have hE1 : (boxW w bd k s).cell? ⟨1, 0, none⟩ = some ev := hs1.cell (fun h => h) hE
  have hSb : S bd := by obtain ⟨_, _, _, h⟩ := h; exact h.rest.sb
  have hbl := hSl bd hSb
  have HC := dsk_has bd m S d k _ h1
  rw [decide_eq_true (show (0 : Int) ≤ k by omega), decide_eq_true (show (k : Int) < d.safe.length by omega)] at HC
  have HHAS : Hid (Calls Tryz.prog 179 #[.pointer (some ⟨bd, 0, none⟩), .int .i64 (k : Int)] (boxW w bd k s) fun e w' => e = .returned (.bool true) ∧ boxW w bd k s = w') := HC
  have cd := boxW_d w bd k s
  have ca := boxW_a w bd k s
  have cs := boxW_s w bd k s
  have hz := boxW_size w bd k s
  have HO : Hid (Calls Tryz.prog 214 #[.pointer (some ⟨bd, 0, none⟩), .func (.func 215) #[] #[.pointer (some ⟨w.heap.size + 1, 0, none⟩), .pointer (some ⟨w.heap.size + 2, 0, none⟩), .pointer (some ⟨w.heap.size, 0, none⟩)]] (boxW w bd k s) fun e w' => e = .returned (if d.op.down then ev else .nilIface) ∧ Hid (∃ m', m' ≤ m + 1 ∧ DskAt w' (fun g => S g ∨ w.heap.size ≤ g) bd m' (d.write k s)) ∧ Hid (Same S w w')) := by
    cases hd : d.op.down
    · have hfl : d.write k s = { d.op with wait := d.op.wait ++ [(k, s)] } := by unfold Dsk.write; rw [hd]; rfl
      rw [hfl]
      refine (operate_write bd m (m + 1) S (fun g => S g ∨ w.heap.size ≤ g) (fun g => S g ∨ w.heap.size ≤ g) d { d.op with wait := d.op.wait ++ [(k, s)] } _ _ h1 hd hf (fun _ h => .inl h) (fun _ h => h) (fun w2 gs bm wv hv hs2 => ?_)).mono ?_
      · have hne : ∀ j, ¬ S (w.heap.size + j) := fun j h => by have := hSl _ h; omega
        have hp : w2.cell? ⟨w.heap.size, 0, none⟩ = some (.pointer (some ⟨bd, 0, none⟩)) := hs2.cell (by show ¬ w.heap.size = bd; omega) cd
        have hpa : w2.cell? ⟨w.heap.size + 1, 0, none⟩ = some (.int .i64 (k : Int)) := hs2.cell (by show ¬ w.heap.size + 1 = bd; omega) ca
        have hps : w2.cell? ⟨w.heap.size + 2, 0, none⟩ = some (.string s) := hs2.cell (by show ¬ w.heap.size + 2 = bd; omega) cs
        refine (write1 bd gs bm m S wv d.op ⟨w.heap.size + 1, 0, none⟩ ⟨w.heap.size + 2, 0, none⟩ ⟨w.heap.size, 0, none⟩ k s w2 hv hpa hps hp (hne 1) (hne 0) (by rw [dop_safe]; exact hk) hs (by rw [dop_wait]; exact hwl) hm (by rw [dop_safe]; exact hn)).mono ?_
        rintro e w3 ⟨rfl, ⟨gs', bm', wv', h3⟩, s3⟩
        have hz2 := hs2.size
        refine ⟨rfl, ⟨gs', bm', wv', h3.blk, h3.rest.mono (fun g hg => hg.imp id (fun h => ?_))⟩, s3.weak (fun _ h => .inl h)⟩
        omega
      · rintro e w3 ⟨rfl, h3, s3⟩
        refine ⟨rfl, ⟨m + 1, Nat.le_refl _, h3⟩, ?_⟩
        refine ⟨s3.os.trans hs1.os, s3.tape.trans hs1.tape, s3.output.trans hs1.output, Nat.le_trans hs1.size s3.size, fun g hg hn => ?_⟩
        exact (s3.block g (by omega) (by rintro (h | h); exact hn h; omega)).trans (hs1.block g hg (fun h => h))
    · have hfl : d.write k s = d.op := by unfold Dsk.write; rw [hd]; rfl
      rw [hfl]
      refine (operate_down bd m S d _ ev _ h1 hE1 (by rintro rfl; exact hG hSb) hd hf).mono ?_
      rintro e w3 ⟨rfl, h3, s3⟩
      exact ⟨rfl, ⟨m, Nat.le_succ _, h3.mono (fun _ h => .inl h)⟩, (boxW_same S w bd k s).trans s3⟩
  obtain ⟨rv, hrv⟩ : ∃ rv, rv = (if d.op.down then ev else Value.nilIface) := ⟨_, rfl⟩
  rw [← hrv] at HO ⊢
  have hsi : ((s.size : Int) != 64) = false := by rw [bne_eq_false_iff_eq]; omega
  unfold boxW at HO HHAS cd ca cs
  clear hrv hs1 h1 hE1 h hE hf hwl hn hSl HC hz hk hs hm
  go_enter Tryz.func140, Tryz.ntmps140
  go_wp2_with (first | (go_at_call 179; refine HHAS.out.mono ?_; rintro e w' ⟨rfl, rfl⟩) | (go_at_call 214; refine HO.out.mono ?_; rintro e w3 ⟨rfl, H3, S3⟩))
  go_ret
  exact ⟨rfl, H3.out, S3.out⟩
end Go.Proofs.YtapijhhmjjplmaaGreatDoor
namespace Go.Proofs.YtapijhhmjjplmaaGreatDoor
open Go.RowKit Go.Maps
def Dsk.fresh (n : Nat) : Dsk := ⟨List.replicate n z64, [], 0, false⟩
theorem bcells_z64 : bcells z64.data.toList = List.replicate 64 (.int .u8 0) := by kernel_rfl
theorem secs_fresh (n : Nat) : secs (List.replicate n z64) = List.replicate (n * 64) (.int .u8 0) := by
  induction n with
  | zero => simp [secs]
  | succ n ih =>
    have e : secs (List.replicate (n + 1) z64) = bcells z64.data.toList ++ secs (List.replicate n z64) := by simp [secs, List.replicate_succ]
    rw [e, ih, bcells_z64, List.replicate_append_replicate]
    congr 1
    omega
theorem made_rep (v : Value) (L : List Value) (hL : ∀ x ∈ L, x = v) (h64 : L.length = 64) (N : Nat) : madeCells L.toArray N = (List.replicate N v).toArray := by
  unfold madeCells
  apply Array.ext
  · simp
  · intro i h1 h2
    have hlt : i % 64 < L.length := by rw [h64]; exact Nat.mod_lt _ (by omega)
    rw [Array.getElem_map, Array.getElem_range, List.size_toArray, h64, List.getElem_toArray, List.getElem_replicate, getElem!_pos _ _ (by simpa using hlt), List.getElem_toArray]
    exact hL _ (List.getElem_mem _)
theorem made_secs (n : Nat) : madeCells (secV z64).cells (n * 64) = (secs (List.replicate n z64)).toArray := by
  rw [secs_fresh]
  have hz : (secV z64).cells = (List.replicate 64 (.int .u8 0)).toArray := by show (bcells z64.data.toList).toArray = _; rw [bcells_z64]
  rw [hz]
  exact made_rep (.int .u8 0) _ (fun x hx => List.eq_of_mem_replicate hx) List.length_replicate _
theorem infoSec : ∃ i, Tryz.prog.info? 193 = some i ∧ i.zero = some (secV z64) ∧ i.size = 64 ∧ i.bytes = 64 := by
  have h : (Tryz.prog.info? 193).map (fun i => (i.zero, i.size, i.bytes)) = some (some (secV z64), 64, 64) := by kernel_rfl
  obtain ⟨i, hi, hz0, hz1, hz2⟩ := info_parts h
  exact ⟨i, hi, hz0, hz1, hz2⟩
theorem mk_secs (n : Nat) (hn : n ≤ 4096) (w : World) : (Instr.makeSlice 77 (.int .i64 (n : Int)) (.int .i64 (n : Int))).run Tryz.prog w = .ok (.slice (some ⟨w.heap.size, 0, none⟩) n n) (w.alloc (.cells (secs (List.replicate n z64)).toArray 193)) := by
  obtain ⟨i, hi, hz, hs, hb⟩ := infoSec
  have h := run_make (P := Tryz.prog) w 77 193 i (secV z64) Tryz.underlying77 hi hz .i64 .i64 n n (by omega) (by omega) (by rw [hb]; omega) (by omega)
  rw [hs, Int.toNat_natCast, made_secs] at h
  exact h
theorem new_fin (n : Nat) (C : Array Value) (hC : C = (secs (List.replicate n z64)).toArray) (w w' : World) (hw : w' = ((w.alloc (.cells C 193)).alloc (.map #[] 0)).alloc (.cells (dskRow 0 w.heap.size n (w.heap.size + 1) (.slice none 0 0) 0 false) 88)) :
    DskAt w' (fun g => w.heap.size ≤ g) (w.heap.size + 2) 0 (Dsk.fresh n) ∧ Below w.heap.size w w' := by
  subst hw
  refine ⟨⟨w.heap.size, w.heap.size + 1, .slice none 0 0, ?_, ⟨?_, ?_, ⟨⟨rfl, .inl ⟨rfl, rfl⟩⟩, fun g hg => by cases hg⟩, ?_, ?_, ?_, ?_, ?_, ?_, fun g hg => (by cases hg), ?_, fun x hx => (by cases hx)⟩⟩, ?_⟩
  · have h := heap_alloc_new ((w.alloc (.cells C 193)).alloc (.map #[] 0)) (.cells (dskRow 0 w.heap.size n (w.heap.size + 1) (.slice none 0 0) 0 false) 88)
    show _ = some (Obj.cells (dskRow 0 w.heap.size (List.replicate n z64).length (w.heap.size + 1) (.slice none 0 0) 0 false) 88 (0, 0))
    rw [List.length_replicate]
    simpa using h
  · rw [Below.heap_alloc _ _ _ (by simp; omega), Below.heap_alloc _ _ _ (by simp), heap_alloc_new w _, hC]
    rfl
  · have h := (World.ownsMap_made (w.alloc (.cells C 193)) Tryz.prog 3 heldR).alloc (.cells (dskRow 0 w.heap.size n (w.heap.size + 1) (.slice none 0 0) 0 false) 88)
    have e : (w.alloc (.cells C 193)).heap.size = w.heap.size + 1 := by simp
    rw [e] at h
    exact h
  · show w.heap.size ≤ w.heap.size + 2; omega
  · show w.heap.size ≤ w.heap.size; omega
  · show w.heap.size ≤ w.heap.size + 1; omega
  · show w.heap.size + 2 ≠ w.heap.size; omega
  · show w.heap.size + 2 ≠ w.heap.size + 1; omega
  · show w.heap.size ≠ w.heap.size + 1; omega
  · intro s hs
    rw [List.eq_of_mem_replicate hs]
    exact z64_size
  · exact (((Below.refl _ _).alloc (Nat.le_refl _) _).alloc (by simp) _).alloc (by simp; omega) _
set_option maxRecDepth 100000 in
theorem dsk_new (a : Int) (w : World) :
    Calls Tryz.prog 24 #[.int .i64 a] w fun e w' => ∃ bd, e = .returned (.pointer (some ⟨bd, 0, none⟩)) ∧ DskAt w' (fun g => w.heap.size ≤ g) bd 0 (Dsk.fresh (clampN a)) ∧ Below w.heap.size w w' := by
  obtain ⟨n, hn⟩ : ∃ n, n = clampN a := ⟨_, rfl⟩
  have hb := clampN_bound a
  rw [← hn] at hb ⊢
  obtain ⟨C, hC⟩ : ∃ C, C = (secs (List.replicate n z64)).toArray := ⟨_, rfl⟩
  have hmk : ∀ w, (Instr.makeSlice 77 (.int .i64 (n : Int)) (.int .i64 (n : Int))).run Tryz.prog w = .ok (.slice (some ⟨w.heap.size, 0, none⟩) n n) (w.alloc (.cells C 193)) := fun w => by
    rw [hC]; exact mk_secs n hb.2 w
  have hmm : ∀ w, (Instr.makeMap 78 none).run Tryz.prog w = .ok (.map (some w.heap.size)) (w.alloc (.map #[] 0)) := fun w => run_makeMap _ w
  have HF : Hid (∀ w' : World, w' = ((w.alloc (.cells C 193)).alloc (.map #[] 0)).alloc (.cells (dskRow 0 w.heap.size n (w.heap.size + 1) (.slice none 0 0) 0 false) 88) → DskAt w' (fun g => w.heap.size ≤ g) (w.heap.size + 2) 0 (Dsk.fresh n) ∧ Below w.heap.size w w') := fun w' hw => new_fin n C hC w w' hw
  by_cases h0 : a < 1
  · have hn1 : (n : Int) = 1 := by rw [hn, clampN_low a h0]; rfl
    rw [hn1] at hmk
    clear hn hC hb
    go_enter Tryz.func24, Tryz.ntmps24
    go_wp2
    go_ret
    exact ⟨_, rfl, HF.out _ rfl⟩
  · by_cases h1 : 4096 < a
    · have hn1 : (n : Int) = 4096 := by rw [hn, clampN_high a h1]; rfl
      rw [hn1] at hmk
      clear hn hC hb
      go_enter Tryz.func24, Tryz.ntmps24
      go_wp2
      go_ret
      exact ⟨_, rfl, HF.out _ rfl⟩
    · have hn1 : (n : Int) = a := by rw [hn, clampN_mid a h0 h1]; omega
      rw [hn1] at hmk
      clear hn hC hb
      go_enter Tryz.func24, Tryz.ntmps24
      go_wp2
      go_ret
      exact ⟨_, rfl, HF.out _ rfl⟩
end Go.Proofs.YtapijhhmjjplmaaGreatDoor
