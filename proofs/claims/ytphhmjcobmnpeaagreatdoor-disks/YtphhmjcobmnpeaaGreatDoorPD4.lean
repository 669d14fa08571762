/- OWN TEXT: the program's disk: forget, Flush. -/
import Derived.Test.YtphhmjcobmnpeaaGreatDoorPD3
namespace Go.Proofs.YtphhmjcobmnpeaaGreatDoor
open Go.RowKit Go.Maps

theorem wpList_clear_map {w : World} {ops : Array Oper} {rest : List Oper} {o : Oper} {a : Act} {Q : Exit → Act → World → Prop} (hgd : o.guard = none) (x : Operand)
    (ho : o.op = .call { callee := .builtin .clear, args := #[x], argTypes := #[52] }) (bm m : Nat) (D : DataW Value) (hx : a.eval x = .map (some bm)) (hown : w.ownsMap Tryz.prog 3 heldR bm m D)
    (h : ∀ w', w'.ownsMap Tryz.prog 3 heldR bm m (.map []) → Same (· = bm) w w' → wpList Tryz.prog ops Q rest (a.put o.dst (.tuple #[])) w') : wpList Tryz.prog ops Q (o :: rest) a w := by
  obtain ⟨es, clock, hb, -⟩ := hown
  refine wpList_plain hgd fun K hK => ?_
  have hlt : bm < w.heap.size := lt_of_heap' hb
  have hrun : (Builtin.clear_ #[52] o.type #[.map (some bm)]).run Tryz.prog w = .ok (.tuple #[]) { w with heap := w.heap.setIfInBounds bm (.map #[] clock) } := by
    simp [Builtin.clear_, run_underlying Tryz.underlying52, MapKept.run_getObj_map hb, MapKept.run_setObj_map _ hb, Result.andThen]
  unfold Oper.wp
  simp [execOp, ho, resolve, invoke, builtin, hx, hrun, Result.andThen]
  refine hK _ _ (h _ ⟨#[], clock, by simp [hlt], ⟨by simp, MapKept.stamped_empty clock, by simp⟩, Nat.zero_le _, rfl⟩ ⟨rfl, rfl, rfl, by simp, fun k hk hn => ?_⟩)
  simp [Array.getElem?_setIfInBounds]
  exact fun e => absurd e.symm hn

/-- Cells stored into the middle of a row that is known whole. -/
theorem setCells_row (P : Program) (w : World) (g o : Nat) (t : TypeId) (vs : List Value) (cur : Array Value) (hg : w.heap[g]? = some (.cells cur t (0, 0))) (hl : o + vs.length ≤ cur.size) (h1 : ∀ v ∈ vs, v.oneCell' = true) :
    w.setCells g o vs = w.setRow g (cur.toList.take o ++ vs ++ cur.toList.drop (o + vs.length)).toArray := by
  have a := run_storeCells_at P g o t vs 0 cur w hg (by simpa using hl) h1
  have b := run_storeCells_cells (P := P) g o vs 0 w (fun j hj => by rw [Nat.add_zero, cell_of_row _ _ _ _ _ _ hg, Array.getElem?_eq_getElem (by omega)]; rfl) (fun j hj => frozen_of_row _ _ _ _ _ hg) h1
  simp only [Nat.add_zero] at a b
  rw [a] at b
  exact (Result.ok.inj b).2.symm

theorem dsk_forget (bd gs bm m : Nat) (S : Nat → Prop) (lk : Int) (wv : Value) (d : Dsk) (w : World) (h : DskV w S lk bd gs bm m wv d) :
    Calls Tryz.prog 106 #[.pointer (some ⟨bd, 0, none⟩)] w fun e w' => e = .returned (.tuple #[]) ∧ DskV w' S lk bd gs bm m (.slice none 0 0) { d with wait := [] } ∧ Same S w w' := by
  have c3 : w.cell? ⟨bd, 3, none⟩ = some (.map (some bm)) := cell_of_row _ _ _ _ _ _ h.blk
  have HV : Hid (DskV w S lk bd gs bm m wv d) := h
  clear h
  go_enter Tryz.func106, Tryz.ntmps106
  go_wp2_with (refine wpList_clear_map rfl _ rfl bm m _ rfl HV.out.rest.map ?_; intro w1 hm hs; have hb1 := hs.block bd (lt_of_heap' HV.out.blk) HV.out.rest.n2; have c4 : w1.cell? ⟨bd, 4, none⟩ = some wv := cell_of_row _ _ _ _ _ _ (hb1.trans HV.out.blk); have f4 := frozen_of_row w1 bd 4 _ _ (hb1.trans HV.out.blk); have HM : Hid (w1.ownsMap Tryz.prog 3 heldR bm m (.map [])) := hm; have HS : Hid (Same (· = bm) w w1) := hs; clear hm hs hb1)
  go_end0
  have hv := HV.out
  have hb1 := (HS.out.block bd (lt_of_heap' hv.blk) hv.rest.n2).trans hv.blk
  have hl := lt_of_heap' hb1
  refine ⟨rfl, ⟨?_, ?_⟩, (HS.out.weak (by rintro g rfl; exact hv.rest.sm)).trans (Same.setCell (S := S) (Same.refl _ _) ⟨bd, 4, none⟩ hv.rest.sb _)⟩
  · rw [heap_setCell_same w1 bd 4 _ _ _ hb1]
    rfl
  · have hs2 : Same (· = bd) w1 (w1.setCell ⟨bd, 4, none⟩ (.slice none 0 0)) := Same.setCell (S := (· = bd)) (Same.refl _ _) ⟨bd, 4, none⟩ rfl _
    refine ⟨?_, ?_, ?_, hv.rest.sb, hv.rest.ss, hv.rest.sm, hv.rest.n1, hv.rest.n2, hv.rest.n3, ?_, hv.rest.v1, ?_⟩
    · have h1 := (HS.out.block gs (lt_of_heap' hv.rest.sec) hv.rest.n3).trans hv.rest.sec
      rw [hs2.block gs (lt_of_heap' h1) (fun e => hv.rest.n1 e.symm)]
      exact h1
    · exact ownsMap_heap HM.out (hs2.block bm (ownsMap_lt HM.out) (fun e => hv.rest.n2 e.symm))
    · exact ⟨⟨rfl, .inl ⟨rfl, rfl⟩⟩, fun g hg => by cases hg⟩
    · exact fun g hg => by cases hg
    · exact fun x hx => by cases hx

theorem secs_set : ∀ (l : List ByteArray), (∀ s ∈ l, s.size = 64) → ∀ k (_ : k < l.length) (s : ByteArray), (secs l).take (k * 64) ++ bcells s.data.toList ++ (secs l).drop (k * 64 + 64) = secs (l.set k s)
  | [], _, k, h, _ => by cases h
  | x :: r, hs, k, h, s => by
    have hl : (bcells x.data.toList).length = 64 := by rw [bcells_length, Array.length_toList]; exact hs x (List.mem_cons_self ..)
    have e : secs (x :: r) = bcells x.data.toList ++ secs r := rfl
    match k, h with
    | 0, _ =>
      rw [e, Nat.zero_mul, List.take_zero, List.nil_append, Nat.zero_add, List.drop_append_of_le_length (by omega), List.drop_eq_nil_of_le (by omega), List.nil_append]
      rfl
    | k + 1, h =>
      have ih := secs_set r (fun y hy => hs y (List.mem_cons_of_mem _ hy)) k (by simpa using h) s
      have e2 : secs ((x :: r).set (k + 1) s) = bcells x.data.toList ++ secs (r.set k s) := rfl
      rw [e2, ← ih, e, show (k + 1) * 64 = 64 + k * 64 by omega]
      have t1 : (bcells x.data.toList ++ secs r).take (64 + k * 64) = bcells x.data.toList ++ (secs r).take (k * 64) := by
        rw [List.take_append, List.take_of_length_le (by omega), hl, show 64 + k * 64 - 64 = k * 64 by omega]
      have t2 : (bcells x.data.toList ++ secs r).drop (64 + k * 64 + 64) = (secs r).drop (k * 64 + 64) := by
        rw [List.drop_append, List.drop_eq_nil_of_le (by omega), hl, List.nil_append, show 64 + k * 64 + 64 - 64 = k * 64 + 64 by omega]
      rw [t1, t2]
      simp only [List.append_assoc]

/-- A sector is stored. -/
theorem DskV.setSec {w : World} {S : Nat → Prop} {lk : Int} {bd gs bm m : Nat} {wv : Value} {d : Dsk} (h : DskV w S lk bd gs bm m wv d) (k : Nat) (hk : k < d.safe.length) (s : ByteArray) (hs : s.size = 64) :
    DskV (w.setCells gs (k * 64) (bcells s.data.toList)) S lk bd gs bm m wv { d with safe := d.safe.set k s } ∧ Same S w (w.setCells gs (k * 64) (bcells s.data.toList)) := by
  have hl : (bcells s.data.toList).length = 64 := by rw [bcells_length, Array.length_toList]; exact hs
  have hsl := secs_length d.safe h.rest.v1
  have e := setCells_row Tryz.prog w gs (k * 64) _ (bcells s.data.toList) _ h.rest.sec (by rw [hl, List.size_toArray, hsl]; omega) (bcells_one _)
  rw [hl] at e
  simp only [] at e
  rw [secs_set d.safe h.rest.v1 k hk s] at e
  have hsame : Same (· = gs) w (w.setRow gs (secs (d.safe.set k s)).toArray) := ⟨rfl, rfl, rfl, by simp, fun j hj hn => setRow_other _ _ _ _ hn⟩
  rw [e]
  refine ⟨⟨?_, ?_, ?_, ?_, h.rest.sb, h.rest.ss, h.rest.sm, h.rest.n1, h.rest.n2, h.rest.n3, h.rest.d1, ?_, ?_⟩, hsame.weak (by rintro g rfl; exact h.rest.ss)⟩
  · rw [hsame.block bd (lt_of_heap' h.blk) h.rest.n1]
    have hlen : (d.safe.set k s).length = d.safe.length := List.length_set
    show _ = some (Obj.cells (dskRow lk gs (List.length (d.safe.set k s)) bm wv d.fuse d.down) _ _)
    rw [hlen]
    exact h.blk
  · exact setRow_heap _ _ _ _ _ _ h.rest.sec
  · exact ownsMap_heap h.rest.map (hsame.block bm (ownsMap_lt h.rest.map) (fun e => h.rest.n3 e.symm))
  · exact h.rest.wait.on hsame (fun g hg => (h.rest.d1 g hg).2.1)
  · intro y hy
    rcases List.mem_or_eq_of_mem_set hy with hy | rfl
    · exact h.rest.v1 y hy
    · exact hs
  · intro x hx
    have := h.rest.v2 x hx
    exact ⟨by show _ < List.length (d.safe.set k s); rw [List.length_set]; exact this.1, this.2⟩

def applyAll (wait : List (Nat × ByteArray)) (safe : List ByteArray) : List ByteArray := wait.foldl (fun l x => l.set x.1 x.2) safe
theorem applyAll_length : ∀ (wait : List (Nat × ByteArray)) (safe : List ByteArray), (applyAll wait safe).length = safe.length
  | [], _ => rfl
  | x :: r, safe => by
    show (applyAll r (safe.set x.1 x.2)).length = _
    rw [applyAll_length r, List.length_set]
theorem applyAll_snoc (wait : List (Nat × ByteArray)) (safe : List ByteArray) (i : Nat) (h : i < wait.length) : applyAll (wait.take (i + 1)) safe = (applyAll (wait.take i) safe).set wait[i].1 wait[i].2 := by
  unfold applyAll
  rw [List.take_succ_eq_append_getElem h, List.foldl_append]
  rfl
/-- Where a waiting write's cells lie. -/
theorem wrs_length : ∀ (l : List (Nat × ByteArray)), (∀ x ∈ l, x.2.size = 64) → (wrs l).length = l.length * 65
  | [], _ => rfl
  | x :: r, hs => by
    have hl : (bcells x.2.data.toList).length = 64 := by rw [bcells_length, Array.length_toList]; exact hs x (List.mem_cons_self ..)
    have e : wrs (x :: r) = (.int .i64 (x.1 : Int) :: bcells x.2.data.toList) ++ wrs r := rfl
    rw [e, List.length_append, List.length_cons, hl, wrs_length r (fun y hy => hs y (List.mem_cons_of_mem _ hy)), List.length_cons]
    omega
theorem wrs_at : ∀ (l : List (Nat × ByteArray)), (∀ x ∈ l, x.2.size = 64) → ∀ k (h : k < l.length) j, j < 65 → (wrs l)[k * 65 + j]? = (.int .i64 (l[k].1 : Int) :: bcells l[k].2.data.toList)[j]?
  | [], _, k, h, _, _ => by cases h
  | x :: r, hs, k, h, j, hj => by
    have hl : (bcells x.2.data.toList).length = 64 := by rw [bcells_length, Array.length_toList]; exact hs x (List.mem_cons_self ..)
    have hl' : (Value.int .i64 (x.1 : Int) :: bcells x.2.data.toList).length = 65 := by rw [List.length_cons, hl]
    have e : wrs (x :: r) = (.int .i64 (x.1 : Int) :: bcells x.2.data.toList) ++ wrs r := rfl
    match k, h with
    | 0, _ =>
      rw [e, Nat.zero_mul, Nat.zero_add, List.getElem?_append_left (by omega)]
      rfl
    | k + 1, h =>
      rw [e, List.getElem?_append_right (by rw [hl']; omega), hl', show (k + 1) * 65 + j - 65 = k * 65 + j by omega]
      exact wrs_at r (fun y hy => hs y (List.mem_cons_of_mem _ hy)) k (by simpa using h) j hj
theorem wrs_range {w : World} {S : Nat → Prop} {gw cw n : Nat} {l : List (Nat × ByteArray)} (h : OwnS w S 201 65 (.slice (some ⟨gw, 0, none⟩) n cw) n (wrs l)) (hn : n = l.length) (hs : ∀ x ∈ l, x.2.size = 64) (k : Nat) (hk : k < l.length) :
    w.rangeAt gw (k * 65) (.int .i64 (l[k].1 : Int) :: bcells l[k].2.data.toList) := by
  intro j v hv
  obtain ⟨g', c', e, -, hc, -⟩ := h.open (by omega)
  cases e
  have hj : j < 65 := by
    have := (List.getElem?_eq_some_iff.1 hv).1
    rw [List.length_cons, bcells_length, Array.length_toList] at this
    have h64 : l[k].2.data.size = 64 := hs _ (List.getElem_mem _)
    omega
  have hw := wrs_at l hs k hk j hj
  rw [hv] at hw
  obtain ⟨hlt, he⟩ := List.getElem?_eq_some_iff.1 hw
  rw [hc (k * 65 + j) hlt, he]
end Go.Proofs.YtphhmjcobmnpeaaGreatDoor
