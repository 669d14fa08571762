/- OWN TEXT: the program's disk: the last statement of Write's closure: a write of 65 cells is appended. -/
import Derived.Test.YtphhmjcobmnpeaaGreatDoorPD6
import Derived.Great.BuildSlice
namespace Go.Proofs.YtphhmjcobmnpeaaGreatDoor
open Go.RowKit Go.Maps

/- d.wait = append(d.wait, wr): its operations. -/
@[reducible] def w1o0 (p : String) : Oper := { dst := some 17, op := .load 27 (.tmp 2), type := 27, pos := p, after := #[], guard := none }
@[reducible] def w1o1 (p : String) : Oper := { dst := some 18, op := .load 27 (.tmp 2), type := 27, pos := p, after := #[], guard := none }
@[reducible] def w1o2 (p : String) : Oper := { dst := some 19, op := .nilCheck (.tmp 18), type := 0, pos := p, after := #[{ on := 1, ground := .data }], guard := none }
@[reducible] def w1o3 (p : String) : Oper := { dst := some 20, op := .fieldAddr 62 (.tmp 19) 3, type := 0, pos := p, after := #[{ on := 2, ground := .data }], guard := none }
@[reducible] def w1o4 (p : String) : Oper := { dst := some 21, op := .load 60 (.tmp 20), type := 60, pos := p, after := #[{ on := 3, ground := .data }], guard := none }
@[reducible] def w1o5 (p : String) : Oper := { dst := some 22, op := .load 201 (.tmp 3), type := 201, pos := p, after := #[], guard := none }
@[reducible] def w1o6 (p : String) : Oper := { dst := some 23, op := .buildSlice 60 1 #[(0, .tmp 22)], type := 60, pos := p, after := #[{ on := 5, ground := .data }], guard := none }
@[reducible] def w1o7 (p : String) : Oper := { dst := some 24, op := .call { callee := .builtin .append, args := #[.tmp 21, .tmp 23], argTypes := #[60, 60] }, type := 60, pos := p, after := #[{ on := 4, ground := .data }, { on := 6, ground := .data }], guard := none }
@[reducible] def w1o8 (p : String) : Oper := { dst := some 25, op := .nilCheck (.tmp 17), type := 0, pos := p, after := #[{ on := 0, ground := .data }, { on := 0, ground := .phase }, { on := 1, ground := .phase }, { on := 2, ground := .phase }, { on := 3, ground := .phase }, { on := 4, ground := .phase }, { on := 5, ground := .phase }, { on := 6, ground := .phase }, { on := 7, ground := .phase }], guard := none }
@[reducible] def w1o9 (p : String) : Oper := { dst := some 26, op := .fieldAddr 62 (.tmp 25) 3, type := 0, pos := p, after := #[{ on := 8, ground := .data }, { on := 0, ground := .phase }, { on := 1, ground := .phase }, { on := 2, ground := .phase }, { on := 3, ground := .phase }, { on := 4, ground := .phase }, { on := 5, ground := .phase }, { on := 6, ground := .phase }, { on := 7, ground := .phase }], guard := none }
@[reducible] def w1o10 (p : String) : Oper := { dst := none, op := .store 60 (.tmp 26) (.tmp 24), type := 0, pos := p, after := #[{ on := 9, ground := .data }, { on := 7, ground := .data }, { on := 7, ground := .chain }, { on := 0, ground := .phase }, { on := 1, ground := .phase }, { on := 2, ground := .phase }, { on := 3, ground := .phase }, { on := 4, ground := .phase }, { on := 5, ground := .phase }, { on := 6, ground := .phase }, { on := 7, ground := .phase }], guard := none }
@[reducible] def w1ops (p : String) : Array Oper := #[w1o0 p, w1o1 p, w1o2 p, w1o3 p, w1o4 p, w1o5 p, w1o6 p, w1o7 p, w1o8 p, w1o9 p, w1o10 p]

theorem infoWr : ∃ i z, Tryz.prog.info? 201 = some i ∧ i.zero = some z ∧ i.size = 65 ∧ i.bytes = 72 ∧ z.cells.size = 65 := by
  have h : ((Tryz.prog.info? 201).bind fun i => i.zero.map fun z => (i.size, i.bytes, z.cells.size)) = some (65, 72, 65) := by kernel_rfl
  cases hi : Tryz.prog.info? 201 with
  | none => rw [hi] at h; cases h
  | some i =>
    rw [hi] at h
    cases hz : i.zero with
    | none => simp [hz] at h
    | some z =>
      simp [hz] at h
      exact ⟨i, z, rfl, hz, h.1, h.2.1, h.2.2⟩

/-- What the region's loads read. -/
def W1S (pd : Addr) (bd bw : Nat) (cs : List Value) (w : World) : Prop := w.cell? pd = some (.pointer (some ⟨bd, 0, none⟩)) ∧ w.rangeAt bw 0 cs

section
variable (p : String) (bd bw : Nat) (pd : Addr) (cs : List Value) (wv : Value) (n : Nat) (xs : List Value) (Q : Exit → Act → World → Prop)

/-- Behind the append. -/
theorem w1_end (hQ : ∀ c a d v w, Q (.panic c) (Act.put a d v) w → Q (.panic c) a w) (t : List Value) (g' m' c' : Nat) (v18 v19 v20 v21 v22 v23 : Value) (ht : t.length = 17)
    (w : World) (hS : W1S pd bd bw cs w) (hc : w.cell? ⟨bd, 4, none⟩ = some wv) (hf : w.frozen? ⟨bd, 4, none⟩ = false) (nd : pd.block ≠ bd) (nw : bw ≠ bd)
    (hpost : ∀ a', a'.defers = [] → Q .normal a' (w.setCell ⟨bd, 4, none⟩ (.slice (some ⟨g', 0, none⟩) m' c'))) :
    wpAnyH Tryz.prog .any (w1ops p) Q (W1S pd bd bw cs) 3 #[true, true, true, true, true, true, true, true, false, false, false]
      { tmps := (t ++ [.pointer (some ⟨bd, 0, none⟩), v18, v19, v20, v21, v22, v23, .slice (some ⟨g', 0, none⟩) m' c', undef, undef]).toArray, defers := [] } w := by
  match t, ht with
  | [t0, t1, t2, t3, t4, t5, t6, t7, t8, t9, t10, t11, t12, t13, t14, t15, t16], _ =>
  refine wpAnyH_take (i := 8) (oi := w1o8 p) (v := .pointer (some ⟨bd, 0, none⟩)) rfl (by kernel_rfl) (by kernel_rfl) (by kernel_rfl) (fun _ _ _ h => hQ _ _ _ _ _ h) (Or.inl ⟨by rfl, ?_⟩) hS ?_
  · intro w _
    go_simp
  simp only [Act.put, List.setIfInBounds_toArray, List.set_cons_zero, List.set_cons_succ, List.cons_append, List.nil_append]
  refine wpAnyH_take (i := 9) (oi := w1o9 p) (v := .pointer (some ⟨bd, 4, none⟩)) rfl (by kernel_rfl) (by kernel_rfl) (by kernel_rfl) (fun _ _ _ h => hQ _ _ _ _ _ h) (Or.inl ⟨by rfl, ?_⟩) hS ?_
  · intro w _
    go_simp
  simp only [Act.put, List.setIfInBounds_toArray, List.set_cons_zero, List.set_cons_succ]
  refine wpAnyH_ready (rs := [10]) (by kernel_rfl) (by simp) ?_
  refine AllReadyH.cons (o := w1o10 p) rfl (fun K hK => ?_) AllReadyH.nil
  go_simp
  refine hK.out _ _ ⟨?_, ?_⟩ (fun hS' => ?_)
  · rw [World.cell?_setCell_far _ _ _ _ (fun e => nd e.symm)]
    exact hS.1
  · intro j v hv
    rw [World.cell?_setCell_far _ _ _ _ (fun e => nw e.symm)]
    exact hS.2 j v hv
  refine wpAnyH_done (by kernel_rfl) ?_ _
  exact hpost _ rfl

/-- The append. -/
theorem w1_append (hQ : ∀ c a d v w, Q (.panic c) (Act.put a d v) w → Q (.panic c) a w) (t : List Value) (v18 v19 v20 v22 : Value) (ht : t.length = 17)
    (w : World) (hS : W1S pd bd bw cs (w.alloc (.cells cs.toArray 201))) (row : Array Value) (rt : TypeId) (hb : w.heap[bd]? = some (.cells row rt (0, 0))) (hc : w.cell? ⟨bd, 4, none⟩ = some wv) (nd : pd.block ≠ bd) (nw : bw ≠ bd)
    (hown : w.ownsRow 0 201 65 wv n xs) (hl : cs.length = 65) (h1 : ∀ u ∈ cs, u.oneCell' = true) (hn : n ≤ 1000000)
    (o1 : wv.ownBlock ≠ some bd) (o2 : wv.ownBlock ≠ some bw) (o3 : wv.ownBlock ≠ some pd.block)
    (hpost : ∀ g' c' w', w'.ownsRow 0 201 65 (.slice (some ⟨g', 0, none⟩) (n + 1) c') (n + 1) (xs ++ cs) → (w.alloc (.cells cs.toArray 201)).grownBy w' wv.ownBlock → (some g' = wv.ownBlock ∨ g' = w.heap.size + 1) → ∀ a', a'.defers = [] → Q .normal a' (w'.setCell ⟨bd, 4, none⟩ (.slice (some ⟨g', 0, none⟩) (n + 1) c'))) :
    wpAnyH Tryz.prog .any (w1ops p) Q (W1S pd bd bw cs) 4 #[true, true, true, true, true, true, true, false, false, false, false]
      { tmps := (t ++ [.pointer (some ⟨bd, 0, none⟩), v18, v19, v20, wv, v22, .slice (some ⟨w.heap.size, 0, none⟩) 1 1, undef, undef, undef]).toArray, defers := [] } (w.alloc (.cells cs.toArray 201)) := by
  obtain ⟨i, z, hi, hz, hz1, hz2, hz3⟩ := infoWr
  have hlt : bd < w.heap.size := block_lt_of_cell hc
  obtain ⟨v', w', hr, h2, h3, h4, h5⟩ := run_append_own_at (P := Tryz.prog) (w.alloc (.cells cs.toArray 201)) 0 60 60 201 i z 65 72 Tryz.underlying60 hi hz hz1 hz2 hz3 (by decide) wv n xs (World.ownsRow.alloc hown _) ⟨w.heap.size, 0, none⟩ 1 1 cs (by omega)
    (fun j u hj => by
      have e : (⟨w.heap.size, 0, none⟩ : Addr).add j = ⟨w.heap.size, j, none⟩ := by simp [Addr.add]; omega
      rw [e, cell_of_row _ _ _ _ _ _ (heap_alloc_new w _)]
      simpa using hj) h1 (by unfold maxLen; omega) (by omega) (by simp)
  obtain ⟨g', c', rfl⟩ : ∃ g' c', v' = .slice (some ⟨g', 0, none⟩) (n + 1) c' := by
    obtain ⟨-, h | ⟨g', cap', cur', hv', -⟩⟩ := h2
    · omega
    · exact ⟨g', cap', hv'⟩
  have hbk : w'.heap[bd]? = w.heap[bd]? := by rw [h3.block bd (by simp; omega) (fun e => o1 e.symm), Below.heap_alloc _ _ _ hlt]
  have hc' : w'.cell? ⟨bd, 4, none⟩ = some wv := by
    have e : w'.cell? ⟨bd, 4, none⟩ = w.cell? ⟨bd, 4, none⟩ := by unfold World.cell?; rw [hbk]
    rw [e]; exact hc
  have hf' : w'.frozen? ⟨bd, 4, none⟩ = false := frozen_of_row w' bd 4 _ _ (hbk.trans hb)
  have far : ∀ q : Addr, q.block < w.heap.size + 1 → wv.ownBlock ≠ some q.block → w'.cell? q = (w.alloc (.cells cs.toArray 201)).cell? q := fun q hq ho => by
    unfold World.cell?
    rw [h3.block q.block (by simpa using hq) (fun e => ho e.symm)]
  have hS' : W1S pd bd bw cs w' := by
    refine ⟨?_, fun j v hv => ?_⟩
    · rw [far pd (by simpa using block_lt_of_cell hS.1) o3]; exact hS.1
    · rw [far ⟨bw, 0 + j, none⟩ (by simpa using block_lt_of_cell (hS.2 j v hv)) o2]; exact hS.2 j v hv
  refine wpAnyH_ready (rs := [7]) (by kernel_rfl) (by simp) ?_
  refine AllReadyH.cons (o := w1o7 p) rfl (fun K hK => ?_) AllReadyH.nil
  match t, ht with
  | [t0, t1, t2, t3, t4, t5, t6, t7, t8, t9, t10, t11, t12, t13, t14, t15, t16], hh =>
  rw [if_pos (by rfl)]
  unfold Oper.wp execOp
  simp only [resolve, invoke, builtin, Sem.run_bind, Sem.run_pure, Result.andThen_ok, List.map_toArray, List.map_cons, List.map_nil]
  show Oper.upon _ _ _ K Q ((Sem.run Tryz.prog (Builtin.append_ #[60, 60] 60 #[wv, .slice (some ⟨w.heap.size, 0, none⟩) 1 1]) _).andThen _)
  rw [hr]
  refine hK.out _ _ hS' (fun _ => ?_)
  refine w1_end p bd bw pd cs wv Q hQ [t0, t1, t2, t3, t4, t5, t6, t7, t8, t9, t10, t11, t12, t13, t14, t15, t16] g' (n + 1) c' v18 v19 v20 wv v22 _ rfl w' hS' hc' hf' nd nw (hpost g' c' w' h2 h3 ?_)
  rcases h5 with e | e
  · exact .inl e
  · exact .inr (by simpa [Value.ownBlock] using e)

set_option maxRecDepth 100000 in
/-- The region. -/
theorem w1_region (hQ : ∀ c a d v w, Q (.panic c) (Act.put a d v) w → Q (.panic c) a w) (id : Nat) (t0 t1 t4 t5 t6 t7 t8 t9 t10 t11 t12 t13 t14 t15 t16 : Value)
    (w : World) (hd : w.cell? pd = some (.pointer (some ⟨bd, 0, none⟩))) (hr : w.rangeAt bw 0 cs) (row : Array Value) (rt : TypeId) (hb : w.heap[bd]? = some (.cells row rt (0, 0))) (hc : w.cell? ⟨bd, 4, none⟩ = some wv) (nd : pd.block ≠ bd) (nw : bw ≠ bd)
    (hown : w.ownsRow 0 201 65 wv n xs) (hl : cs.length = 65) (h1 : ∀ u ∈ cs, u.oneCell' = true) (hn : n ≤ 1000000)
    (o1 : wv.ownBlock ≠ some bd) (o2 : wv.ownBlock ≠ some bw) (o3 : wv.ownBlock ≠ some pd.block) (hwv : ∃ a l c, wv = .slice a l c)
    (hpost : ∀ g' c' w', w'.ownsRow 0 201 65 (.slice (some ⟨g', 0, none⟩) (n + 1) c') (n + 1) (xs ++ cs) → (w.drew.alloc (.cells cs.toArray 201)).grownBy w' wv.ownBlock → (some g' = wv.ownBlock ∨ g' = w.heap.size + 1) → ∀ a', a'.defers = [] → Q .normal a' (w'.setCell ⟨bd, 4, none⟩ (.slice (some ⟨g', 0, none⟩) (n + 1) c'))) :
    (Code.region id (w1ops p) true).wp Tryz.prog Q
      { tmps := #[t0, t1, .pointer (some pd), .pointer (some ⟨bw, 0, none⟩), t4, t5, t6, t7, t8, t9, t10, t11, t12, t13, t14, t15, t16, undef, undef, undef, undef, undef, undef, undef, undef, undef, undef], defers := [] } w := by
  have hS0 : W1S pd bd bw cs w.drew := ⟨by rw [World.cell?_drew]; exact hd, by rw [World.rangeAt_drew]; exact hr⟩
  have hSa : W1S pd bd bw cs (w.drew.alloc (.cells cs.toArray 201)) := by
    refine ⟨?_, fun j v hv => ?_⟩
    · rw [World.cell?_alloc_some _ _ _ (by rw [hS0.1]; rfl)]; exact hS0.1
    · rw [World.cell?_alloc_some _ _ _ (by rw [hS0.2 j v hv]; rfl)]; exact hS0.2 j v hv
  have hi : (Tryz.prog.info? 201).map (·.size) = some cs.length := by rw [hl]; kernel_rfl
  refine wp_region_held_drew (S := W1S pd bd bw cs) (by kernel_rfl) hS0 (fun _ => ?_)
  have e0 : Array.replicate (w1ops p).size false = #[false, false, false, false, false, false, false, false, false, false, false] := by rfl
  have e1 : (w1ops p).size = 11 := rfl
  rw [e0, e1]
  refine wpAnyH_take (i := 5) (oi := w1o5 p) (v := .agg cs.toArray) rfl (by kernel_rfl) (by kernel_rfl) (by kernel_rfl) (fun _ _ _ h => hQ _ _ _ _ _ h) (yieldsIf_load_mid (by rfl) _ _ rfl bw 0 rfl cs _ (fun w h => h.2) Tryz.underlying201 rfl hi) hS0 ?_
  simp only [Act.put, List.setIfInBounds_toArray, List.set_cons_zero, List.set_cons_succ]
  refine wpAnyH_take (i := 0) (oi := w1o0 p) (v := .pointer (some ⟨bd, 0, none⟩)) rfl (by kernel_rfl) (by kernel_rfl) (by kernel_rfl) (fun _ _ _ h => hQ _ _ _ _ _ h) (Or.inl ⟨by rfl, ?_⟩) hS0 ?_
  · intro w hw
    have hw := hw.1
    go_simp
  simp only [Act.put, List.setIfInBounds_toArray, List.set_cons_zero, List.set_cons_succ]
  refine wpAnyH_take (i := 1) (oi := w1o1 p) (v := .pointer (some ⟨bd, 0, none⟩)) rfl (by kernel_rfl) (by kernel_rfl) (by kernel_rfl) (fun _ _ _ h => hQ _ _ _ _ _ h) (Or.inl ⟨by rfl, ?_⟩) hS0 ?_
  · intro w hw
    have hw := hw.1
    go_simp
  simp only [Act.put, List.setIfInBounds_toArray, List.set_cons_zero, List.set_cons_succ]
  refine wpAnyH_take (i := 2) (oi := w1o2 p) (v := .pointer (some ⟨bd, 0, none⟩)) rfl (by kernel_rfl) (by kernel_rfl) (by kernel_rfl) (fun _ _ _ h => hQ _ _ _ _ _ h) (Or.inl ⟨by rfl, ?_⟩) hS0 ?_
  · intro w _
    go_simp
  simp only [Act.put, List.setIfInBounds_toArray, List.set_cons_zero, List.set_cons_succ]
  refine wpAnyH_take (i := 3) (oi := w1o3 p) (v := .pointer (some ⟨bd, 4, none⟩)) rfl (by kernel_rfl) (by kernel_rfl) (by kernel_rfl) (fun _ _ _ h => hQ _ _ _ _ _ h) (Or.inl ⟨by rfl, ?_⟩) hS0 ?_
  · intro w _
    go_simp
  simp only [Act.put, List.setIfInBounds_toArray, List.set_cons_zero, List.set_cons_succ]
  have key := w1_append p bd bw pd cs wv n xs Q hQ [t0, t1, .pointer (some pd), .pointer (some ⟨bw, 0, none⟩), t4, t5, t6, t7, t8, t9, t10, t11, t12, t13, t14, t15, t16] (.pointer (some ⟨bd, 0, none⟩)) (.pointer (some ⟨bd, 0, none⟩)) (.pointer (some ⟨bd, 4, none⟩)) (.agg cs.toArray) rfl w.drew hSa row rt hb (by rw [World.cell?_drew]; exact hc) nd nw hown hl h1 hn o1 o2 o3 hpost
  obtain ⟨i, z, hi, hz, hz1, hz2, hz3⟩ := infoWr
  have hfill : Instr.fill (fun j => some (j * i.size, i.size)) ((Array.range (1 * i.size)).map (z.cells[· % z.cells.size]!)) [(0, Value.agg cs.toArray)] = some cs.toArray := by
    have h := Great.fill_whole (s := i.size) (by omega) [Value.agg cs.toArray] ((Array.range (1 * i.size)).map (z.cells[· % z.cells.size]!)) (by intro v hv; rw [List.mem_singleton.1 hv]; show cs.toArray.size = _; simp; omega) (by simp)
    simpa [Value.cells] using h
  have hparts : ∀ a : Act, a.eval (.tmp 22) = .agg cs.toArray → Instr.fill (fun j => some (j * i.size, i.size)) ((Array.range (1 * i.size)).map (z.cells[· % z.cells.size]!)) ((#[((0 : Nat), Operand.tmp 22)] : Array (Nat × Operand)).map fun (i, x) => (i, a.eval x)).toList = some cs.toArray := fun a ha => by
    simp only [List.map_toArray, List.map_cons, List.map_nil, ha]
    exact hfill
  simp only [List.cons_append, List.nil_append] at key
  refine wpAnyH_ready (rs := [4, 6]) (by kernel_rfl) (by simp) ?_
  refine AllReadyH.cons (o := w1o4 p) rfl (fun K hK => ?_) (AllReadyH.cons (o := w1o6 p) rfl (fun K hK => ?_) AllReadyH.nil)
  · have hcd : w.drew.cell? ⟨bd, 4, none⟩ = some wv := by rw [World.cell?_drew]; exact hc
    obtain ⟨a, l, c, rfl⟩ := hwv
    go_simp
    refine hK.out _ _ hS0 (fun _ => ?_)
    refine wpAnyH_ready (rs := [6]) (by kernel_rfl) (by simp) ?_
    refine AllReadyH.cons (o := w1o6 p) rfl (fun K hK => ?_) AllReadyH.nil
    rw [if_pos (by rfl)]
    refine wp_buildSlice 60 201 1 _ rfl cs.toArray i z Tryz.underlying60 hi hz (by omega) (by omega) (hparts _ rfl) ?_
    refine hK.out _ _ hSa (fun _ => ?_)
    simp only [Act.put, List.setIfInBounds_toArray, List.set_cons_zero, List.set_cons_succ]
    exact key
  · rw [if_pos (by rfl)]
    refine wp_buildSlice 60 201 1 _ rfl cs.toArray i z Tryz.underlying60 hi hz (by omega) (by omega) (hparts _ rfl) ?_
    refine hK.out _ _ hSa (fun _ => ?_)
    refine wpAnyH_ready (rs := [4]) (by kernel_rfl) (by simp) ?_
    refine AllReadyH.cons (o := w1o4 p) rfl (fun K hK => ?_) AllReadyH.nil
    have hcd : (w.drew.alloc (.cells cs.toArray 201)).cell? ⟨bd, 4, none⟩ = some wv := by rw [World.cell?_alloc_some _ _ _ (by rw [World.cell?_drew, hc]; rfl), World.cell?_drew]; exact hc
    obtain ⟨wa, hwa⟩ : ∃ wa, w.drew.alloc (.cells cs.toArray 201) = wa := ⟨_, rfl⟩
    rw [hwa] at hcd hSa key ⊢
    clear hpost
    obtain ⟨a, l, c, rfl⟩ := hwv
    clear hwa
    go_simp
    refine hK.out _ _ hSa (fun _ => ?_)
    simp only [List.setIfInBounds_toArray, List.set_cons_zero, List.set_cons_succ]
    exact key
end
end Go.Proofs.YtphhmjcobmnpeaaGreatDoor
