/- OWN TEXT: the law's (*World).disk: Crash. -/
import Derived.Test.YtphhmjcobmnpeaaGreatDoorLD4
namespace Go.Proofs.YtphhmjcobmnpeaaGreatDoor
open Go.RowKit Go.Maps

def kints (ks : List Int) : List Value := ks.map (Value.int .i64)
theorem keep_shape {w : World} {kv : Value} {ks : List Int} (h : w.ownsRow 0 3 1 kv ks.length (kints ks)) : ∃ ao c, kv = .slice ao ks.length c ∧ (0 < ks.length → ∃ g, ao = some ⟨g, 0, none⟩ ∧ ∀ j (h : j < ks.length), w.cell? ⟨g, j, none⟩ = some (.int .i64 ks[j])) := by
  have hc := fun g (hg : kv.ownBlock = some g) => World.ownsRow.cells h hg
  obtain ⟨-, ⟨h1, h2⟩ | ⟨g, cap, cur, hv, -, hh, hle, -, -, htk⟩⟩ := h
  · exact ⟨none, 0, by rw [h1, h2], fun h => by omega⟩
  · refine ⟨some ⟨g, 0, none⟩, cap, hv, fun _ => ⟨g, rfl, fun j hj => ?_⟩⟩
    have h := hc g (by rw [hv]; rfl) j (.int .i64 ks[j]) (by simp [kints, hj])
    have e1 : (⟨g, 0, none⟩ : Addr).add j = ⟨g, j, none⟩ := by unfold Addr.add; split <;> simp_all
    rw [e1] at h
    exact h
theorem keepAt_of {w : World} {S : Nat → Prop} {kv : Value} {ks : List Int} (h : w.ownsRow 0 3 1 kv ks.length (kints ks)) (hS : ∀ g, kv.ownBlock = some g → ¬ S g) : KeepAt w S kv ks := by
  obtain ⟨ao, c, rfl, h2⟩ := keep_shape h
  by_cases hp : 0 < ks.length
  · obtain ⟨g, rfl, hg⟩ := h2 hp
    exact .inr ⟨g, c, rfl, hp, hS g rfl, hg⟩
  · have : ks = [] := List.eq_nil_of_length_eq_zero (by omega)
    subst this
    exact .inl ⟨ao, c, rfl, rfl⟩

/-- append([]int{}, keep...). -/
theorem run_append_keep (w : World) (g0 : Nat) (ty : TypeId) (kv : Value) (ks : List Int) (hg0 : g0 < w.heap.size) (h : w.ownsRow 0 3 1 kv ks.length (kints ks)) (hl : ks.length ≤ 1000000) :
    ∃ v' w', (Builtin.append_ #[43, 43] ty #[.slice (some ⟨g0, 0, none⟩) 0 0, kv]).run Tryz.prog w = .ok v' w' ∧ Below w.heap.size w w' ∧ KeepAt w' (fun g => g < g0) v' ks := by
  obtain ⟨i, hi, hz0, hz1, hz2⟩ := info_parts infoInt
  obtain ⟨ao, c, rfl, h2⟩ := keep_shape h
  by_cases hp : 0 < ks.length
  · obtain ⟨g, rfl, hg⟩ := h2 hp
    have hr := run_append_grow (P := Tryz.prog) w 43 ty 3 i (.int .i64 0) Tryz.underlying43 hi hz0 ⟨g0, 0, none⟩ 0 0 [] (by simp) (by intro j v hv; cases hv) ⟨g, 0, none⟩ ks.length c (kints ks) (by rw [hz1]; simp [kints]) (fun j v hv => by
      have e1 : (⟨g, 0, none⟩ : Addr).add j = ⟨g, j, none⟩ := by unfold Addr.add; split <;> simp_all
      rw [e1]
      have hj : j < ks.length := by
        rcases Nat.lt_or_ge j ks.length with h | h
        · exact h
        · rw [List.getElem?_eq_none (by simpa [kints] using h)] at hv; cases hv
      rw [hg j hj]
      simp [kints, hj] at hv
      rw [hv]) (by omega) (by omega) (growslice_fits (by omega) (by rw [hz2]; omega))
    refine ⟨_, _, hr, ?_, .inr ⟨w.heap.size, _, by rw [Nat.zero_add], hp, by show ¬ w.heap.size < g0; omega, fun j hj => ?_⟩⟩
    · exact ((Below.refl w.heap.size w).drew).alloc (Nat.le_refl _) _
    · have hn := heap_alloc_new w.drew (.cells ([].toArray ++ (kints ks).toArray ++ Builtin.zeroCells (Value.int IntKind.i64 0).cells (grownCap w (0 + ks.length) 0 3 - (0 + ks.length))) 3)
      show World.cell? _ ⟨w.drew.heap.size, j, none⟩ = _
      rw [cell_of_row _ _ _ _ _ _ hn]
      have hsz : (kints ks).length = ks.length := by simp [kints]
      rw [Array.getElem?_append_left (by simp [hsz, hj])]
      simp [kints, hj]
  · have hk : ks = [] := List.eq_nil_of_length_eq_zero (by omega)
    subst hk
    refine ⟨.slice (some ⟨g0, 0, none⟩) 0 0, w, ?_, Below.refl _ _, .inl ⟨_, _, rfl, rfl⟩⟩
    cases ao <;> simp [Builtin.append_, run_underlying Tryz.underlying43, sizeOf, typeInfo, hi, Builtin.lenOf, Builtin.firstCells, loadCells, loadCellsFrom] <;> rfl

theorem step_append_keep {w : World} {ops : Array Oper} {o : Oper} {a : Act} {K : Act → World → Prop} {Q : Exit → Act → World → Prop} {E : Prop} (hgd : o.guard = none) (s x : Operand)
    (ho : o.op = .call { callee := .builtin .append, args := #[s, x], argTypes := #[43, 43] }) (g0 : Nat) (kv : Value) (ks : List Int) (hs : a.eval s = .slice (some ⟨g0, 0, none⟩) 0 0) (hx : a.eval x = kv) (hg0 : g0 < w.heap.size)
    (hown : w.ownsRow 0 3 1 kv ks.length (kints ks)) (hl : ks.length ≤ 1000000)
    (h : ∀ v' w', Below w.heap.size w w' → KeepAt w' (fun g => g < g0) v' ks → K (a.put o.dst v') w') : if Region.wanted o (yielded ops a.tmps) = true then Oper.wp Tryz.prog o a w K Q else E := by
  have hw : Region.wanted o (yielded ops a.tmps) = true := by simp [Region.wanted, hgd]
  rw [if_pos hw]
  obtain ⟨v', w', hr, h1, h2⟩ := run_append_keep w g0 o.type kv ks hg0 hown hl
  unfold Oper.wp execOp
  simp only [ho, resolve, invoke, builtin, Sem.run_bind, Sem.run_pure, Result.andThen_ok, List.map_toArray, List.map_cons, List.map_nil, hs, hx, hr]
  exact h v' w' h1 h2
theorem Leaves2.on {w0 W W' W'' : World} {T : Nat → Prop} {N pg po bd be : Nat} {Sd Se : Nat → Prop} (h : Leaves2 w0 W N pg po bd be Sd Se W') (hs : Same T W' W'') (hT : ∀ g, T g → w0.heap.size ≤ g ∧ g < W.heap.size ∧ ¬ Sd g ∧ ¬ Se g ∧ g ≠ pg) : Leaves2 w0 W N pg po bd be Sd Se W'' := by
  obtain ⟨m', Sd', Se', d', r', h1, h2⟩ := h
  refine ⟨m', Sd', Se', d', r', h1.on hs (fun g hg => (hT g hg).1) (fun g hg ht => ?_) (fun ht => (hT pg ht).2.2.2.2 rfl), h2⟩
  obtain ⟨-, t1, t2, t3, -⟩ := hT g ht
  rcases hg with hg | hg
  · exact t2 ((h2 g t1).1.1 hg)
  · exact t3 ((h2 g t1).2.1 hg)

set_option maxRecDepth 100000 in
set_option maxHeartbeats 1000000 in
theorem ldisk_crash (w0 W : World) (N bw pg po bd be m : Nat) (Sd Se : Nat → Prop) (d : Dsk) (r : RDsk) (x : Stp) (kv : Value) (ks : List Int) (row : Array Value) (rt : TypeId) (hk : x.kind = 9) (H : Duo w0 W N pg po bd be m Sd Se d r) (hN : N ≤ 1000000)
    (hb : W.heap[bw]? = some (.cells row rt (0, 0))) (hrow : row[1]? = some kv) (hkv : W.ownsRow 0 3 1 kv ks.length (kints ks)) (hks : ks.length ≤ 1000000) (hkd : ∀ g, kv.ownBlock = some g → ¬ Sd g ∧ ¬ Se g) (hbw : w0.heap.size ≤ bw ∧ ¬ Sd bw ∧ ¬ Se bw ∧ bw ≠ pg) :
    Calls Tryz.prog 33 #[.pointer (some ⟨bw, 0, none⟩), .pointer (some ⟨pg, po, none⟩), stpV x] W fun e W' => e = .returned (.bool true) ∧ Leaves2 w0 W N pg po bd be Sd Se W' ∧ Same (fun g => Sd g ∨ Se g ∨ g = bw) W W' ∧ W'.heap[bw]? = some (.cells (row.setIfInBounds 1 (.slice none 0 0)) rt (0, 0)) := by
  obtain ⟨kd, xa, xb, xd, xs, xt⟩ := x
  simp only at hk
  subst hk
  obtain ⟨W1, hW1⟩ : ∃ W1, W1 = W.alloc (.cells #[.int .i64 9, .int .i64 xa, .int .i64 xb, .int .i64 xd, .string xs, .string xt] 40) := ⟨_, rfl⟩
  have s1 : Same (fun _ => False) W W1 := by rw [hW1]; exact Same.alloc0 W _
  have H1 := H.on s1 (fun _ h => h.elim) (fun _ _ h => h) (fun h => h)
  have c0 : W1.cell? ⟨pg, po, none⟩ = some (.pointer (some ⟨bd, 0, none⟩)) := H1.p0
  have k0 : W.cell? ⟨bw, 1, none⟩ = some kv := by rw [cell_of_row _ _ _ _ _ _ hb]; exact hrow
  have k1 : W1.cell? ⟨bw, 1, none⟩ = some kv := s1.cell (fun h => h) k0
  have hwl := H.wl
  have hml := H.ml
  have HH1 : Hid (Duo w0 W1 N pg po bd be m Sd Se d r) := H1
  have HS1 : Hid (Same (fun g => Sd g ∨ Se g) W W1) := s1.weak (fun _ h => h.elim)
  have HN : Hid ((¬ Sd pg ∧ ¬ Se pg) ∧ ¬ Sd bw ∧ ¬ Se bw) := ⟨H.np, hbw.2.1, hbw.2.2.1⟩
  have HLT : Hid (pg < W1.heap.size ∧ bw < W1.heap.size ∧ W.heap.size < W1.heap.size) := ⟨block_lt_of_cell H1.p0, block_lt_of_cell k1, by rw [hW1]; simp⟩
  have HKV : Hid (W1.ownsRow 0 3 1 kv ks.length (kints ks)) := own_heap hkv (fun g hg => s1.block g (OwnS.lt (S := fun _ => True) ⟨hkv, fun _ _ => trivial⟩ hg) (fun h => h))
  have HKS : Hid (ks.length ≤ 1000000) := hks
  have HKL : Hid (∀ V, Same Sd W1 V → V.ownsRow 0 3 1 kv ks.length (kints ks)) := fun V s => own_heap HKV.out (fun g hg => s.block g (OwnS.lt (S := fun _ => True) ⟨HKV.out, fun _ _ => trivial⟩ hg) (hkd g hg).1)
  have HR : Hid (∀ V kv2, Below W1.heap.size W1 V → KeepAt V (fun g => g < W1.heap.size) kv2 ks → Calls Tryz.prog 68 #[.pointer (some ⟨bd, 0, none⟩), kv2] V fun e w' => e = .returned (.tuple #[]) ∧ DskAt w' Sd bd m { d with safe := keepAll d.wait d.safe ks, wait := [], fuse := 0, down := false } ∧ Same Sd V w') := fun V kv2 hV hK => by
    refine plain_crash bd m Sd d V kv2 ks (HH1.out.dsk.on (below_same (fun _ => False) hV) (fun _ _ h => h)) ?_ (by omega) HH1.out.rel.size.2 hks
    rcases hK with h | ⟨gk, cap, e1, e2, e3, e4⟩
    · exact .inl h
    · exact .inr ⟨gk, cap, e1, e2, fun h => e3 (HH1.out.hi gk (.inl h)), e4⟩
  have hsl : r.safe.length = d.safe.length := by rw [H.rel.safe]
  have hv2 : ∀ x ∈ r.wait, x.1 < r.safe.length := by
    obtain ⟨gs, bm, wv, hd⟩ := H.dsk
    rw [H.rel.wait, hsl]
    exact fun x hx => (hd.rest.v2 x hx).1
  have HQ : Hid (∀ V, RefAt V Se be r → V.ownsRow 0 3 1 kv ks.length (kints ks) → Calls Tryz.prog 69 #[.pointer (some ⟨be, 0, none⟩), kv] V fun e w' => e = .returned (.tuple #[]) ∧ RefAt w' Se be (r.crash ks) ∧ Same Se V w') := fun V hV hK => by
    refine ref_crash be Se r kv ks V hV (keepAt_of hK (fun g hg => (hkd g hg).2)) (by rw [hsl]; exact H.rel.size.1) (by rw [hsl]; exact H.rel.seenLen) (by rw [hsl]; exact H.rel.size.2) hv2 ?_ hks
    have := H.wlr
    omega
  have HB : Hid (0 ≤ N + 1 ∧ m ≤ N + 1) := ⟨by omega, by omega⟩
  have HBW : Hid (W.heap[bw]? = some (.cells row rt (0, 0)) ∧ w0.heap.size ≤ bw ∧ bw ≠ pg) := ⟨hb, hbw.1, hbw.2.2.2⟩
  have hbi : ∀ w, (Instr.buildSlice 43 0 #[]).run Tryz.prog w = .ok (.slice (some ⟨w.heap.size, 0, none⟩) 0 0) (w.alloc (.cells #[] 3)) := fun w => by
    obtain ⟨i, hi, hz0, hz1, hz2⟩ := info_parts infoInt
    simp [Instr.buildSlice, run_underlying Tryz.underlying43, sizeOf, typeInfo, hi, newRow, Instr.fill, Array.range_zero']
  clear H1 H s1 hwl hml hkv hks hkd hb hrow k0 hbw hsl hv2
  go_enter Tryz.func33, Tryz.ntmps33
  go_wp2
  rw [← hW1]
  clear hW1
  go_region_held3 (fun w' => w'.cell? ⟨pg, po, none⟩ = some (.pointer (some ⟨bd, 0, none⟩)) ∧ w'.cell? ⟨bw, 1, none⟩ = some kv) (((repeat' constructor) <;> first | assumption | (rw [World.cell?_drew]; assumption) | (rw [World.cell?_drew, World.cell?_alloc_some _ _ _ (by simp [*])]; assumption))) (first
    | (refine step_append_keep rfl _ _ rfl W1.heap.size kv ks rfl rfl (by simp) (World.ownsRow.alloc (w := W1) HKV.out _) HKS.out ?_; intro v' W2 hB2 hK2; have HK2 : Hid (KeepAt W2 (fun g => g < W1.heap.size) v' ks) := hK2; have HBB : Hid (Below W1.heap.size W1 W2) := (((Below.refl W1.heap.size W1).alloc (Nat.le_refl _) _).drew).trans (hB2.mono (by simp)); have c02 : W2.cell? ⟨pg, po, none⟩ = some (.pointer (some ⟨bd, 0, none⟩)) := (HBB.out.cell HLT.out.1).trans c0; have k02 : W2.cell? ⟨bw, 1, none⟩ = some kv := (HBB.out.cell HLT.out.2.1).trans k1; clear hB2 hK2)
    | (go_at_call 68; refine (HR.out W2 v' HBB.out HK2.out).mono ?_; rintro e W3 ⟨rfl, D3, S3⟩; have c03 : W3.cell? ⟨pg, po, none⟩ = some (.pointer (some ⟨bd, 0, none⟩)) := S3.cell HN.out.1.1 c02; have k03 : W3.cell? ⟨bw, 1, none⟩ = some kv := S3.cell HN.out.2.1 k02; have HD3 : Hid (DskAt W3 Sd bd m { d with safe := keepAll d.wait d.safe ks, wait := [], fuse := 0, down := false }) := D3; have HS3 : Hid (Same Sd W1 W3) := (below_same Sd HBB.out).trans S3; clear D3 S3))
  obtain ⟨hp0, hp1, hr3, hb3⟩ := HH1.out.turnD HS3.out
  have HQ2 : Hid (Calls Tryz.prog 69 #[.pointer (some ⟨be, 0, none⟩), kv] W3.drew fun e w' => e = .returned (.tuple #[]) ∧ RefAt w' Se be (r.crash ks) ∧ Same Se W3.drew w') := HQ.out W3.drew (hr3.on (Same.refl (fun _ => False) W3).drew (fun _ _ h => h)) (HKL.out W3 HS3.out)
  clear HQ HR hr3 hb3 hp0 c0 k1 HKV HKL HK2 HBB c02 k02
  go_wp2
  go_region_held3 (fun w' => w'.cell? ⟨pg, po + 1, none⟩ = some (.pointer (some ⟨be, 0, none⟩)) ∧ w'.cell? ⟨bw, 1, none⟩ = some kv) (((repeat' constructor) <;> first | assumption | (rw [World.cell?_drew]; assumption))) (first
    | (go_at_call 69; refine HQ2.out.mono ?_; rintro e W4 ⟨rfl, R4, S4⟩; have c14 : W4.cell? ⟨pg, po + 1, none⟩ = some (.pointer (some ⟨be, 0, none⟩)) := S4.cell HN.out.1.2 (by rw [World.cell?_drew]; exact hp1); have k04 : W4.cell? ⟨bw, 1, none⟩ = some kv := S4.cell HN.out.2.2 (by rw [World.cell?_drew]; exact k03); have HR4 : Hid (RefAt W4 Se be (r.crash ks)) := R4; have HS4 : Hid (Same Se W3 W4) := ⟨S4.os, S4.tape, S4.output, S4.size, S4.block⟩; clear R4 S4))
  obtain ⟨h1, h2⟩ := HH1.out.both (W := W) HS1.out.size (HD3.out.mono (fun _ h => .inl h)) HS3.out (HR4.out.mono (fun _ h => .inl h)) HS4.out (HH1.out.rel.crash ks) HB.out.1 HB.out.2
  have hs := HS1.out.trans h2
  have hb4 : W4.heap[bw]? = some (.cells row rt (0, 0)) := by
    rw [hs.block bw (lt_of_heap' HBW.out.1) (by rintro (h | h); exact HN.out.2.1 h; exact HN.out.2.2 h)]
    exact HBW.out.1
  have f4 := frozen_of_row W4 bw 1 _ _ hb4
  have HF : Hid (Leaves2 w0 W N pg po bd be Sd Se (W4.setCell ⟨bw, 1, none⟩ (.slice none 0 0)) ∧ Same (fun g => Sd g ∨ Se g ∨ g = bw) W (W4.setCell ⟨bw, 1, none⟩ (.slice none 0 0)) ∧ (W4.setCell ⟨bw, 1, none⟩ (.slice none 0 0)).heap[bw]? = some (.cells (row.setIfInBounds 1 (.slice none 0 0)) rt (0, 0))) := by
    have hs5 : Same (· = bw) W4 (W4.setCell ⟨bw, 1, none⟩ (.slice none 0 0)) := Same.setCell (S := (· = bw)) (Same.refl _ _) ⟨bw, 1, none⟩ rfl _
    refine ⟨h1.on hs5 ?_, ?_, ?_⟩
    · rintro g rfl
      exact ⟨HBW.out.2.1, lt_of_heap' HBW.out.1, HN.out.2.1, HN.out.2.2, HBW.out.2.2⟩
    · exact (hs.weak (fun g h => h.elim .inl (fun h => .inr (.inl h)))).trans (hs5.weak (fun g h => .inr (.inr h)))
    · rw [heap_setCell_same W4 bw 1 _ _ _ hb4]
  clear h1 h2 hs hb4 HD3 HS3 HR4 HS4 HH1 HS1 HB HBW HN HLT
  go_wp2
  go_ret
  exact ⟨rfl, HF.out⟩
end Go.Proofs.YtphhmjcobmnpeaaGreatDoor
