/- OWN TEXT: the program's disk: what Flush does. -/
import Derived.Test.YtphhmjcobmnpeaaGreatDoorPD4
import Derived.Deep.RegionHeld3
namespace Go.Proofs.YtphhmjcobmnpeaaGreatDoor
open Go.RowKit Go.Maps

theorem wv_shape {w : World} {S : Nat → Prop} {bd gs bm m : Nat} {wv : Value} {d : Dsk} (h : DskB w S bd gs bm m wv d) : ∃ ao cw, wv = .slice ao d.wait.length cw ∧ (0 < d.wait.length → ∃ gw, ao = some ⟨gw, 0, none⟩) := by
  obtain ⟨-, h2 | ⟨g, cap, cur, hv, -⟩⟩ := h.wait.1
  · exact ⟨none, 0, by rw [h2.2, h2.1], fun h => by omega⟩
  · exact ⟨_, cap, hv, fun _ => ⟨g, rfl⟩⟩
theorem Same.alloc0 {S : Nat → Prop} (w : World) (o : Obj) : Same S w (w.alloc o) := (Same.refl S w).alloc o

set_option maxRecDepth 100000 in
set_option maxHeartbeats 1000000 in
theorem flush1 (bd gs bm m : Nat) (S : Nat → Prop) (wv : Value) (d : Dsk) (pl : Addr) (w : World) (h : DskV w S 1 bd gs bm m wv d) (hp : w.cell? pl = some (.pointer (some ⟨bd, 0, none⟩))) (hpl : ¬ S pl.block) (hwl : d.wait.length ≤ 1000000) (hn : d.safe.length ≤ 4096) :
    Calls Tryz.prog 105 #[.pointer (some pl)] w fun e w' => e = .returned (.tuple #[]) ∧ (∃ gs' bm' wv', DskV w' S 1 bd gs' bm' m wv' { d with safe := applyAll d.wait d.safe, wait := [] }) ∧ Same S w w' := by
  obtain ⟨ao, cw, rfl, hao⟩ := wv_shape h.rest
  obtain ⟨q, hq⟩ : ∃ q, q = d.wait.length := ⟨_, rfl⟩
  obtain ⟨n, hn'⟩ : ∃ n, n = d.safe.length := ⟨_, rfl⟩
  rw [← hq] at h hao hwl
  have c4 : w.cell? ⟨bd, 4, none⟩ = some (.slice ao q cw) := cell_of_row _ _ _ _ _ _ h.blk
  have HV0 : Hid (DskV w S 1 bd gs bm m (.slice ao q cw) { d with safe := applyAll (d.wait.take 0) d.safe }) := h
  have HP : Hid (w.cell? pl = some (.pointer (some ⟨bd, 0, none⟩))) := hp
  have HQ : Hid (q = d.wait.length) := hq
  have HN : Hid (n = d.safe.length) := hn'
  have HAO : Hid (0 < q → ∃ gw, ao = some ⟨gw, 0, none⟩) := hao
  have hqi : (q : Int) ≤ 1000000 := by omega
  have hni : (n : Int) ≤ 4096 := by omega
  have HV2 : Hid (∀ x ∈ d.wait, x.1 < d.safe.length ∧ x.2.size = 64) := h.rest.v2
  clear h hq hn' hao hwl hn
  go_enter Tryz.func105, Tryz.ntmps105
  go_wp2
  clear c4 hp
  go_loopw [8] (fun iv_ wr => ∃ i : Nat, i ≤ q ∧ iv_ = .int .i64 (i : Int) ∧ Hid (DskV wr S 1 bd gs bm m (.slice ao q cw) { d with safe := applyAll (d.wait.take i) d.safe }) ∧ Hid (Same S w wr)) (fun iv_ _ => q - (intOf iv_).toNat)
  case atStart => exact ⟨0, by omega, rfl, HV0, Same.refl _ _⟩
  case round =>
    clear HV0
    obtain ⟨i, hi, rfl, HV, HS⟩ := hrel
    by_cases hlt : i < q
    · obtain ⟨gw, rfl⟩ := HAO.out (by omega)
      have hiw : i < d.wait.length := by rw [← HQ.out]; exact hlt
      obtain ⟨x, hx⟩ : ∃ x, x = d.wait[i] := ⟨_, rfl⟩
      obtain ⟨hx1, hx2⟩ := HV2.out x (by rw [hx]; exact List.getElem_mem _)
      rw [← HN.out] at hx1
      obtain ⟨C, hC⟩ : ∃ C, C = Value.int .i64 (x.1 : Int) :: bcells x.2.data.toList := ⟨_, rfl⟩
      have HRG : Hid (wr.rangeAt gw (i * 65) C) := by
        have hw' : OwnS wr S 201 65 (.slice (some ⟨gw, 0, none⟩) q cw) d.wait.length (wrs d.wait) := HV.out.rest.wait
        rw [← HQ.out] at hw'
        rw [hC, hx]
        exact wrs_range hw' HQ.out (fun y hy => (HV2.out y hy).2) i hiw
      have hbl : (bcells x.2.data.toList).length = 64 := by rw [bcells_length, Array.length_toList]; exact hx2
      have hCl : C.length = 65 := by rw [hC, List.length_cons, hbl]
      have HIC : Hid ((Tryz.prog.info? 201).map (·.size) = some C.length) := by show _ = _; rw [hCl]; kernel_rfl
      obtain ⟨E, hE⟩ : ∃ E, E = C.toArray := ⟨_, rfl⟩
      have hEs : E.size = 65 := by rw [hE, List.size_toArray]; exact hCl
      have HIE : Hid ((Tryz.prog.info? 201).map (·.size) = some E.size) := by show _ = _; rw [hEs]; kernel_rfl
      have HCE : Hid (C.toArray = E) := hE.symm
      have HZE : Hid (∀ Z : Array Value, Z.size = 65 → Z.size = E.size) := fun Z hz => hz.trans hEs.symm
      have HOE : Hid (E.all (·.oneCell') = true) := by
        show _ = _
        rw [hE, hC, Array.all_eq_true_iff_forall_mem]
        intro v hv
        rcases List.mem_cons.1 (by simpa using hv : v ∈ Value.int .i64 (x.1 : Int) :: bcells x.2.data.toList) with rfl | hv
        · rfl
        · exact bcells_one _ v hv
      have HEC : Hid (E = (Value.int .i64 (x.1 : Int) :: bcells x.2.data.toList).toArray) := by rw [hE, hC]; rfl
      have HX2 : Hid (x.2.size = 64) := hx2
      have HXX : Hid (x = d.wait[i]) := hx
      clear hx hC hE hCl hEs
      go_wp2_with (first | (refine wpList_load_mid rfl 201 _ rfl gw (i * 65) rfl C _ HRG.out Tryz.underlying201 rfl HIC.out ?_; rw [HCE.out]) | (refine wpList_store_rowA rfl 201 _ _ rfl wr.heap.size E rfl rfl 201 _ (heap_alloc_new wr _) HIE.out (HZE.out _ rfl) HOE.out ?_; intro w2 hw2))
      have HB2 : Hid (Below wr.heap.size wr w2) := by rw [hw2.out]; exact below_row
      have hrow : w2.heap[wr.heap.size]? = some (.cells E 201 (0, 0)) := by rw [hw2.out]; exact setRow_heap _ _ _ _ _ _ (heap_alloc_new wr _)
      have hV2 := HV.out.keep HB2.out
      have hal : (applyAll (d.wait.take i) d.safe).length = n := by rw [applyAll_length, HN.out]
      have cpl : w2.cell? pl = some (.pointer (some ⟨bd, 0, none⟩)) := by
        have h1 := HS.out.cell hpl HP.out
        rw [HB2.out.cell (block_lt_of_cell h1)]
        exact h1
      have c2 : w2.cell? ⟨bd, 2, none⟩ = some (.slice (some ⟨gs, 0, none⟩) n n) := by
        have h1 : w2.cell? ⟨bd, 2, none⟩ = some (.slice (some ⟨gs, 0, none⟩) (applyAll (d.wait.take i) d.safe).length (applyAll (d.wait.take i) d.safe).length) := cell_of_row _ _ _ _ _ _ hV2.blk
        rw [hal] at h1
        exact h1
      have cn0 : w2.cell? ⟨wr.heap.size, 0, none⟩ = some (.int .i64 (x.1 : Int)) := by
        rw [cell_of_row _ _ _ _ _ _ hrow, HEC.out]
        rfl
      obtain ⟨B, hB⟩ : ∃ B, B = bcells x.2.data.toList := ⟨_, rfl⟩
      have hBl : B.length = 64 := by rw [hB]; exact hbl
      have hrg : w2.rangeAt wr.heap.size 1 B := by
        intro j v hv
        rw [cell_of_row _ _ _ _ _ _ hrow, HEC.out]
        simp only [List.getElem?_toArray]
        rw [Nat.add_comm 1 j, List.getElem?_cons_succ, ← hB]
        exact hv
      have hth : w2.there gs (x.1 * 64) 64 := by
        intro j hj
        have hsec := hV2.rest.sec
        have hsl := secs_length (applyAll (d.wait.take i) d.safe) hV2.rest.v1
        rw [hal] at hsl
        refine ⟨?_, frozen_of_row w2 gs _ _ _ hsec⟩
        rw [cell_of_row _ _ _ _ _ _ hsec, Array.getElem?_eq_getElem (by rw [List.size_toArray]; show _ < (secs (applyAll (d.wait.take i) d.safe)).length; rw [hsl]; omega)]
        rfl
      have hu199 : Tryz.prog.underlying 199 = some (.array 64 5) := Tryz.underlying199
      have hi199 : (Tryz.prog.info? 199).map (·.size) = some B.length := by rw [hBl]; kernel_rfl
      have h1B : ∀ v ∈ B, v.oneCell' = true := by rw [hB]; exact bcells_one _
      have hgp : pl.block ≠ gs := fun e => hpl (by rw [e]; exact HV.out.rest.ss)
      have hgb : bd ≠ gs := HV.out.rest.n1
      have hgl := lt_of_heap' HV.out.rest.sec
      have HVN : Hid (DskV (w2.drew.setCells gs (x.1 * 64) B) S 1 bd gs bm m (.slice (some ⟨gw, 0, none⟩) q cw) { d with safe := applyAll (d.wait.take (i + 1)) d.safe }) := by
        have h1 : DskV w2.drew S 1 bd gs bm m (.slice (some ⟨gw, 0, none⟩) q cw) { d with safe := applyAll (d.wait.take i) d.safe } := hV2.keep (Below.refl w2.heap.size w2).drew
        have h2 := (h1.setSec x.1 (by show x.1 < (applyAll (d.wait.take i) d.safe).length; rw [hal]; exact hx1) x.2 HX2.out).1
        rw [← hB] at h2
        rw [applyAll_snoc _ _ i hiw, ← HXX.out]
        exact h2
      have HSN : Hid (Same S w (w2.drew.setCells gs (x.1 * 64) B)) := by
        have h1 : DskV w2.drew S 1 bd gs bm m (.slice (some ⟨gw, 0, none⟩) q cw) { d with safe := applyAll (d.wait.take i) d.safe } := hV2.keep (Below.refl w2.heap.size w2).drew
        have h2 := (h1.setSec x.1 (by show x.1 < (applyAll (d.wait.take i) d.safe).length; rw [hal]; exact hx1) x.2 HX2.out).2
        rw [← hB] at h2
        exact HS.out.trans ((below_same S HB2.out).drew.trans h2)
      have hx1i : (x.1 : Int) < n := by omega
      clear hV2 hrow hal hB hw2 HRG
      go_frame
      go_region_held3 (fun w' => w'.cell? pl = some (.pointer (some ⟨bd, 0, none⟩)) ∧ w'.cell? ⟨bd, 2, none⟩ = some (.slice (some ⟨gs, 0, none⟩) n n) ∧ w'.cell? ⟨wr.heap.size, 0, none⟩ = some (.int .i64 (x.1 : Int)) ∧ w'.rangeAt wr.heap.size 1 B ∧ w'.there gs (x.1 * 64) 64) ((go_split_ands; ((repeat' constructor) <;> first | assumption | (rw [World.cell?_drew]; assumption) | (rw [World.rangeAt_drew]; assumption) | (rw [World.there_drew]; assumption) | (apply World.there_setCells; assumption) | (refine World.rangeAt_setCells_apart (by assumption) _ _ _ (by omega)) | (rw [World.cell?_setCells_out _ _ _ _ _ (by intro h1 h2; first | exact absurd h1 hgp | exact absurd h1 hgb | exact absurd h1 (by show wr.heap.size ≠ gs; omega))]; assumption)))) (fail)
      go_wp2
      go_roundw
      case rel => exact ⟨i + 1, by omega, by go_num, HVN, HSN⟩
      case measure => (simp [intOf]; try omega)
    · obtain ⟨i1, hi1⟩ : ∃ i1, i1 = i := ⟨_, rfl⟩
      subst hi1
      have HV1 : Hid (DskV wr S 1 bd gs bm m (.slice ao q cw) { d with safe := applyAll d.wait d.safe }) := by
        have h1 := HV.out
        rw [List.take_of_length_le (by rw [← HQ.out]; omega)] at h1
        exact h1
      have cpl : wr.cell? pl = some (.pointer (some ⟨bd, 0, none⟩)) := HS.out.cell hpl HP.out
      have HF : Hid (Calls Tryz.prog 106 #[.pointer (some ⟨bd, 0, none⟩)] wr fun e w' => e = .returned (.tuple #[]) ∧ Hid (DskV w' S 1 bd gs bm m (.slice none 0 0) { d with safe := applyAll d.wait d.safe, wait := [] }) ∧ Hid (Same S wr w')) := dsk_forget bd gs bm m S 1 _ _ wr HV1.out
      clear HV
      go_wp2_with fail
      refine HF.out.mono ?_
      rintro e w3 ⟨rfl, HV3, HS3⟩
      go_wp2
      go_end0
      exact ⟨rfl, ⟨_, _, _, HV3.out⟩, HS.out.trans HS3.out⟩

/-- What a flush leaves. -/
def Dsk.flush (d : Dsk) : Dsk := if d.op.down then d.op else { d.op with safe := applyAll d.op.wait d.op.safe, wait := [] }

set_option maxRecDepth 100000 in
theorem dsk_flush (bd m : Nat) (S : Nat → Prop) (d : Dsk) (ev : Value) (w : World) (h : DskAt w S bd m d) (hE : w.cell? ⟨1, 0, none⟩ = some ev) (hG : ¬ S 1) (hf : d.fuse ≤ 9223372036854775807) (hwl : d.wait.length ≤ 1000000) (hn : d.safe.length ≤ 4096) (hSl : ∀ g, S g → g < w.heap.size) :
    Calls Tryz.prog 46 #[.pointer (some ⟨bd, 0, none⟩)] w fun e w' => e = .returned (if d.op.down then ev else .nilIface) ∧ DskAt w' S bd m d.flush ∧ Same S w w' := by
  have hmf : ∀ (fn : Fn) (first cap : Array Value) (w : World), (Instr.makeFunc fn first cap).run Tryz.prog w = .ok (.func fn first cap) w := fun _ _ _ _ => rfl
  obtain ⟨w1, hw1⟩ : ∃ w1, w1 = w.alloc (.cells #[.pointer (some ⟨bd, 0, none⟩)] 27) := ⟨_, rfl⟩
  have hs1 : Same (fun _ => False) w w1 := by rw [hw1]; exact Same.alloc0 w _
  have h1 : DskAt w1 S bd m d := h.on hs1 (fun _ _ h => h)
  have hE1 : w1.cell? ⟨1, 0, none⟩ = some ev := hs1.cell (fun h => h) hE
  have hp1 : w1.cell? ⟨w.heap.size, 0, none⟩ = some (.pointer (some ⟨bd, 0, none⟩)) := by rw [hw1]; simp
  have hnS : ¬ S w.heap.size := fun h => by have := hSl _ h; omega
  have hSb : S bd := by obtain ⟨_, _, _, h⟩ := h; exact h.rest.sb
  have HO : Hid (Calls Tryz.prog 100 #[.pointer (some ⟨bd, 0, none⟩), .func (.func 105) #[] #[.pointer (some ⟨w.heap.size, 0, none⟩)]] w1 fun e w' => e = .returned (if d.op.down then ev else .nilIface) ∧ Hid (DskAt w' S bd m d.flush) ∧ Hid (Same S w w')) := by
    cases hd : d.op.down
    · have hfl : d.flush = { d.op with safe := applyAll d.op.wait d.op.safe, wait := [] } := by unfold Dsk.flush; rw [hd]; rfl
      rw [hfl]
      refine (operate_flush bd m m S S S d { d.op with safe := applyAll d.op.wait d.op.safe, wait := [] } _ w1 h1 hd hf (fun _ h => h) (fun _ h => h) (fun w2 gs bm wv hv hs2 => ?_)).mono ?_
      · have hp2 : w2.cell? ⟨w.heap.size, 0, none⟩ = some (.pointer (some ⟨bd, 0, none⟩)) := hs2.cell (by show ¬ w.heap.size = bd; rintro rfl; exact hnS hSb) hp1
        exact flush1 bd gs bm m S wv d.op ⟨w.heap.size, 0, none⟩ w2 hv hp2 hnS (by rw [dop_wait]; exact hwl) (by rw [dop_safe]; exact hn)
      · rintro e w3 ⟨rfl, h3, s3⟩
        exact ⟨rfl, h3, (hs1.weak (fun _ h => h.elim)).trans s3⟩
    · have hfl : d.flush = d.op := by unfold Dsk.flush; rw [hd]; rfl
      rw [hfl]
      refine (operate_down bd m S d _ ev w1 h1 hE1 (by rintro rfl; exact hG hSb) hd hf).mono ?_
      rintro e w3 ⟨rfl, h3, s3⟩
      exact ⟨rfl, h3, (hs1.weak (fun _ h => h.elim)).trans s3⟩
  rw [hw1] at HO
  obtain ⟨rv, hrv⟩ : ∃ rv, rv = (if d.op.down then ev else Value.nilIface) := ⟨_, rfl⟩
  rw [← hrv] at HO ⊢
  clear hrv hw1 hs1 h1 hE1 hp1 h hE hf hwl hn hSl w1
  go_enter Tryz.func46, Tryz.ntmps46
  go_wp2_with (go_at_call 100; refine HO.out.mono ?_; rintro e w3 ⟨rfl, H3, S3⟩)
  go_ret
  exact ⟨rfl, H3.out, S3.out⟩
end Go.Proofs.YtphhmjcobmnpeaaGreatDoor
