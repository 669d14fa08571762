/- OWN TEXT: joined of: PD6 PD7a PD7 PD8 PD9 DRel Is As Num Number. -/
import Derived.Great.BuildSlice
import Derived.Test.YtapijhhmjjplmaaGreatDoorProg
import Derived.WalkKit
import Derived.LaidEql
import Derived.Stop.Asserts
import Derived.RowKitTokens
import Derived.WalkSpells
import Derived.Deep.QuietTactic
import Derived.BigQuiet
import Derived.Test.YtapijhhmjjplmaaGreatDoorJdisks5
namespace Go.Proofs.YtapijhhmjjplmaaGreatDoor
open Go.RowKit Go.Maps

set_option maxRecDepth 100000 in
set_option maxHeartbeats 2000000 in
theorem dsk_crash (bd m : Nat) (S : Nat → Prop) (d : Dsk) (kv : Value) (ks : List Int) (w : World) (h : DskAt w S bd m d) (hK : KeepAt w S kv ks) (hwl : d.wait.length ≤ 1000000) (hn : d.safe.length ≤ 4096) (hkl : ks.length ≤ 1000000) :
    Calls Tryz.prog 59 #[.pointer (some ⟨bd, 0, none⟩), kv] w fun e w' => e = .returned (.tuple #[]) ∧ DskAt w' S bd m { d with safe := keepAll d.wait d.safe ks, wait := [], fuse := 0, down := false } ∧ Same S w w' := by
  obtain ⟨gs, bm, wv, h⟩ := h
  obtain ⟨ao, cw, rfl, hao⟩ := wv_shape h.rest
  obtain ⟨q, hq⟩ : ∃ q, q = d.wait.length := ⟨_, rfl⟩
  obtain ⟨n, hn'⟩ : ∃ n, n = d.safe.length := ⟨_, rfl⟩
  rw [← hq] at h hao hwl
  obtain ⟨t, ht⟩ : ∃ t, t = ks.length := ⟨_, rfl⟩
  have hkv : ∃ ak ck, kv = .slice ak t ck ∧ (0 < t → ∃ gk, ak = some ⟨gk, 0, none⟩ ∧ ¬ S gk ∧ ∀ j (h : j < ks.length), w.cell? ⟨gk, j, none⟩ = some (.int .i64 ks[j])) := by
    rcases hK with ⟨ak, ck, rfl, e⟩ | ⟨gk, ck, rfl, -, h3, h4⟩
    · exact ⟨ak, ck, by rw [ht, e]; rfl, fun h => by rw [ht, e] at h; cases h⟩
    · exact ⟨_, ck, by rw [ht], fun _ => ⟨gk, rfl, h3, h4⟩⟩
  obtain ⟨ak, ck, rfl, hak⟩ := hkv
  have c0 : w.cell? ⟨bd, 0, none⟩ = some (.int .i32 0) := cell_of_row _ _ _ _ _ _ h.blk
  have f0 := frozen_of_row w bd 0 _ _ h.blk
  obtain ⟨h1, s1⟩ := h.lockTo 1
  have HV0 : Hid (DskV (w.setCell ⟨bd, 0, none⟩ (.int .i32 1)) S 1 bd gs bm m (.slice ao q cw) { d with safe := keepAll d.wait d.safe (ks.take 0) }) := h1
  have HS0 : Hid (Same S w (w.setCell ⟨bd, 0, none⟩ (.int .i32 1))) := s1
  have HQ : Hid (q = d.wait.length) := hq
  have HN : Hid (n = d.safe.length) := hn'
  have HT : Hid (t = ks.length) := ht
  have HAO : Hid (0 < q → ∃ gw, ao = some ⟨gw, 0, none⟩) := hao
  have HAK : Hid (0 < t → ∃ gk, ak = some ⟨gk, 0, none⟩ ∧ ¬ S gk ∧ ∀ j (h : j < ks.length), w.cell? ⟨gk, j, none⟩ = some (.int .i64 ks[j])) := hak
  have hqi : (q : Int) ≤ 1000000 := by omega
  have hni : (n : Int) ≤ 4096 := by omega
  have hti : (t : Int) ≤ 1000000 := by omega
  have HV2 : Hid (∀ x ∈ d.wait, x.1 < d.safe.length ∧ x.2.size = 64) := h.rest.v2
  clear h h1 s1 hq hn' ht hao hak hwl hn hkl hK
  go_enter_defers Tryz.func59, Tryz.ntmps59
  go_wp2_with (go_at_call 57; refine (lock_free ⟨bd, 0, none⟩ _ c0 f0).mono ?_; rintro e w' ⟨rfl, rfl⟩)
  clear c0 f0
  go_loopw [16] (fun iv_ wr => ∃ i : Nat, i ≤ t ∧ iv_ = .int .i64 (i : Int) ∧ Hid (DskV wr S 1 bd gs bm m (.slice ao q cw) { d with safe := keepAll d.wait d.safe (ks.take i) }) ∧ Hid (Same S w wr)) (fun iv_ _ => t - (intOf iv_).toNat)
  case atStart => exact ⟨0, by omega, rfl, HV0, HS0⟩
  case round =>
    clear HV0 HS0
    obtain ⟨i, hi, rfl, HV, HS⟩ := hrel
    have c4 : wr.cell? ⟨bd, 4, none⟩ = some (.slice ao q cw) := cell_of_row _ _ _ _ _ _ HV.out.blk
    by_cases hlt : i < t
    · obtain ⟨gk, rfl, hSk, hck⟩ := HAK.out (by omega)
      have hik : i < ks.length := by rw [← HT.out]; exact hlt
      obtain ⟨k, hk⟩ : ∃ k, k = ks[i] := ⟨_, rfl⟩
      have ck' : wr.cell? ⟨gk, i, none⟩ = some (.int .i64 k) := by rw [hk]; exact HS.out.cell hSk (hck i hik)
      have HK1 : Hid (keepAll d.wait d.safe (ks.take (i + 1)) = keep1 d.wait (keepAll d.wait d.safe (ks.take i)) k) := by rw [hk]; exact keepAll_snoc _ _ _ i hik
      clear hk hck
      by_cases hk0 : 0 ≤ k
      · by_cases hkm : k < q
        · obtain ⟨k, rfl⟩ : ∃ k' : Nat, k = k' := ⟨k.toNat, by omega⟩
          have hkw : k < d.wait.length := by rw [← HQ.out]; omega
          obtain ⟨gw, rfl⟩ := HAO.out (by omega)
          obtain ⟨x, hx⟩ : ∃ x, x = d.wait[k] := ⟨_, rfl⟩
          obtain ⟨hx1, hx2⟩ := HV2.out x (by rw [hx]; exact List.getElem_mem _)
          rw [← HN.out] at hx1
          have HK2 : Hid (keepAll d.wait d.safe (ks.take (i + 1)) = (keepAll d.wait d.safe (ks.take i)).set x.1 x.2) := by
            show _ = _
            rw [HK1.out]
            unfold keep1
            rw [dif_pos ⟨by omega, by rw [← HQ.out]; exact hkm⟩, hx]
            rfl
          obtain ⟨C, hC⟩ : ∃ C, C = Value.int .i64 (x.1 : Int) :: bcells x.2.data.toList := ⟨_, rfl⟩
          have HRG : Hid (wr.rangeAt gw (k * 65) C) := by
            have hw' : OwnS wr S 195 65 (.slice (some ⟨gw, 0, none⟩) q cw) d.wait.length (wrs d.wait) := HV.out.rest.wait
            rw [← HQ.out] at hw'
            rw [hC, hx]
            exact wrs_range hw' HQ.out (fun y hy => (HV2.out y hy).2) k hkw
          have hbl : (bcells x.2.data.toList).length = 64 := by rw [bcells_length, Array.length_toList]; exact hx2
          have hCl : C.length = 65 := by rw [hC, List.length_cons, hbl]
          have HIC : Hid ((Tryz.prog.info? 195).map (·.size) = some C.length) := by show _ = _; rw [hCl]; kernel_rfl
          obtain ⟨E, hE⟩ : ∃ E, E = C.toArray := ⟨_, rfl⟩
          have hEs : E.size = 65 := by rw [hE, List.size_toArray]; exact hCl
          have HIE : Hid ((Tryz.prog.info? 195).map (·.size) = some E.size) := by show _ = _; rw [hEs]; kernel_rfl
          have HCE : Hid (C.toArray = E) := hE.symm
          have HZE : Hid (∀ Z : Array Value, Z.size = 65 → Z.size = E.size) := fun Z hz => hz.trans hEs.symm
          have HOE : Hid (E.all (·.oneCell') = true) := by
            show _ = _
            rw [hE, hC, Array.all_eq_true_iff_forall_mem]
            intro v hv
            rcases List.mem_cons.1 (by simpa using hv : v ∈ Value.int .i64 (x.1 : Int) :: bcells x.2.data.toList) with rfl | hv
            · rfl
            · exact bcells_one _ v hv
          have HEC : Hid (E = (Value.int .i64 (x.1 : Int) :: bcells x.2.data.toList).toArray) := by rw [hE, hC]; rfl
          have HX2 : Hid (x.2.size = 64) := hx2
          clear hx hC hE hCl hEs HK1
          go_wp2_with (first | (refine wpList_load_mid rfl 195 _ rfl gw (k * 65) rfl C _ HRG.out Tryz.underlying195 rfl HIC.out ?_; rw [HCE.out]) | (refine wpList_store_rowA rfl 195 _ _ rfl wr.heap.size E rfl rfl 195 _ (heap_alloc_new wr _) HIE.out (HZE.out _ rfl) HOE.out ?_; intro w2 hw2))
          have HB2 : Hid (Below wr.heap.size wr w2) := by rw [hw2.out]; exact below_row
          have hrow : w2.heap[wr.heap.size]? = some (.cells E 195 (0, 0)) := by rw [hw2.out]; exact setRow_heap _ _ _ _ _ _ (heap_alloc_new wr _)
          have hV2 := HV.out.keep HB2.out
          have hal : (keepAll d.wait d.safe (ks.take i)).length = n := by rw [keepAll_length, HN.out]
          have c2 : w2.cell? ⟨bd, 2, none⟩ = some (.slice (some ⟨gs, 0, none⟩) n n) := by
            have h1 : w2.cell? ⟨bd, 2, none⟩ = some (.slice (some ⟨gs, 0, none⟩) (keepAll d.wait d.safe (ks.take i)).length (keepAll d.wait d.safe (ks.take i)).length) := cell_of_row _ _ _ _ _ _ hV2.blk
            rw [hal] at h1
            exact h1
          have cn0 : w2.cell? ⟨wr.heap.size, 0, none⟩ = some (.int .i64 (x.1 : Int)) := by
            rw [cell_of_row _ _ _ _ _ _ hrow, HEC.out]
            rfl
          obtain ⟨B, hB⟩ : ∃ B, B = bcells x.2.data.toList := ⟨_, rfl⟩
          have hBl : B.length = 64 := by rw [hB]; exact hbl
          have hrg : w2.rangeAt wr.heap.size 1 B := by
            intro j v hv
            rw [cell_of_row _ _ _ _ _ _ hrow, HEC.out]
            simp only [List.getElem?_toArray]
            rw [Nat.add_comm 1 j, List.getElem?_cons_succ, ← hB]
            exact hv
          have hth : w2.there gs (x.1 * 64) 64 := by
            intro j hj
            have hsec := hV2.rest.sec
            have hsl := secs_length (keepAll d.wait d.safe (ks.take i)) hV2.rest.v1
            rw [hal] at hsl
            refine ⟨?_, frozen_of_row w2 gs _ _ _ hsec⟩
            rw [cell_of_row _ _ _ _ _ _ hsec, Array.getElem?_eq_getElem (by rw [List.size_toArray]; show _ < (secs (keepAll d.wait d.safe (ks.take i))).length; rw [hsl]; omega)]
            rfl
          have hu199 : Tryz.prog.underlying 193 = some (.array 64 5) := Tryz.underlying193
          have hi199 : (Tryz.prog.info? 193).map (·.size) = some B.length := by rw [hBl]; kernel_rfl
          have h1B : ∀ v ∈ B, v.oneCell' = true := by rw [hB]; exact bcells_one _
          have hgb : bd ≠ gs := HV.out.rest.n1
          have hgl := lt_of_heap' HV.out.rest.sec
          have HVN : Hid (DskV (w2.drew.setCells gs (x.1 * 64) B) S 1 bd gs bm m (.slice (some ⟨gw, 0, none⟩) q cw) { d with safe := keepAll d.wait d.safe (ks.take (i + 1)) }) := by
            have h1 : DskV w2.drew S 1 bd gs bm m (.slice (some ⟨gw, 0, none⟩) q cw) { d with safe := keepAll d.wait d.safe (ks.take i) } := hV2.keep (Below.refl w2.heap.size w2).drew
            have h2 := (h1.setSec x.1 (by show x.1 < (keepAll d.wait d.safe (ks.take i)).length; rw [hal]; exact hx1) x.2 HX2.out).1
            rw [← hB] at h2
            rw [HK2.out]
            exact h2
          have HSN : Hid (Same S w (w2.drew.setCells gs (x.1 * 64) B)) := by
            have h1 : DskV w2.drew S 1 bd gs bm m (.slice (some ⟨gw, 0, none⟩) q cw) { d with safe := keepAll d.wait d.safe (ks.take i) } := hV2.keep (Below.refl w2.heap.size w2).drew
            have h2 := (h1.setSec x.1 (by show x.1 < (keepAll d.wait d.safe (ks.take i)).length; rw [hal]; exact hx1) x.2 HX2.out).2
            rw [← hB] at h2
            exact HS.out.trans ((below_same S HB2.out).drew.trans h2)
          have hx1i : (x.1 : Int) < n := by omega
          clear hV2 hrow hal hB hw2 HRG
          go_frame
          go_region_held3 (fun w' => w'.cell? ⟨bd, 2, none⟩ = some (.slice (some ⟨gs, 0, none⟩) n n) ∧ w'.cell? ⟨wr.heap.size, 0, none⟩ = some (.int .i64 (x.1 : Int)) ∧ w'.rangeAt wr.heap.size 1 B ∧ w'.there gs (x.1 * 64) 64) ((go_split_ands; ((repeat' constructor) <;> first | assumption | (rw [World.cell?_drew]; assumption) | (rw [World.rangeAt_drew]; assumption) | (rw [World.there_drew]; assumption) | (apply World.there_setCells; assumption) | (refine World.rangeAt_setCells_apart (by assumption) _ _ _ (by omega)) | (rw [World.cell?_setCells_out _ _ _ _ _ (by intro h1 h2; first | exact absurd h1 hgb | exact absurd h1 (by show wr.heap.size ≠ gs; omega))]; assumption)))) (fail)
          go_wp2
          go_roundw
          case rel => exact ⟨i + 1, by omega, by go_num, HVN, HSN⟩
          case measure => (simp [intOf]; try omega)
        · have HK2 : Hid (keepAll d.wait d.safe (ks.take (i + 1)) = keepAll d.wait d.safe (ks.take i)) := by
            show _ = _
            rw [HK1.out]
            unfold keep1
            rw [dif_neg (by rw [← HQ.out]; omega)]
          clear HK1
          go_wp2
          go_roundw
          case rel => exact ⟨i + 1, by omega, by go_num, by rw [HK2.out]; exact HV, HS⟩
          case measure => (simp [intOf]; try omega)
      · have HK2 : Hid (keepAll d.wait d.safe (ks.take (i + 1)) = keepAll d.wait d.safe (ks.take i)) := by
          show _ = _
          rw [HK1.out]
          unfold keep1
          rw [dif_neg (by omega)]
        clear HK1
        go_wp2
        go_roundw
        case rel => exact ⟨i + 1, by omega, by go_num, by rw [HK2.out]; exact HV, HS⟩
        case measure => (simp [intOf]; try omega)
    · obtain ⟨i1, hi1⟩ : ∃ i1, i1 = i := ⟨_, rfl⟩
      subst hi1
      have HV1 : Hid (DskV wr S 1 bd gs bm m (.slice ao q cw) { d with safe := keepAll d.wait d.safe ks }) := by
        have h1 := HV.out
        rw [List.take_of_length_le (by rw [← HT.out]; omega)] at h1
        exact h1
      have HF : Hid (Calls Tryz.prog 101 #[.pointer (some ⟨bd, 0, none⟩)] wr fun e w' => e = .returned (.tuple #[]) ∧ Hid (DskV w' S 1 bd gs bm m (.slice none 0 0) { d with safe := keepAll d.wait d.safe ks, wait := [] }) ∧ Hid (Same S wr w')) := dsk_forget bd gs bm m S 1 _ _ wr HV1.out
      clear HV
      go_wp2_with fail
      refine HF.out.mono ?_
      rintro e w3 ⟨rfl, HV3, HS3⟩
      have c5 : w3.cell? ⟨bd, 5, none⟩ = some (.int .i64 d.fuse) := cell_of_row _ _ _ _ _ _ HV3.out.blk
      have c6 : w3.cell? ⟨bd, 6, none⟩ = some (.bool d.down) := cell_of_row _ _ _ _ _ _ HV3.out.blk
      have f5 := frozen_of_row w3 bd 5 _ _ HV3.out.blk
      have f6 := frozen_of_row w3 bd 6 _ _ HV3.out.blk
      go_wp2
      obtain ⟨h4, s4⟩ := HV3.out.setFuse 0
      obtain ⟨h5, s5⟩ := h4.setDown false
      refine leaves_cons (f := 58) (args := #[.pointer (some ⟨bd, 0, none⟩)]) (by simp) (by simp [go_sem]) ?_
      refine (unlock_deferred ⟨bd, 0, none⟩ .returning _ (cell_of_row _ _ _ _ _ _ h5.blk) (frozen_of_row _ _ _ _ _ h5.blk)).mono ?_
      rintro e u' w'' ⟨rfl, rfl, hw⟩
      obtain ⟨h6, s6⟩ := h5.lockTo 0
      rw [← hw] at h6 s6
      exact ⟨_, results_none rfl _ _ _, rfl, ⟨_, _, _, h6⟩, HS.out.trans (HS3.out.trans (s4.trans (s5.trans s6)))⟩
end Go.Proofs.YtapijhhmjjplmaaGreatDoor
namespace Go.Proofs.YtapijhhmjjplmaaGreatDoor
open Go.RowKit Go.Maps

/- d.wait = append(d.wait, wr): its operations. -/
@[reducible] def w1o0 (p : String) : Oper := { dst := some 17, op := .load 30 (.tmp 2), type := 30, pos := p, after := #[], guard := none }
@[reducible] def w1o1 (p : String) : Oper := { dst := some 18, op := .load 30 (.tmp 2), type := 30, pos := p, after := #[], guard := none }
@[reducible] def w1o2 (p : String) : Oper := { dst := some 19, op := .nilCheck (.tmp 18), type := 0, pos := p, after := #[{ on := 1, ground := .data }], guard := none }
@[reducible] def w1o3 (p : String) : Oper := { dst := some 20, op := .fieldAddr 88 (.tmp 19) 3, type := 0, pos := p, after := #[{ on := 2, ground := .data }], guard := none }
@[reducible] def w1o4 (p : String) : Oper := { dst := some 21, op := .load 86 (.tmp 20), type := 86, pos := p, after := #[{ on := 3, ground := .data }], guard := none }
@[reducible] def w1o5 (p : String) : Oper := { dst := some 22, op := .load 195 (.tmp 3), type := 195, pos := p, after := #[], guard := none }
@[reducible] def w1o6 (p : String) : Oper := { dst := some 23, op := .buildSlice 86 1 #[(0, .tmp 22)], type := 86, pos := p, after := #[{ on := 5, ground := .data }], guard := none }
@[reducible] def w1o7 (p : String) : Oper := { dst := some 24, op := .call { callee := .builtin .append, args := #[.tmp 21, .tmp 23], argTypes := #[86, 86] }, type := 86, pos := p, after := #[{ on := 4, ground := .data }, { on := 6, ground := .data }], guard := none }
@[reducible] def w1o8 (p : String) : Oper := { dst := some 25, op := .nilCheck (.tmp 17), type := 0, pos := p, after := #[{ on := 0, ground := .data }, { on := 0, ground := .phase }, { on := 1, ground := .phase }, { on := 2, ground := .phase }, { on := 3, ground := .phase }, { on := 4, ground := .phase }, { on := 5, ground := .phase }, { on := 6, ground := .phase }, { on := 7, ground := .phase }], guard := none }
@[reducible] def w1o9 (p : String) : Oper := { dst := some 26, op := .fieldAddr 88 (.tmp 25) 3, type := 0, pos := p, after := #[{ on := 8, ground := .data }, { on := 0, ground := .phase }, { on := 1, ground := .phase }, { on := 2, ground := .phase }, { on := 3, ground := .phase }, { on := 4, ground := .phase }, { on := 5, ground := .phase }, { on := 6, ground := .phase }, { on := 7, ground := .phase }], guard := none }
@[reducible] def w1o10 (p : String) : Oper := { dst := none, op := .store 86 (.tmp 26) (.tmp 24), type := 0, pos := p, after := #[{ on := 9, ground := .data }, { on := 7, ground := .data }, { on := 7, ground := .chain }, { on := 0, ground := .phase }, { on := 1, ground := .phase }, { on := 2, ground := .phase }, { on := 3, ground := .phase }, { on := 4, ground := .phase }, { on := 5, ground := .phase }, { on := 6, ground := .phase }, { on := 7, ground := .phase }], guard := none }
@[reducible] def w1ops (p : String) : Array Oper := #[w1o0 p, w1o1 p, w1o2 p, w1o3 p, w1o4 p, w1o5 p, w1o6 p, w1o7 p, w1o8 p, w1o9 p, w1o10 p]

theorem infoWr : ∃ i z, Tryz.prog.info? 195 = some i ∧ i.zero = some z ∧ i.size = 65 ∧ i.bytes = 72 ∧ z.cells.size = 65 := by
  have h : ((Tryz.prog.info? 195).bind fun i => i.zero.map fun z => (i.size, i.bytes, z.cells.size)) = some (65, 72, 65) := by kernel_rfl
  cases hi : Tryz.prog.info? 195 with
  | none => rw [hi] at h; cases h
  | some i =>
    rw [hi] at h
    cases hz : i.zero with
    | none => simp [hz] at h
    | some z =>
      simp [hz] at h
      exact ⟨i, z, rfl, hz, h.1, h.2.1, h.2.2⟩

/-- What the region's loads read. -/
def W1S (pd : Addr) (bd bw : Nat) (cs : List Value) (w : World) : Prop := w.cell? pd = some (.pointer (some ⟨bd, 0, none⟩)) ∧ w.rangeAt bw 0 cs

section
variable (p : String) (bd bw : Nat) (pd : Addr) (cs : List Value) (wv : Value) (n : Nat) (xs : List Value) (Q : Exit → Act → World → Prop)

/-- Behind the append. -/
theorem w1_end (hQ : ∀ c a d v w, Q (.panic c) (Act.put a d v) w → Q (.panic c) a w) (t : List Value) (g' m' c' : Nat) (v18 v19 v20 v21 v22 v23 : Value) (ht : t.length = 17)
    (w : World) (hS : W1S pd bd bw cs w) (hc : w.cell? ⟨bd, 4, none⟩ = some wv) (hf : w.frozen? ⟨bd, 4, none⟩ = false) (nd : pd.block ≠ bd) (nw : bw ≠ bd)
    (hpost : ∀ a', a'.defers = [] → Q .normal a' (w.setCell ⟨bd, 4, none⟩ (.slice (some ⟨g', 0, none⟩) m' c'))) :
    wpAnyH Tryz.prog .any (w1ops p) Q (W1S pd bd bw cs) 3 #[true, true, true, true, true, true, true, true, false, false, false]
      { tmps := (t ++ [.pointer (some ⟨bd, 0, none⟩), v18, v19, v20, v21, v22, v23, .slice (some ⟨g', 0, none⟩) m' c', undef, undef]).toArray, defers := [] } w := by
  match t, ht with
  | [t0, t1, t2, t3, t4, t5, t6, t7, t8, t9, t10, t11, t12, t13, t14, t15, t16], _ =>
  refine wpAnyH_take (i := 8) (oi := w1o8 p) (v := .pointer (some ⟨bd, 0, none⟩)) rfl (by kernel_rfl) (by kernel_rfl) (by kernel_rfl) (fun _ _ _ h => hQ _ _ _ _ _ h) (Or.inl ⟨by rfl, ?_⟩) hS ?_
  · intro w _
    go_simp
  simp only [Act.put, List.setIfInBounds_toArray, List.set_cons_zero, List.set_cons_succ, List.cons_append, List.nil_append]
  refine wpAnyH_take (i := 9) (oi := w1o9 p) (v := .pointer (some ⟨bd, 4, none⟩)) rfl (by kernel_rfl) (by kernel_rfl) (by kernel_rfl) (fun _ _ _ h => hQ _ _ _ _ _ h) (Or.inl ⟨by rfl, ?_⟩) hS ?_
  · intro w _
    go_simp
  simp only [Act.put, List.setIfInBounds_toArray, List.set_cons_zero, List.set_cons_succ]
  refine wpAnyH_ready (rs := [10]) (by kernel_rfl) (by simp) ?_
  refine AllReadyH.cons (o := w1o10 p) rfl (fun K hK => ?_) AllReadyH.nil
  go_simp
  refine hK.out _ _ ⟨?_, ?_⟩ (fun hS' => ?_)
  · rw [World.cell?_setCell_far _ _ _ _ (fun e => nd e.symm)]
    exact hS.1
  · intro j v hv
    rw [World.cell?_setCell_far _ _ _ _ (fun e => nw e.symm)]
    exact hS.2 j v hv
  refine wpAnyH_done (by kernel_rfl) ?_ _
  exact hpost _ rfl

/-- The append. -/
theorem w1_append (hQ : ∀ c a d v w, Q (.panic c) (Act.put a d v) w → Q (.panic c) a w) (t : List Value) (v18 v19 v20 v22 : Value) (ht : t.length = 17)
    (w : World) (hS : W1S pd bd bw cs (w.alloc (.cells cs.toArray 195))) (row : Array Value) (rt : TypeId) (hb : w.heap[bd]? = some (.cells row rt (0, 0))) (hc : w.cell? ⟨bd, 4, none⟩ = some wv) (nd : pd.block ≠ bd) (nw : bw ≠ bd)
    (hown : w.ownsRow 0 195 65 wv n xs) (hl : cs.length = 65) (h1 : ∀ u ∈ cs, u.oneCell' = true) (hn : n ≤ 1000000)
    (o1 : wv.ownBlock ≠ some bd) (o2 : wv.ownBlock ≠ some bw) (o3 : wv.ownBlock ≠ some pd.block)
    (hpost : ∀ g' c' w', w'.ownsRow 0 195 65 (.slice (some ⟨g', 0, none⟩) (n + 1) c') (n + 1) (xs ++ cs) → (w.alloc (.cells cs.toArray 195)).grownBy w' wv.ownBlock → (some g' = wv.ownBlock ∨ g' = w.heap.size + 1) → ∀ a', a'.defers = [] → Q .normal a' (w'.setCell ⟨bd, 4, none⟩ (.slice (some ⟨g', 0, none⟩) (n + 1) c'))) :
    wpAnyH Tryz.prog .any (w1ops p) Q (W1S pd bd bw cs) 4 #[true, true, true, true, true, true, true, false, false, false, false]
      { tmps := (t ++ [.pointer (some ⟨bd, 0, none⟩), v18, v19, v20, wv, v22, .slice (some ⟨w.heap.size, 0, none⟩) 1 1, undef, undef, undef]).toArray, defers := [] } (w.alloc (.cells cs.toArray 195)) := by
  obtain ⟨i, z, hi, hz, hz1, hz2, hz3⟩ := infoWr
  have hlt : bd < w.heap.size := block_lt_of_cell hc
  obtain ⟨v', w', hr, h2, h3, h4, h5⟩ := run_append_own_at (P := Tryz.prog) (w.alloc (.cells cs.toArray 195)) 0 86 86 195 i z 65 72 Tryz.underlying86 hi hz hz1 hz2 hz3 (by decide) wv n xs (World.ownsRow.alloc hown _) ⟨w.heap.size, 0, none⟩ 1 1 cs (by omega)
    (fun j u hj => by
      have e : (⟨w.heap.size, 0, none⟩ : Addr).add j = ⟨w.heap.size, j, none⟩ := by simp [Addr.add]; omega
      rw [e, cell_of_row _ _ _ _ _ _ (heap_alloc_new w _)]
      simpa using hj) h1 (by unfold maxLen; omega) (by omega) (by simp)
  obtain ⟨g', c', rfl⟩ : ∃ g' c', v' = .slice (some ⟨g', 0, none⟩) (n + 1) c' := by
    obtain ⟨-, h | ⟨g', cap', cur', hv', -⟩⟩ := h2
    · omega
    · exact ⟨g', cap', hv'⟩
  have hbk : w'.heap[bd]? = w.heap[bd]? := by rw [h3.block bd (by simp; omega) (fun e => o1 e.symm), Below.heap_alloc _ _ _ hlt]
  have hc' : w'.cell? ⟨bd, 4, none⟩ = some wv := by
    have e : w'.cell? ⟨bd, 4, none⟩ = w.cell? ⟨bd, 4, none⟩ := by unfold World.cell?; rw [hbk]
    rw [e]; exact hc
  have hf' : w'.frozen? ⟨bd, 4, none⟩ = false := frozen_of_row w' bd 4 _ _ (hbk.trans hb)
  have far : ∀ q : Addr, q.block < w.heap.size + 1 → wv.ownBlock ≠ some q.block → w'.cell? q = (w.alloc (.cells cs.toArray 195)).cell? q := fun q hq ho => by
    unfold World.cell?
    rw [h3.block q.block (by simpa using hq) (fun e => ho e.symm)]
  have hS' : W1S pd bd bw cs w' := by
    refine ⟨?_, fun j v hv => ?_⟩
    · rw [far pd (by simpa using block_lt_of_cell hS.1) o3]; exact hS.1
    · rw [far ⟨bw, 0 + j, none⟩ (by simpa using block_lt_of_cell (hS.2 j v hv)) o2]; exact hS.2 j v hv
  refine wpAnyH_ready (rs := [7]) (by kernel_rfl) (by simp) ?_
  refine AllReadyH.cons (o := w1o7 p) rfl (fun K hK => ?_) AllReadyH.nil
  match t, ht with
  | [t0, t1, t2, t3, t4, t5, t6, t7, t8, t9, t10, t11, t12, t13, t14, t15, t16], hh =>
  rw [if_pos (by rfl)]
  unfold Oper.wp execOp
  simp only [resolve, invoke, builtin, Sem.run_bind, Sem.run_pure, Result.andThen_ok, List.map_toArray, List.map_cons, List.map_nil]
  show Oper.upon _ _ _ K Q ((Sem.run Tryz.prog (Builtin.append_ #[86, 86] 86 #[wv, .slice (some ⟨w.heap.size, 0, none⟩) 1 1]) _).andThen _)
  rw [hr]
  refine hK.out _ _ hS' (fun _ => ?_)
  refine w1_end p bd bw pd cs wv Q hQ [t0, t1, t2, t3, t4, t5, t6, t7, t8, t9, t10, t11, t12, t13, t14, t15, t16] g' (n + 1) c' v18 v19 v20 wv v22 _ rfl w' hS' hc' hf' nd nw (hpost g' c' w' h2 h3 ?_)
  rcases h5 with e | e
  · exact .inl e
  · exact .inr (by simpa [Value.ownBlock] using e)

set_option maxRecDepth 100000 in
/-- The region. -/
theorem w1_region (hQ : ∀ c a d v w, Q (.panic c) (Act.put a d v) w → Q (.panic c) a w) (id : Nat) (t0 t1 t4 t5 t6 t7 t8 t9 t10 t11 t12 t13 t14 t15 t16 : Value)
    (w : World) (hd : w.cell? pd = some (.pointer (some ⟨bd, 0, none⟩))) (hr : w.rangeAt bw 0 cs) (row : Array Value) (rt : TypeId) (hb : w.heap[bd]? = some (.cells row rt (0, 0))) (hc : w.cell? ⟨bd, 4, none⟩ = some wv) (nd : pd.block ≠ bd) (nw : bw ≠ bd)
    (hown : w.ownsRow 0 195 65 wv n xs) (hl : cs.length = 65) (h1 : ∀ u ∈ cs, u.oneCell' = true) (hn : n ≤ 1000000)
    (o1 : wv.ownBlock ≠ some bd) (o2 : wv.ownBlock ≠ some bw) (o3 : wv.ownBlock ≠ some pd.block) (hwv : ∃ a l c, wv = .slice a l c)
    (hpost : ∀ g' c' w', w'.ownsRow 0 195 65 (.slice (some ⟨g', 0, none⟩) (n + 1) c') (n + 1) (xs ++ cs) → (w.drew.alloc (.cells cs.toArray 195)).grownBy w' wv.ownBlock → (some g' = wv.ownBlock ∨ g' = w.heap.size + 1) → ∀ a', a'.defers = [] → Q .normal a' (w'.setCell ⟨bd, 4, none⟩ (.slice (some ⟨g', 0, none⟩) (n + 1) c'))) :
    (Code.region id (w1ops p) true).wp Tryz.prog Q
      { tmps := #[t0, t1, .pointer (some pd), .pointer (some ⟨bw, 0, none⟩), t4, t5, t6, t7, t8, t9, t10, t11, t12, t13, t14, t15, t16, undef, undef, undef, undef, undef, undef, undef, undef, undef, undef], defers := [] } w := by
  have hS0 : W1S pd bd bw cs w.drew := ⟨by rw [World.cell?_drew]; exact hd, by rw [World.rangeAt_drew]; exact hr⟩
  have hSa : W1S pd bd bw cs (w.drew.alloc (.cells cs.toArray 195)) := by
    refine ⟨?_, fun j v hv => ?_⟩
    · rw [World.cell?_alloc_some _ _ _ (by rw [hS0.1]; rfl)]; exact hS0.1
    · rw [World.cell?_alloc_some _ _ _ (by rw [hS0.2 j v hv]; rfl)]; exact hS0.2 j v hv
  have hi : (Tryz.prog.info? 195).map (·.size) = some cs.length := by rw [hl]; kernel_rfl
  refine wp_region_held_drew (S := W1S pd bd bw cs) (by kernel_rfl) hS0 (fun _ => ?_)
  have e0 : Array.replicate (w1ops p).size false = #[false, false, false, false, false, false, false, false, false, false, false] := by rfl
  have e1 : (w1ops p).size = 11 := rfl
  rw [e0, e1]
  refine wpAnyH_take (i := 5) (oi := w1o5 p) (v := .agg cs.toArray) rfl (by kernel_rfl) (by kernel_rfl) (by kernel_rfl) (fun _ _ _ h => hQ _ _ _ _ _ h) (yieldsIf_load_mid (by rfl) _ _ rfl bw 0 rfl cs _ (fun w h => h.2) Tryz.underlying195 rfl hi) hS0 ?_
  simp only [Act.put, List.setIfInBounds_toArray, List.set_cons_zero, List.set_cons_succ]
  refine wpAnyH_take (i := 0) (oi := w1o0 p) (v := .pointer (some ⟨bd, 0, none⟩)) rfl (by kernel_rfl) (by kernel_rfl) (by kernel_rfl) (fun _ _ _ h => hQ _ _ _ _ _ h) (Or.inl ⟨by rfl, ?_⟩) hS0 ?_
  · intro w hw
    have hw := hw.1
    go_simp
  simp only [Act.put, List.setIfInBounds_toArray, List.set_cons_zero, List.set_cons_succ]
  refine wpAnyH_take (i := 1) (oi := w1o1 p) (v := .pointer (some ⟨bd, 0, none⟩)) rfl (by kernel_rfl) (by kernel_rfl) (by kernel_rfl) (fun _ _ _ h => hQ _ _ _ _ _ h) (Or.inl ⟨by rfl, ?_⟩) hS0 ?_
  · intro w hw
    have hw := hw.1
    go_simp
  simp only [Act.put, List.setIfInBounds_toArray, List.set_cons_zero, List.set_cons_succ]
  refine wpAnyH_take (i := 2) (oi := w1o2 p) (v := .pointer (some ⟨bd, 0, none⟩)) rfl (by kernel_rfl) (by kernel_rfl) (by kernel_rfl) (fun _ _ _ h => hQ _ _ _ _ _ h) (Or.inl ⟨by rfl, ?_⟩) hS0 ?_
  · intro w _
    go_simp
  simp only [Act.put, List.setIfInBounds_toArray, List.set_cons_zero, List.set_cons_succ]
  refine wpAnyH_take (i := 3) (oi := w1o3 p) (v := .pointer (some ⟨bd, 4, none⟩)) rfl (by kernel_rfl) (by kernel_rfl) (by kernel_rfl) (fun _ _ _ h => hQ _ _ _ _ _ h) (Or.inl ⟨by rfl, ?_⟩) hS0 ?_
  · intro w _
    go_simp
  simp only [Act.put, List.setIfInBounds_toArray, List.set_cons_zero, List.set_cons_succ]
  have key := w1_append p bd bw pd cs wv n xs Q hQ [t0, t1, .pointer (some pd), .pointer (some ⟨bw, 0, none⟩), t4, t5, t6, t7, t8, t9, t10, t11, t12, t13, t14, t15, t16] (.pointer (some ⟨bd, 0, none⟩)) (.pointer (some ⟨bd, 0, none⟩)) (.pointer (some ⟨bd, 4, none⟩)) (.agg cs.toArray) rfl w.drew hSa row rt hb (by rw [World.cell?_drew]; exact hc) nd nw hown hl h1 hn o1 o2 o3 hpost
  obtain ⟨i, z, hi, hz, hz1, hz2, hz3⟩ := infoWr
  have hfill : Instr.fill (fun j => some (j * i.size, i.size)) ((Array.range (1 * i.size)).map (z.cells[· % z.cells.size]!)) [(0, Value.agg cs.toArray)] = some cs.toArray := by
    have h := Great.fill_whole (s := i.size) (by omega) [Value.agg cs.toArray] ((Array.range (1 * i.size)).map (z.cells[· % z.cells.size]!)) (by intro v hv; rw [List.mem_singleton.1 hv]; show cs.toArray.size = _; simp; omega) (by simp)
    simpa [Value.cells] using h
  have hparts : ∀ a : Act, a.eval (.tmp 22) = .agg cs.toArray → Instr.fill (fun j => some (j * i.size, i.size)) ((Array.range (1 * i.size)).map (z.cells[· % z.cells.size]!)) ((#[((0 : Nat), Operand.tmp 22)] : Array (Nat × Operand)).map fun (i, x) => (i, a.eval x)).toList = some cs.toArray := fun a ha => by
    simp only [List.map_toArray, List.map_cons, List.map_nil, ha]
    exact hfill
  simp only [List.cons_append, List.nil_append] at key
  refine wpAnyH_ready (rs := [4, 6]) (by kernel_rfl) (by simp) ?_
  refine AllReadyH.cons (o := w1o4 p) rfl (fun K hK => ?_) (AllReadyH.cons (o := w1o6 p) rfl (fun K hK => ?_) AllReadyH.nil)
  · have hcd : w.drew.cell? ⟨bd, 4, none⟩ = some wv := by rw [World.cell?_drew]; exact hc
    obtain ⟨a, l, c, rfl⟩ := hwv
    go_simp
    refine hK.out _ _ hS0 (fun _ => ?_)
    refine wpAnyH_ready (rs := [6]) (by kernel_rfl) (by simp) ?_
    refine AllReadyH.cons (o := w1o6 p) rfl (fun K hK => ?_) AllReadyH.nil
    rw [if_pos (by rfl)]
    refine wp_buildSlice 86 195 1 _ rfl cs.toArray i z Tryz.underlying86 hi hz (by omega) (by omega) (hparts _ rfl) ?_
    refine hK.out _ _ hSa (fun _ => ?_)
    simp only [Act.put, List.setIfInBounds_toArray, List.set_cons_zero, List.set_cons_succ]
    exact key
  · rw [if_pos (by rfl)]
    refine wp_buildSlice 86 195 1 _ rfl cs.toArray i z Tryz.underlying86 hi hz (by omega) (by omega) (hparts _ rfl) ?_
    refine hK.out _ _ hSa (fun _ => ?_)
    refine wpAnyH_ready (rs := [4]) (by kernel_rfl) (by simp) ?_
    refine AllReadyH.cons (o := w1o4 p) rfl (fun K hK => ?_) AllReadyH.nil
    have hcd : (w.drew.alloc (.cells cs.toArray 195)).cell? ⟨bd, 4, none⟩ = some wv := by rw [World.cell?_alloc_some _ _ _ (by rw [World.cell?_drew, hc]; rfl), World.cell?_drew]; exact hc
    obtain ⟨wa, hwa⟩ : ∃ wa, w.drew.alloc (.cells cs.toArray 195) = wa := ⟨_, rfl⟩
    rw [hwa] at hcd hSa key ⊢
    clear hpost
    obtain ⟨a, l, c, rfl⟩ := hwv
    clear hwa
    go_simp
    refine hK.out _ _ hSa (fun _ => ?_)
    simp only [List.setIfInBounds_toArray, List.set_cons_zero, List.set_cons_succ]
    exact key
end
end Go.Proofs.YtapijhhmjjplmaaGreatDoor
namespace Go.Proofs.YtapijhhmjjplmaaGreatDoor
open Go.RowKit Go.Maps

/-- A write that is not filled yet. -/
def wr0 (k : Nat) : Array Value := (Value.int .i64 (k : Int) :: List.replicate 64 (Value.int .u8 0)).toArray
/-- A write. -/
def wrE (k : Nat) (s : ByteArray) : Array Value := (Value.int .i64 (k : Int) :: bcells s.data.toList).toArray
theorem wr0_size (k : Nat) : (wr0 k).size = 65 := by simp [wr0]
theorem wr0_one (k : Nat) : (wr0 k).all (·.oneCell') = true := by
  rw [Array.all_eq_true_iff_forall_mem]
  intro v hv
  unfold wr0 at hv
  rcases List.mem_cons.1 (by simpa using hv : v ∈ Value.int .i64 (k : Int) :: List.replicate 64 (Value.int .u8 0)) with rfl | hv
  · rfl
  · rw [List.eq_of_mem_replicate hv]; rfl

set_option maxRecDepth 100000 in
set_option maxHeartbeats 1000000 in
theorem write1 (bd gs bm m : Nat) (S : Nat → Prop) (wv : Value) (d : Dsk) (pa ps pd : Addr) (k : Nat) (s : ByteArray) (w : World) (h : DskV w S 1 bd gs bm m wv d)
    (ha : w.cell? pa = some (.int .i64 (k : Int))) (hs : w.cell? ps = some (.string s)) (hd : w.cell? pd = some (.pointer (some ⟨bd, 0, none⟩))) (na : ¬ S pa.block) (nd : ¬ S pd.block)
    (hk : k < d.safe.length) (hs64 : s.size = 64) (hwl : d.wait.length ≤ 1000000) (hm : m ≤ 1000000) (hn : d.safe.length ≤ 4096) :
    Calls Tryz.prog 215 #[.pointer (some pa), .pointer (some ps), .pointer (some pd)] w fun e w' => e = .returned (.tuple #[]) ∧ (∃ gs' bm' wv', DskV w' (fun g => S g ∨ w.heap.size ≤ g) 1 bd gs' bm' (m + 1) wv' { d with wait := d.wait ++ [(k, s)] }) ∧ Same S w w' := by
  obtain ⟨C, hC⟩ : ∃ C, C = bcells s.data.toList := ⟨_, rfl⟩
  have hsl : s.data.toList.length = 64 := by rw [Array.length_toList]; exact hs64
  have hCl : C.length = 64 := by rw [hC, bcells_length]; exact hsl
  have HI0 : Hid ((Tryz.prog.info? 195).map (·.size) = some (wr0 k).size) := by show _ = _; rw [wr0_size]; kernel_rfl
  have HZ0 : Hid (∀ Z : Array Value, Z.size = 65 → Z.size = (wr0 k).size) := fun Z hz => hz.trans (wr0_size k).symm
  have HO0 : Hid ((wr0 k).all (·.oneCell') = true) := wr0_one k
  have HV : Hid (DskV w S 1 bd gs bm m wv d) := h
  have HA : Hid (w.cell? pa = some (.int .i64 (k : Int))) := ha
  have HSS : Hid (w.cell? ps = some (.string s)) := hs
  have HDD : Hid (w.cell? pd = some (.pointer (some ⟨bd, 0, none⟩))) := hd
  have HC : Hid (C = bcells s.data.toList) := hC
  have HCS : Hid (C = bcells (s.data.toList.take 64)) := by show _ = _; rw [List.take_of_length_le (by omega)]; exact hC
  have HIU : Hid ((Tryz.prog.info? 5).map (·.size) = some 1) := by show _ = _; kernel_rfl
  have HFIT : Hid (1 + C.length ≤ (wr0 k).size) := by show _ ≤ _; rw [wr0_size, hCl]; omega
  have HRR : Hid (((wr0 k).toList.take 1 ++ C ++ (wr0 k).toList.drop (1 + C.length)).toArray = wrE k s) := by
    show _ = _
    have e : (wr0 k).toList.drop (1 + C.length) = [] := List.drop_eq_nil_of_le (by rw [Array.length_toList, wr0_size, hCl]; omega)
    rw [e, List.append_nil, hC]
    rfl
  have HNN : Hid ((C.length : Int) = 64) := by show _ = _; rw [hCl]; rfl
  clear h hs hd hC
  go_enter Tryz.func215, Tryz.ntmps215
  go_wp2_with (refine wpList_store_rowA rfl 195 _ _ rfl w.heap.size (wr0 k) rfl rfl 195 _ (heap_alloc_new w _) HI0.out (HZ0.out _ rfl) HO0.out ?_; intro w1 hw1)
  have HB1 : Hid (Below w.heap.size w w1) := by rw [hw1.out]; exact below_row
  have hz1 : w1.heap.size = w.heap.size + 1 := by rw [hw1.out]; simp
  have HROW : Hid (w1.heap[w.heap.size]? = some (.cells (wr0 k) 195 (0, 0))) := by rw [hw1.out]; exact setRow_heap _ _ _ _ _ _ (heap_alloc_new w _)
  have cs1 : w1.cell? ps = some (.string s) := by rw [HB1.out.cell (block_lt_of_cell HSS.out)]; exact HSS.out
  clear hw1 ha
  go_frame
  go_region_law (refine step_copy_str rfl (.tmp 7) (.tmp 8) 134 9 rfl 5 Tryz.underlying134 HIU.out w.heap.size 1 64 64 s (by simp [Act.eval]) (by simp [Act.eval]) (wr0 k) 195 HROW.out C HCS.out HFIT.out (wrE k s) HRR.out 64 HNN.out ?_)
  obtain ⟨w2, hw2⟩ : ∃ w2, w2 = w1.drew.setRow w.heap.size (wrE k s) := ⟨_, rfl⟩
  rw [← hw2]
  have HB2 : Hid (Below w.heap.size w w2) := by rw [hw2]; exact below_setRow HB1.out.drew (Nat.le_refl _) _
  have hz2 : w2.heap.size = w.heap.size + 1 := by rw [hw2]; simpa using hz1
  have HROW2 : Hid (w2.heap[w.heap.size]? = some (.cells (wrE k s) 195 (0, 0))) := by rw [hw2]; exact setRow_heap _ _ _ _ _ _ HROW.out
  have hV2 := HV.out.keep HB2.out
  have cpd : w2.cell? pd = some (.pointer (some ⟨bd, 0, none⟩)) := by rw [HB2.out.cell (block_lt_of_cell HDD.out)]; exact HDD.out
  have cpa : w2.cell? pa = some (.int .i64 (k : Int)) := by rw [HB2.out.cell (block_lt_of_cell HA.out)]; exact HA.out
  have cb3 : w2.cell? ⟨bd, 3, none⟩ = some (.map (some bm)) := cell_of_row _ _ _ _ _ _ hV2.blk
  have rg2 : w2.rangeAt w.heap.size 1 C := by
    intro j v hv
    rw [cell_of_row _ _ _ _ _ _ HROW2.out]
    unfold wrE
    simp only [List.getElem?_toArray]
    rw [Nat.add_comm 1 j, List.getElem?_cons_succ, ← HC.out]
    exact hv
  have hu199 : Tryz.prog.underlying 193 = some (.array 64 5) := Tryz.underlying193
  have hi199 : (Tryz.prog.info? 193).map (·.size) = some C.length := by rw [hCl]; kernel_rfl
  have h1C : ∀ v ∈ C, v.oneCell' = true := by rw [HC.out]; exact bcells_one _
  have hmap : w2.drew.ownsMap Tryz.prog 3 heldR bm m (mapD d.wait) := ownsMap_heap hV2.rest.map rfl
  obtain ⟨w3, hup, hm3, hg3⟩ := hmap.update intKey Tryz.underlying78 (by unfold maxLen; omega) (keyOf_int_mk Tryz.underlying3 (key_wf k (by omega))) (show heldR (.agg C.toArray) = some (.held (.agg C.toArray), []) from rfl)
  have hs3 : Same (· = bm) w2.drew w3 := ⟨hg3.os, hg3.tape, hg3.output, hg3.size, fun j hj hn => hg3.block j hj (fun e => hn (Option.some.inj e))⟩
  have nm : ∀ p : Addr, ¬ S p.block → p.block ≠ bm := fun p hp e => hp (by rw [e]; exact HV.out.rest.sm)
  have cpd3 : w3.cell? pd = some (.pointer (some ⟨bd, 0, none⟩)) := hs3.cell (nm pd nd) (by rw [World.cell?_drew]; exact cpd)
  have cpa3 : w3.cell? pa = some (.int .i64 (k : Int)) := hs3.cell (nm pa na) (by rw [World.cell?_drew]; exact cpa)
  have hbb3 := (hs3.block bd (lt_of_heap' hV2.blk) HV.out.rest.n2).trans hV2.blk
  have cb33 : w3.cell? ⟨bd, 3, none⟩ = some (.map (some bm)) := cell_of_row _ _ _ _ _ _ hbb3
  have hnbm : w.heap.size ≠ bm := fun e => by have := ownsMap_lt HV.out.rest.map; omega
  have hrow3 := (hs3.block w.heap.size (by show w.heap.size < w2.heap.size; omega) hnbm).trans HROW2.out
  have rg3 : w3.rangeAt w.heap.size 1 C := by
    intro j v hv
    rw [cell_of_row _ _ _ _ _ _ hrow3, ← cell_of_row _ _ _ _ _ _ HROW2.out]
    exact rg2 j v hv
  have HV2' : Hid (DskV w2 S 1 bd gs bm m wv d) := hV2
  have HM3 : Hid (w3.ownsMap Tryz.prog 3 heldR bm (m + 1) ((mapD d.wait).put (.int .i64 (k : Int)) (.held (.agg C.toArray)))) := hm3
  have HS3 : Hid (Same (· = bm) w2.drew w3) := hs3
  have HROW3 : Hid (w3.heap[w.heap.size]? = some (.cells (wrE k s) 195 (0, 0))) := hrow3
  have HBB3 : Hid (w3.heap[bd]? = some (.cells (dskRow 1 gs d.safe.length bm wv d.fuse d.down) 88 (0, 0))) := hbb3
  clear hV2 hm3 hg3 hs3 hrow3 hbb3 hmap hw2 HROW HROW2 nm
  go_wp2
  go_region_held3 (fun w' => w'.cell? pd = some (.pointer (some ⟨bd, 0, none⟩)) ∧ w'.cell? pa = some (.int .i64 (k : Int)) ∧ w'.cell? ⟨bd, 3, none⟩ = some (.map (some bm)) ∧ w'.rangeAt w.heap.size 1 C) ((go_split_ands; ((repeat' constructor) <;> first | assumption | (rw [World.cell?_drew]; assumption) | (rw [World.rangeAt_drew]; assumption)))) (fail)
  go_wp2
  have hV := HV2'.out
  have hold := HV.out
  have hz3 : w2.heap.size ≤ w3.heap.size := HS3.out.size
  have hb3 : bd < w3.heap.size := lt_of_heap' HBB3.out
  have hbm3 : bm < w3.heap.size := ownsMap_lt HM3.out
  have hd1 := hold.rest.d1
  have hown3 : w3.ownsRow 0 195 65 wv d.wait.length (wrs d.wait) := own_heap hV.rest.wait.1 (fun g hg => HS3.out.block g (hV.rest.wait.lt hg) (hd1 g hg).2.2)
  refine w1_region _ bd w.heap.size pd (.int .i64 (k : Int) :: C) wv d.wait.length (wrs d.wait) _ (fun _ _ d _ _ h => by cases d <;> exact h) _ _ _ _ _ _ _ _ _ _ _ _ _ _ _ _ w3 cpd3 ?_ _ _ HBB3.out (cell_of_row _ _ _ _ _ _ HBB3.out) (fun e => nd (by rw [e]; exact hold.rest.sb)) (fun e => by have := lt_of_heap' hold.blk; omega) hown3 (by simp [hCl]) ?_ hwl (fun e => (hd1 bd e).1 rfl) (fun e => by have := hold.rest.wait.lt e; omega) (fun e => nd (hold.rest.wait.2 _ e)) ?_ ?_
  · intro j v hv
    rw [cell_of_row _ _ _ _ _ _ HROW3.out]
    unfold wrE
    rw [← HC.out]
    simpa using hv
  · intro u hu
    rcases List.mem_cons.1 hu with rfl | hu
    · rfl
    · exact h1C u hu
  · obtain ⟨-, ⟨h, -⟩ | ⟨g, c, cur, h, -⟩⟩ := hown3
    · exact ⟨_, _, _, h⟩
    · exact ⟨_, _, _, h⟩
  intro g' c' w' h2 h3 h5 a' ha
  have hzw : w3.heap.size + 1 ≤ w'.heap.size := by have := h3.size; simpa using this
  have hkeep : ∀ g, g < w3.heap.size → wv.ownBlock ≠ some g → w'.heap[g]? = w3.heap[g]? := fun g hg ho => by
    rw [h3.block g (by simp; omega) (fun e => ho e.symm), Below.heap_alloc _ _ _ (by simpa using hg)]
    rfl
  have hbe : w'.heap[bd]? = some (.cells (dskRow 1 gs d.safe.length bm wv d.fuse d.down) 88 (0, 0)) := (hkeep bd hb3 (fun e => (hd1 bd e).1 rfl)).trans HBB3.out
  have hnew : ∀ g, g < w3.heap.size → wv.ownBlock ≠ some g → g' ≠ g := fun g hg ho e => by
    rcases h5 with h | h
    · exact ho (by rw [← h, e])
    · omega
  have hgs3 : gs < w3.heap.size := by have := lt_of_heap' hV.rest.sec; omega
  refine ⟨ha, .tuple #[], by simp [results, Tryz.f215], rfl, ⟨gs, bm, .slice (some ⟨g', 0, none⟩) (d.wait.length + 1) c', ?_, ?_⟩, ?_⟩
  · rw [heap_setCell_same w' bd 4 _ _ _ hbe]
    rfl
  · refine ⟨?_, ?_, ⟨?_, ?_⟩, .inl hold.rest.sb, .inl hold.rest.ss, .inl hold.rest.sm, hold.rest.n1, hold.rest.n2, hold.rest.n3, ?_, hold.rest.v1, ?_⟩
    · rw [heap_setCell_other _ _ _ _ (fun e => hold.rest.n1 e.symm), hkeep gs hgs3 (fun e => (hd1 gs e).2.1 rfl), HS3.out.block gs (lt_of_heap' hV.rest.sec) hold.rest.n3]
      exact hV.rest.sec
    · have hm := HM3.out
      rw [HC.out] at hm
      have e : mapD (d.wait ++ [(k, s)]) = (mapD d.wait).put (.int .i64 (k : Int)) (.held (.agg (bcells s.data.toList).toArray)) := mapD_snoc _ _ _
      show World.ownsMap _ _ _ _ _ _ (mapD (d.wait ++ [(k, s)]))
      rw [e]
      exact ownsMap_heap hm (by rw [heap_setCell_other _ _ _ _ (fun e => hold.rest.n2 e.symm), hkeep bm hbm3 (fun e => (hd1 bm e).2.2 rfl)])
    · have e : wrs (d.wait ++ [(k, s)]) = wrs d.wait ++ (.int .i64 (k : Int) :: C) := by rw [HC.out]; simp [wrs]
      have e2 : (d.wait ++ [(k, s)]).length = d.wait.length + 1 := by simp
      show World.ownsRow _ _ _ _ _ (List.length (d.wait ++ [(k, s)])) (wrs (d.wait ++ [(k, s)]))
      rw [e, e2]
      refine own_heap h2 (fun g hg => ?_)
      cases hg
      rw [heap_setCell_other _ _ _ _ (hnew bd hb3 (fun e => (hd1 bd e).1 rfl))]
    · intro g hg
      cases hg
      rcases h5 with h | h
      · exact .inl (hold.rest.wait.2 _ h.symm)
      · exact .inr (by show w.heap.size ≤ g'; omega)
    · intro g hg
      cases hg
      exact ⟨hnew bd hb3 (fun e => (hd1 bd e).1 rfl), hnew gs hgs3 (fun e => (hd1 gs e).2.1 rfl), hnew bm hbm3 (fun e => (hd1 bm e).2.2 rfl)⟩
    · intro x hx
      rcases List.mem_append.1 hx with hx | hx
      · exact hold.rest.v2 x hx
      · cases List.mem_singleton.1 hx
        exact ⟨hk, hs64⟩
  · have s1 : Same S w w2 := below_same S HB2.out
    have s2 : Same S w2 w3 := ⟨HS3.out.os, HS3.out.tape, HS3.out.output, HS3.out.size, fun g hg hn => HS3.out.block g hg (by rintro rfl; exact hn hold.rest.sm)⟩
    refine s1.trans (s2.trans ⟨?_, ?_, ?_, ?_, fun g hg hn => ?_⟩)
    · rw [show (w'.setCell _ _).os = w'.os from rfl, h3.os]; rfl
    · rw [show (w'.setCell _ _).tape = w'.tape from rfl, h3.tape]; rfl
    · rw [show (w'.setCell _ _).output = w'.output from rfl, h3.output]; rfl
    · simp; omega
    · rw [heap_setCell_other _ _ _ _ (by rintro rfl; exact hn hold.rest.sb), hkeep g hg (fun e => hn (hold.rest.wait.2 g e))]
end Go.Proofs.YtapijhhmjjplmaaGreatDoor
namespace Go.Proofs.YtapijhhmjjplmaaGreatDoor
open Go.RowKit Go.Maps

/-- What a write leaves. -/
def Dsk.write (d : Dsk) (k : Nat) (s : ByteArray) : Dsk := if d.op.down then d.op else { d.op with wait := d.op.wait ++ [(k, s)] }
/-- The three variables of Write lie in boxes. -/
def boxW (w : World) (bd : Nat) (at_ : Int) (s : ByteArray) : World := ((w.alloc (.cells #[.pointer (some ⟨bd, 0, none⟩)] 30)).alloc (.cells #[.int .i64 at_] 3)).alloc (.cells #[.string s] 9)
theorem boxW_same (S : Nat → Prop) (w : World) (bd : Nat) (at_ : Int) (s : ByteArray) : Same S w (boxW w bd at_ s) := ((Same.alloc0 w _).alloc _).alloc _
theorem boxW_size (w : World) (bd : Nat) (at_ : Int) (s : ByteArray) : (boxW w bd at_ s).heap.size = w.heap.size + 3 := by simp [boxW]
theorem boxW_d (w : World) (bd : Nat) (at_ : Int) (s : ByteArray) : (boxW w bd at_ s).cell? ⟨w.heap.size, 0, none⟩ = some (.pointer (some ⟨bd, 0, none⟩)) := by
  have h : (boxW w bd at_ s).heap[w.heap.size]? = some (.cells #[.pointer (some ⟨bd, 0, none⟩)] 30 (0, 0)) := by
    unfold boxW
    rw [Below.heap_alloc _ _ _ (by simp; omega), Below.heap_alloc _ _ _ (by simp)]
    exact heap_alloc_new w _
  rw [cell_of_row _ _ _ _ _ _ h]
  rfl
theorem boxW_a (w : World) (bd : Nat) (at_ : Int) (s : ByteArray) : (boxW w bd at_ s).cell? ⟨w.heap.size + 1, 0, none⟩ = some (.int .i64 at_) := by
  have h : (boxW w bd at_ s).heap[w.heap.size + 1]? = some (.cells #[.int .i64 at_] 3 (0, 0)) := by
    unfold boxW
    rw [Below.heap_alloc _ _ _ (by simp)]
    have h := heap_alloc_new (w.alloc (.cells #[.pointer (some ⟨bd, 0, none⟩)] 30)) (.cells #[.int .i64 at_] 3)
    simpa using h
  rw [cell_of_row _ _ _ _ _ _ h]
  rfl
theorem boxW_s (w : World) (bd : Nat) (at_ : Int) (s : ByteArray) : (boxW w bd at_ s).cell? ⟨w.heap.size + 2, 0, none⟩ = some (.string s) := by
  have h : (boxW w bd at_ s).heap[w.heap.size + 2]? = some (.cells #[.string s] 9 (0, 0)) := by
    unfold boxW
    have h := heap_alloc_new ((w.alloc (.cells #[.pointer (some ⟨bd, 0, none⟩)] 30)).alloc (.cells #[.int .i64 at_] 3)) (.cells #[.string s] 9)
    simpa using h
  rw [cell_of_row _ _ _ _ _ _ h]
  rfl

set_option maxRecDepth 100000 in
theorem dsk_write_bad (bd m : Nat) (S : Nat → Prop) (d : Dsk) (at_ : Int) (s : ByteArray) (ev : Value) (w : World) (h : DskAt w S bd m d) (hE : w.cell? ⟨0, 0, none⟩ = some ev) (hbad : ¬ (0 ≤ at_ ∧ at_ < d.safe.length ∧ s.size = 64)) :
    Calls Tryz.prog 140 #[.pointer (some ⟨bd, 0, none⟩), .int .i64 at_, .string s] w fun e w' => e = .returned ev ∧ DskAt w' S bd m d ∧ Same S w w' := by
  have hnot : ∀ (x : Bool) (w : World), (Op.unary .not (.bool x)).run Tryz.prog w = .ok (.bool (!x)) w := fun _ _ => rfl
  have h1 : DskAt (boxW w bd at_ s) S bd m d := h.on (boxW_same (fun _ => False) w bd at_ s) (fun _ _ h => h)
  have hE1 : (boxW w bd at_ s).cell? ⟨0, 0, none⟩ = some ev := (boxW_same (fun _ => False) w bd at_ s).cell (fun h => h) hE
  have HH : Hid (DskAt (boxW w bd at_ s) S bd m d ∧ Same S w (boxW w bd at_ s)) := ⟨h1, boxW_same S w bd at_ s⟩
  have HC := dsk_has bd m S d at_ _ h1
  have HHAS : Hid (Calls Tryz.prog 179 #[.pointer (some ⟨bd, 0, none⟩), .int .i64 at_] (boxW w bd at_ s) fun e w' => e = .returned (.bool (decide (0 ≤ at_) && decide (at_ < d.safe.length))) ∧ boxW w bd at_ s = w') := HC
  obtain ⟨b, hb⟩ : ∃ b, b = (decide (0 ≤ at_) && decide (at_ < d.safe.length)) := ⟨_, rfl⟩
  rw [← hb] at HHAS
  have h2 : b = true → ((s.size : Int) != 64) = true := fun e => by
    rw [bne_iff_ne]
    intro e2
    rw [e] at hb
    have hb := hb.symm
    rw [Bool.and_eq_true, decide_eq_true_iff, decide_eq_true_iff] at hb
    exact hbad ⟨hb.1, hb.2, by omega⟩
  have cd := boxW_d w bd at_ s
  have ca := boxW_a w bd at_ s
  have cs := boxW_s w bd at_ s
  unfold boxW at HHAS cd ca cs hE1 HH
  clear h h1 hE HC hb hbad
  cases b
  · clear h2
    go_enter Tryz.func140, Tryz.ntmps140
    go_wp2_with (go_at_call 179; refine HHAS.out.mono ?_; rintro e w' ⟨rfl, rfl⟩)
    go_ret
    exact ⟨rfl, HH.out.1, HH.out.2⟩
  · have h2 := h2 rfl
    go_enter Tryz.func140, Tryz.ntmps140
    go_wp2_with (go_at_call 179; refine HHAS.out.mono ?_; rintro e w' ⟨rfl, rfl⟩)
    go_ret
    exact ⟨rfl, HH.out.1, HH.out.2⟩

set_option maxRecDepth 100000 in
theorem dsk_write (bd m : Nat) (S : Nat → Prop) (d : Dsk) (k : Nat) (s : ByteArray) (ev : Value) (w : World) (h : DskAt w S bd m d) (hE : w.cell? ⟨1, 0, none⟩ = some ev) (hG : ¬ S 1) (hf : d.fuse ≤ 9223372036854775807)
    (hk : k < d.safe.length) (hs : s.size = 64) (hwl : d.wait.length ≤ 1000000) (hm : m ≤ 1000000) (hn : d.safe.length ≤ 4096) (hSl : ∀ g, S g → g < w.heap.size) :
    Calls Tryz.prog 140 #[.pointer (some ⟨bd, 0, none⟩), .int .i64 (k : Int), .string s] w fun e w' => e = .returned (if d.op.down then ev else .nilIface) ∧ (∃ m', m' ≤ m + 1 ∧ DskAt w' (fun g => S g ∨ w.heap.size ≤ g) bd m' (d.write k s)) ∧ Same S w w' := by
  have hmf : ∀ (fn : Fn) (first cap : Array Value) (w : World), (Instr.makeFunc fn first cap).run Tryz.prog w = .ok (.func fn first cap) w := fun _ _ _ _ => rfl
  have hnot : ∀ (x : Bool) (w : World), (Op.unary .not (.bool x)).run Tryz.prog w = .ok (.bool (!x)) w := fun _ _ => rfl
  have hs1 : Same (fun _ => False) w (boxW w bd k s) := boxW_same _ w bd k s
  have h1 : DskAt (boxW w bd k s) S bd m d := h.on hs1 (fun _ _ h => h)
  have hE1 : (boxW w bd k s).cell? ⟨1, 0, none⟩ = some ev := hs1.cell (fun h => h) hE
  have hSb : S bd := by obtain ⟨_, _, _, h⟩ := h; exact h.rest.sb
  have hbl := hSl bd hSb
  have HC := dsk_has bd m S d k _ h1
  rw [decide_eq_true (show (0 : Int) ≤ k by omega), decide_eq_true (show (k : Int) < d.safe.length by omega)] at HC
  have HHAS : Hid (Calls Tryz.prog 179 #[.pointer (some ⟨bd, 0, none⟩), .int .i64 (k : Int)] (boxW w bd k s) fun e w' => e = .returned (.bool true) ∧ boxW w bd k s = w') := HC
  have cd := boxW_d w bd k s
  have ca := boxW_a w bd k s
  have cs := boxW_s w bd k s
  have hz := boxW_size w bd k s
  have HO : Hid (Calls Tryz.prog 214 #[.pointer (some ⟨bd, 0, none⟩), .func (.func 215) #[] #[.pointer (some ⟨w.heap.size + 1, 0, none⟩), .pointer (some ⟨w.heap.size + 2, 0, none⟩), .pointer (some ⟨w.heap.size, 0, none⟩)]] (boxW w bd k s) fun e w' => e = .returned (if d.op.down then ev else .nilIface) ∧ Hid (∃ m', m' ≤ m + 1 ∧ DskAt w' (fun g => S g ∨ w.heap.size ≤ g) bd m' (d.write k s)) ∧ Hid (Same S w w')) := by
    cases hd : d.op.down
    · have hfl : d.write k s = { d.op with wait := d.op.wait ++ [(k, s)] } := by unfold Dsk.write; rw [hd]; rfl
      rw [hfl]
      refine (operate_write bd m (m + 1) S (fun g => S g ∨ w.heap.size ≤ g) (fun g => S g ∨ w.heap.size ≤ g) d { d.op with wait := d.op.wait ++ [(k, s)] } _ _ h1 hd hf (fun _ h => .inl h) (fun _ h => h) (fun w2 gs bm wv hv hs2 => ?_)).mono ?_
      · have hne : ∀ j, ¬ S (w.heap.size + j) := fun j h => by have := hSl _ h; omega
        have hp : w2.cell? ⟨w.heap.size, 0, none⟩ = some (.pointer (some ⟨bd, 0, none⟩)) := hs2.cell (by show ¬ w.heap.size = bd; omega) cd
        have hpa : w2.cell? ⟨w.heap.size + 1, 0, none⟩ = some (.int .i64 (k : Int)) := hs2.cell (by show ¬ w.heap.size + 1 = bd; omega) ca
        have hps : w2.cell? ⟨w.heap.size + 2, 0, none⟩ = some (.string s) := hs2.cell (by show ¬ w.heap.size + 2 = bd; omega) cs
        refine (write1 bd gs bm m S wv d.op ⟨w.heap.size + 1, 0, none⟩ ⟨w.heap.size + 2, 0, none⟩ ⟨w.heap.size, 0, none⟩ k s w2 hv hpa hps hp (hne 1) (hne 0) (by rw [dop_safe]; exact hk) hs (by rw [dop_wait]; exact hwl) hm (by rw [dop_safe]; exact hn)).mono ?_
        rintro e w3 ⟨rfl, ⟨gs', bm', wv', h3⟩, s3⟩
        have hz2 := hs2.size
        refine ⟨rfl, ⟨gs', bm', wv', h3.blk, h3.rest.mono (fun g hg => hg.imp id (fun h => ?_))⟩, s3.weak (fun _ h => .inl h)⟩
        omega
      · rintro e w3 ⟨rfl, h3, s3⟩
        refine ⟨rfl, ⟨m + 1, Nat.le_refl _, h3⟩, ?_⟩
        refine ⟨s3.os.trans hs1.os, s3.tape.trans hs1.tape, s3.output.trans hs1.output, Nat.le_trans hs1.size s3.size, fun g hg hn => ?_⟩
        exact (s3.block g (by omega) (by rintro (h | h); exact hn h; omega)).trans (hs1.block g hg (fun h => h))
    · have hfl : d.write k s = d.op := by unfold Dsk.write; rw [hd]; rfl
      rw [hfl]
      refine (operate_down bd m S d _ ev _ h1 hE1 (by rintro rfl; exact hG hSb) hd hf).mono ?_
      rintro e w3 ⟨rfl, h3, s3⟩
      exact ⟨rfl, ⟨m, Nat.le_succ _, h3.mono (fun _ h => .inl h)⟩, (boxW_same S w bd k s).trans s3⟩
  obtain ⟨rv, hrv⟩ : ∃ rv, rv = (if d.op.down then ev else Value.nilIface) := ⟨_, rfl⟩
  rw [← hrv] at HO ⊢
  have hsi : ((s.size : Int) != 64) = false := by rw [bne_eq_false_iff_eq]; omega
  unfold boxW at HO HHAS cd ca cs
  clear hrv hs1 h1 hE1 h hE hf hwl hn hSl HC hz hk hs hm
  go_enter Tryz.func140, Tryz.ntmps140
  go_wp2_with (first | (go_at_call 179; refine HHAS.out.mono ?_; rintro e w' ⟨rfl, rfl⟩) | (go_at_call 214; refine HO.out.mono ?_; rintro e w3 ⟨rfl, H3, S3⟩))
  go_ret
  exact ⟨rfl, H3.out, S3.out⟩
end Go.Proofs.YtapijhhmjjplmaaGreatDoor
namespace Go.Proofs.YtapijhhmjjplmaaGreatDoor
open Go.RowKit Go.Maps

def Dsk.fresh (n : Nat) : Dsk := ⟨List.replicate n z64, [], 0, false⟩
theorem bcells_z64 : bcells z64.data.toList = List.replicate 64 (.int .u8 0) := by kernel_rfl
theorem secs_fresh (n : Nat) : secs (List.replicate n z64) = List.replicate (n * 64) (.int .u8 0) := by
  induction n with
  | zero => simp [secs]
  | succ n ih =>
    have e : secs (List.replicate (n + 1) z64) = bcells z64.data.toList ++ secs (List.replicate n z64) := by simp [secs, List.replicate_succ]
    rw [e, ih, bcells_z64, List.replicate_append_replicate]
    congr 1
    omega
theorem made_rep (v : Value) (L : List Value) (hL : ∀ x ∈ L, x = v) (h64 : L.length = 64) (N : Nat) : madeCells L.toArray N = (List.replicate N v).toArray := by
  unfold madeCells
  apply Array.ext
  · simp
  · intro i h1 h2
    have hlt : i % 64 < L.length := by rw [h64]; exact Nat.mod_lt _ (by omega)
    rw [Array.getElem_map, Array.getElem_range, List.size_toArray, h64, List.getElem_toArray, List.getElem_replicate, getElem!_pos _ _ (by simpa using hlt), List.getElem_toArray]
    exact hL _ (List.getElem_mem _)
theorem made_secs (n : Nat) : madeCells (secV z64).cells (n * 64) = (secs (List.replicate n z64)).toArray := by
  rw [secs_fresh]
  have hz : (secV z64).cells = (List.replicate 64 (.int .u8 0)).toArray := by show (bcells z64.data.toList).toArray = _; rw [bcells_z64]
  rw [hz]
  exact made_rep (.int .u8 0) _ (fun x hx => List.eq_of_mem_replicate hx) List.length_replicate _
theorem infoSec : ∃ i, Tryz.prog.info? 193 = some i ∧ i.zero = some (secV z64) ∧ i.size = 64 ∧ i.bytes = 64 := by
  have h : (Tryz.prog.info? 193).map (fun i => (i.zero, i.size, i.bytes)) = some (some (secV z64), 64, 64) := by kernel_rfl
  obtain ⟨i, hi, hz0, hz1, hz2⟩ := info_parts h
  exact ⟨i, hi, hz0, hz1, hz2⟩
theorem mk_secs (n : Nat) (hn : n ≤ 4096) (w : World) : (Instr.makeSlice 77 (.int .i64 (n : Int)) (.int .i64 (n : Int))).run Tryz.prog w = .ok (.slice (some ⟨w.heap.size, 0, none⟩) n n) (w.alloc (.cells (secs (List.replicate n z64)).toArray 193)) := by
  obtain ⟨i, hi, hz, hs, hb⟩ := infoSec
  have h := run_make (P := Tryz.prog) w 77 193 i (secV z64) Tryz.underlying77 hi hz .i64 .i64 n n (by omega) (by omega) (by rw [hb]; omega) (by omega)
  rw [hs, Int.toNat_natCast, made_secs] at h
  exact h

theorem new_fin (n : Nat) (C : Array Value) (hC : C = (secs (List.replicate n z64)).toArray) (w w' : World) (hw : w' = ((w.alloc (.cells C 193)).alloc (.map #[] 0)).alloc (.cells (dskRow 0 w.heap.size n (w.heap.size + 1) (.slice none 0 0) 0 false) 88)) :
    DskAt w' (fun g => w.heap.size ≤ g) (w.heap.size + 2) 0 (Dsk.fresh n) ∧ Below w.heap.size w w' := by
  subst hw
  refine ⟨⟨w.heap.size, w.heap.size + 1, .slice none 0 0, ?_, ⟨?_, ?_, ⟨⟨rfl, .inl ⟨rfl, rfl⟩⟩, fun g hg => by cases hg⟩, ?_, ?_, ?_, ?_, ?_, ?_, fun g hg => (by cases hg), ?_, fun x hx => (by cases hx)⟩⟩, ?_⟩
  · have h := heap_alloc_new ((w.alloc (.cells C 193)).alloc (.map #[] 0)) (.cells (dskRow 0 w.heap.size n (w.heap.size + 1) (.slice none 0 0) 0 false) 88)
    show _ = some (Obj.cells (dskRow 0 w.heap.size (List.replicate n z64).length (w.heap.size + 1) (.slice none 0 0) 0 false) 88 (0, 0))
    rw [List.length_replicate]
    simpa using h
  · rw [Below.heap_alloc _ _ _ (by simp; omega), Below.heap_alloc _ _ _ (by simp), heap_alloc_new w _, hC]
    rfl
  · have h := (World.ownsMap_made (w.alloc (.cells C 193)) Tryz.prog 3 heldR).alloc (.cells (dskRow 0 w.heap.size n (w.heap.size + 1) (.slice none 0 0) 0 false) 88)
    have e : (w.alloc (.cells C 193)).heap.size = w.heap.size + 1 := by simp
    rw [e] at h
    exact h
  · show w.heap.size ≤ w.heap.size + 2; omega
  · show w.heap.size ≤ w.heap.size; omega
  · show w.heap.size ≤ w.heap.size + 1; omega
  · show w.heap.size + 2 ≠ w.heap.size; omega
  · show w.heap.size + 2 ≠ w.heap.size + 1; omega
  · show w.heap.size ≠ w.heap.size + 1; omega
  · intro s hs
    rw [List.eq_of_mem_replicate hs]
    exact z64_size
  · exact (((Below.refl _ _).alloc (Nat.le_refl _) _).alloc (by simp) _).alloc (by simp; omega) _

set_option maxRecDepth 100000 in
theorem dsk_new (a : Int) (w : World) :
    Calls Tryz.prog 24 #[.int .i64 a] w fun e w' => ∃ bd, e = .returned (.pointer (some ⟨bd, 0, none⟩)) ∧ DskAt w' (fun g => w.heap.size ≤ g) bd 0 (Dsk.fresh (clampN a)) ∧ Below w.heap.size w w' := by
  obtain ⟨n, hn⟩ : ∃ n, n = clampN a := ⟨_, rfl⟩
  have hb := clampN_bound a
  rw [← hn] at hb ⊢
  obtain ⟨C, hC⟩ : ∃ C, C = (secs (List.replicate n z64)).toArray := ⟨_, rfl⟩
  have hmk : ∀ w, (Instr.makeSlice 77 (.int .i64 (n : Int)) (.int .i64 (n : Int))).run Tryz.prog w = .ok (.slice (some ⟨w.heap.size, 0, none⟩) n n) (w.alloc (.cells C 193)) := fun w => by
    rw [hC]; exact mk_secs n hb.2 w
  have hmm : ∀ w, (Instr.makeMap 78 none).run Tryz.prog w = .ok (.map (some w.heap.size)) (w.alloc (.map #[] 0)) := fun w => run_makeMap _ w
  have HF : Hid (∀ w' : World, w' = ((w.alloc (.cells C 193)).alloc (.map #[] 0)).alloc (.cells (dskRow 0 w.heap.size n (w.heap.size + 1) (.slice none 0 0) 0 false) 88) → DskAt w' (fun g => w.heap.size ≤ g) (w.heap.size + 2) 0 (Dsk.fresh n) ∧ Below w.heap.size w w') := fun w' hw => new_fin n C hC w w' hw
  by_cases h0 : a < 1
  · have hn1 : (n : Int) = 1 := by rw [hn, clampN_low a h0]; rfl
    rw [hn1] at hmk
    clear hn hC hb
    go_enter Tryz.func24, Tryz.ntmps24
    go_wp2
    go_ret
    exact ⟨_, rfl, HF.out _ rfl⟩
  · by_cases h1 : 4096 < a
    · have hn1 : (n : Int) = 4096 := by rw [hn, clampN_high a h1]; rfl
      rw [hn1] at hmk
      clear hn hC hb
      go_enter Tryz.func24, Tryz.ntmps24
      go_wp2
      go_ret
      exact ⟨_, rfl, HF.out _ rfl⟩
    · have hn1 : (n : Int) = a := by rw [hn, clampN_mid a h0 h1]; omega
      rw [hn1] at hmk
      clear hn hC hb
      go_enter Tryz.func24, Tryz.ntmps24
      go_wp2
      go_ret
      exact ⟨_, rfl, HF.out _ rfl⟩
end Go.Proofs.YtapijhhmjjplmaaGreatDoor
namespace Go.Proofs.YtapijhhmjjplmaaGreatDoor
open Go.RowKit Go.Maps

theorem wrap64_small (n : Int) (h1 : 0 ≤ n) (h2 : n ≤ 9223372036854775807) : wrap64 n = n := by
  unfold wrap64
  first | omega | (simp; omega)
structure Rel (d : Dsk) (r : RDsk) : Prop where
  safe : r.safe = d.safe
  wait : r.wait = d.wait
  down : r.down = d.down
  seen : r.seen = applyAll d.wait d.safe
  fuse : d.down = true ∨ (r.lit = decide (0 < d.fuse) ∧ (0 < d.fuse → r.left = d.fuse))
  most : d.fuse ≤ 9223372036854775807
  size : 1 ≤ d.safe.length ∧ d.safe.length ≤ 4096
theorem Rel.seenLen {d : Dsk} {r : RDsk} (h : Rel d r) : r.seen.length = d.safe.length := by rw [h.seen, applyAll_length]
theorem Rel.op {d : Dsk} {r : RDsk} (h : Rel d r) : Rel d.op r.op := by
  have h7 : d.op.fuse ≤ 9223372036854775807 := by
    have := h.most
    unfold Dsk.op
    split
    · show d.fuse - 1 ≤ _; omega
    · exact this
  have h8 : 1 ≤ d.op.safe.length ∧ d.op.safe.length ≤ 4096 := by rw [dop_safe]; exact h.size
  have hdown : d.down = true → r.op.down = d.op.down ∧ d.op.down = true := fun hd => by
    have hr : r.down = true := h.down.trans hd
    have e1 : d.op.down = true := by
      unfold Dsk.op
      split
      · show (d.down || _) = true; rw [hd]; rfl
      · exact hd
    have e2 : r.op.down = true := by
      unfold RDsk.op
      split
      · show (r.down || _) = true; rw [hr]; rfl
      · exact hr
    exact ⟨e2.trans e1.symm, e1⟩
  cases hd : d.down
  · obtain hh | ⟨hl, hf⟩ := h.fuse
    · rw [hd] at hh; cases hh
    · by_cases h0 : 0 < d.fuse
      · have hleft := hf h0
        have hw : wrap64 (r.left - 1) = d.fuse - 1 := by rw [hleft]; exact wrap64_small _ (by omega) (by have := h.most; omega)
        have hlt : r.lit = true := by rw [hl]; exact decide_eq_true h0
        have hrd : r.down = false := h.down.trans hd
        have e : decide (d.fuse - 1 ≤ 0) = decide (d.fuse - 1 = 0) := by
          rw [decide_eq_decide]
          omega
        rw [dop_lit d h0] at h7 h8 ⊢
        rw [op_lit r hlt, hw, e, hd, hrd]
        refine ⟨h.safe, h.wait, rfl, h.seen, ?_, h7, h8⟩
        by_cases h1 : d.fuse - 1 = 0
        · left
          show (false || decide (d.fuse - 1 = 0)) = true
          rw [decide_eq_true h1]; rfl
        · right
          refine ⟨?_, fun _ => rfl⟩
          show r.lit = decide (0 < d.fuse - 1)
          rw [hlt, decide_eq_true (show 0 < d.fuse - 1 by omega)]
      · rw [dop_not d h0, op_not r (by rw [hl]; exact decide_eq_false h0)]
        exact h
  · obtain ⟨e1, e2⟩ := hdown hd
    exact ⟨by rw [op_safe, dop_safe]; exact h.safe, by rw [op_wait, dop_wait]; exact h.wait, e1, by rw [op_seen, dop_wait, dop_safe]; exact h.seen, .inl e2, h7, h8⟩
theorem applyAll_last (wait : List (Nat × ByteArray)) (safe : List ByteArray) (k : Nat) (s : ByteArray) : applyAll (wait ++ [(k, s)]) safe = (applyAll wait safe).set k s := by simp [applyAll, List.foldl_append]
theorem Rel.write {d : Dsk} {r : RDsk} (h : Rel d r) (k : Nat) (s : ByteArray) : Rel (d.write k s) (r.write k s) := by
  have ho := h.op
  unfold Dsk.write RDsk.write
  rw [ho.down]
  split
  · exact ho
  · refine ⟨ho.safe, ?_, ho.down, ?_, ho.fuse, ho.most, ho.size⟩
    · show _ ++ _ = _ ++ _; rw [ho.wait]
    · show r.op.seen.set k s = applyAll (d.op.wait ++ [(k, s)]) d.op.safe
      rw [applyAll_last, ho.seen]
theorem Rel.flush {d : Dsk} {r : RDsk} (h : Rel d r) : Rel d.flush r.flush := by
  have ho := h.op
  unfold Dsk.flush RDsk.flush
  rw [ho.down]
  split
  · exact ho
  · refine ⟨ho.seen, rfl, ho.down, ho.seen, ho.fuse, ho.most, ?_⟩
    show 1 ≤ (applyAll d.op.wait d.op.safe).length ∧ (applyAll d.op.wait d.op.safe).length ≤ 4096
    rw [applyAll_length]; exact ho.size
theorem Rel.crash {d : Dsk} {r : RDsk} (h : Rel d r) (ks : List Int) : Rel { d with safe := keepAll d.wait d.safe ks, wait := [], fuse := 0, down := false } (r.crash ks) := by
  refine ⟨?_, rfl, rfl, ?_, .inr ⟨rfl, fun h => absurd h (show ¬ (0 : Int) < 0 by omega)⟩, by show (0 : Int) ≤ _; omega, ?_⟩
  · show keepAll r.wait r.safe ks = _; rw [h.wait, h.safe]
  · show keepAll r.wait r.safe ks = keepAll d.wait d.safe ks; rw [h.wait, h.safe]
  · show 1 ≤ (keepAll d.wait d.safe ks).length ∧ _ ≤ _
    rw [keepAll_length]; exact h.size
theorem Rel.lit {d : Dsk} {r : RDsk} (h : Rel d r) (n : Int) (hn : n ≤ 9223372036854775807) : Rel { d with fuse := max n 0 } { r with lit := decide (0 < n), left := n } := by
  refine ⟨h.safe, h.wait, h.down, h.seen, .inr ⟨?_, fun hf => ?_⟩, ?_, h.size⟩
  · show decide (0 < n) = decide (0 < max n 0)
    rw [decide_eq_decide]; omega
  · show n = max n 0
    have : 0 < max n 0 := hf
    omega
  · show max n 0 ≤ _; omega
theorem Rel.fresh (n : Nat) (h : 1 ≤ n ∧ n ≤ 4096) : Rel (Dsk.fresh n) (RDsk.fresh n) :=
  ⟨rfl, rfl, rfl, rfl, .inr ⟨rfl, fun h => absurd h (show ¬ (0 : Int) < 0 by omega)⟩, by show (0 : Int) ≤ _; omega, by show 1 ≤ (List.replicate n z64).length ∧ (List.replicate n z64).length ≤ 4096; rw [List.length_replicate]; exact h⟩
theorem at_seen (safe : List ByteArray) (k : Nat) (hk : k < safe.length) (wait : List (Nat × ByteArray)) : (applyAll wait safe)[k]? = some ((lastW wait k).getD safe[k]) := by
  refine snoc_ind (P := fun l => (applyAll l safe)[k]? = some ((lastW l k).getD safe[k])) ?_ (fun l x ih => ?_) wait
  · show safe[k]? = some safe[k]
    exact List.getElem?_eq_getElem hk
  · obtain ⟨j, s⟩ := x
    rw [applyAll_last, lastW_snoc]
    by_cases h : j = k
    · subst h
      rw [if_pos rfl, List.getElem?_set_self (by rw [applyAll_length]; exact hk)]
      rfl
    · rw [if_neg h, List.getElem?_set_ne h]
      exact ih
theorem Rel.at {d : Dsk} {r : RDsk} (h : Rel d r) (k : Nat) (hk : k < d.safe.length) (hk' : k < r.seen.length) : r.seen[k] = d.at k hk := by
  have e := at_seen d.safe k hk d.wait
  rw [← h.seen, List.getElem?_eq_getElem hk'] at e
  exact Option.some.inj e
theorem Rel.ans {d : Dsk} {r : RDsk} (h : Rel d r) : r.ans = if d.op.down then 2 else 0 := by unfold RDsk.ans; rw [h.op.down]
end Go.Proofs.YtapijhhmjjplmaaGreatDoor
namespace Go.Proofs.YtapijhhmjjplmaaGreatDoor
open Go.RowKit Go.Extern.Stop Go.Stop Go.Extern

theorem isTypeOf (v : Value) (w : World) : (Extern.ReflectliteType.typeOf #[.iface 458 v]).run Tryz.prog w = .ok (.iface 333 (.agg #[.pointer (some ⟨18, 458, none⟩)])) w := by kernel_rfl
/-- The model's entry for Comparable, under a name that the walk does not lay open. -/
def cmpEntry : Array Value → Sem Value := ReflectliteType.method fun t => do Rtype.noPackHeld "Comparable" t; pure (.bool (← typeInfo t).comparable)
theorem isComparable (w : World) : (cmpEntry #[.agg #[.pointer (some ⟨18, 458, none⟩)]]).run Tryz.prog w = .ok (.bool true) w := by kernel_rfl
theorem isMethodComparable (v : Value) (w : World) : (Go.method 587 333 v "Comparable").run Tryz.prog w = .ok (352, v) w := by kernel_rfl
theorem isComp : (Tryz.prog.info? 458).map (·.comparable) = some true := by kernel_rfl
theorem isSize : (Tryz.prog.info? 476).map (·.size) = some 1 := by kernel_rfl

theorem noIsE (v : Value) (xT : TypeId) (w : World) : (Instr.typeAssert (.iface 458 v) xT 335 true).run Tryz.prog w = .ok (.tuple #[.nilIface, .bool false]) w := run_typeAssert_lacksB Tryz.underlying335 (by kernel_rfl) (by kernel_rfl) v xT w
theorem noUnwrapE (v : Value) (xT : TypeId) (w : World) : (Instr.typeAssert (.iface 458 v) xT 338 true).run Tryz.prog w = .ok (.tuple #[.nilIface, .bool false]) w := run_typeAssert_lacksB Tryz.underlying338 (by kernel_rfl) (by kernel_rfl) v xT w
theorem noUnwrapsE (v : Value) (xT : TypeId) (w : World) : (Instr.typeAssert (.iface 458 v) xT 339 true).run Tryz.prog w = .ok (.tuple #[.nilIface, .bool false]) w := run_typeAssert_lacksB Tryz.underlying339 (by kernel_rfl) (by kernel_rfl) v xT w
theorem noIsW (v : Value) (xT : TypeId) (w : World) : (Instr.typeAssert (.iface 162 v) xT 335 true).run Tryz.prog w = .ok (.tuple #[.nilIface, .bool false]) w := run_typeAssert_lacksB Tryz.underlying335 (by kernel_rfl) (by kernel_rfl) v xT w
theorem hasUnwrapW (v : Value) (xT : TypeId) (w : World) : (Instr.typeAssert (.iface 162 v) xT 338 true).run Tryz.prog w = .ok (.tuple #[.iface 162 v, .bool true]) w := run_typeAssert_hasB Tryz.underlying338 (by kernel_rfl) v xT w
theorem methodUnwrap (v : Value) (w : World) : (Go.method 587 162 v "Unwrap").run Tryz.prog w = .ok (345, v) w := by kernel_rfl

/-- (*Fault).Unwrap of one that is not nil: its second cell. -/
theorem unwrap_any (pb po : Nat) (v : Value) (w : World) (h1 : w.cell? ⟨pb, po + 1, none⟩ = some v) :
    Calls Tryz.prog 345 #[.pointer (some ⟨pb, po, none⟩)] w fun e w' => e = .returned v ∧ w' = w := by
  go_enter Tryz.func345, Tryz.ntmps345
  go_wp2
  go_ret
  exact ⟨rfl, rfl⟩

/-- errors.Is(x, x), x a pointer to an errors.errorString. -/
theorem is_same (a : Addr) (w : World) :
    Calls Tryz.prog 78 #[.iface 458 (.pointer (some a)), .iface 458 (.pointer (some a))] w fun e w' => e = .returned (.bool true) ∧ w' = w := by
  obtain ⟨i, hi, hcmp⟩ := Option.map_eq_some_iff.1 isComp
  obtain ⟨j, hj, hjs⟩ := Option.map_eq_some_iff.1 isSize
  have h8 := @run_callFunc_extern Tryz.prog 133 _ Extern.ReflectliteType.typeOf Tryz.func133 (by kernel_rfl) (by kernel_rfl) (by kernel_rfl) (by kernel_rfl)
  have h32 := @run_callFunc_extern Tryz.prog 352 _ cmpEntry Tryz.func352 (by kernel_rfl) (by kernel_rfl) (by kernel_rfl) (by kernel_rfl)
  have tT := isTypeOf
  have cT := isComparable
  have mR := isMethodComparable
  have heq := run_eql_iface_ptr_same (P := Tryz.prog) w a Tryz.underlying92 Tryz.underlying458 hi hcmp hj
  go_enter Tryz.func78, Tryz.ntmps78
  go_wp2
  refine wp_loop_rounds 1 ?_
  rw [rounds_succ]
  go_wp2
  go_ret
  exact ⟨rfl, rfl⟩

/-- errors.Is(x, y), two different pointers to errors.errorString: false. -/
theorem is_other (a b : Addr) (ca cb : Array Value) (ta tb : TypeId) (w : World) (hne : a ≠ b) (ha : w.heap[a.block]? = some (.cells ca ta (0, 0))) (hb : w.heap[b.block]? = some (.cells cb tb (0, 0))) :
    Calls Tryz.prog 78 #[.iface 458 (.pointer (some a)), .iface 458 (.pointer (some b))] w fun e w' => e = .returned (.bool false) ∧ w' = w := by
  obtain ⟨i, hi, hcmp⟩ := Option.map_eq_some_iff.1 isComp
  obtain ⟨j, hj, hjs⟩ := Option.map_eq_some_iff.1 isSize
  have h8 := @run_callFunc_extern Tryz.prog 133 _ Extern.ReflectliteType.typeOf Tryz.func133 (by kernel_rfl) (by kernel_rfl) (by kernel_rfl) (by kernel_rfl)
  have h32 := @run_callFunc_extern Tryz.prog 352 _ cmpEntry Tryz.func352 (by kernel_rfl) (by kernel_rfl) (by kernel_rfl) (by kernel_rfl)
  have tT := isTypeOf
  have cT := isComparable
  have mR := isMethodComparable
  have nE := noIsE
  have uE := noUnwrapE
  have vE := noUnwrapsE
  have heq := run_eql_iface_ptr_other (P := Tryz.prog) w Tryz.underlying92 Tryz.underlying458 hi hcmp hj (by rw [hjs]; decide) hne ha hb
  go_enter Tryz.func78, Tryz.ntmps78
  go_wp2
  refine wp_loop_rounds 1 ?_
  rw [rounds_succ]
  go_wp2
  go_ret
  exact ⟨rfl, rfl⟩

/-- errors.Is(f, x), f a *Fault that wraps x itself. -/
theorem is_wrap_same (pb po : Nat) (b : Addr) (w : World) (h1 : w.cell? ⟨pb, po + 1, none⟩ = some (.iface 458 (.pointer (some b)))) :
    Calls Tryz.prog 78 #[.iface 162 (.pointer (some ⟨pb, po, none⟩)), .iface 458 (.pointer (some b))] w fun e w' => e = .returned (.bool true) ∧ w' = w := by
  obtain ⟨i, hi, hcmp⟩ := Option.map_eq_some_iff.1 isComp
  obtain ⟨j, hj, hjs⟩ := Option.map_eq_some_iff.1 isSize
  have h8 := @run_callFunc_extern Tryz.prog 133 _ Extern.ReflectliteType.typeOf Tryz.func133 (by kernel_rfl) (by kernel_rfl) (by kernel_rfl) (by kernel_rfl)
  have h32 := @run_callFunc_extern Tryz.prog 352 _ cmpEntry Tryz.func352 (by kernel_rfl) (by kernel_rfl) (by kernel_rfl) (by kernel_rfl)
  have tT := isTypeOf
  have cT := isComparable
  have mR := isMethodComparable
  have nW := noIsW
  have uW := hasUnwrapW
  have mU := methodUnwrap
  have heq := run_eql_iface_ptr_same (P := Tryz.prog) w b Tryz.underlying92 Tryz.underlying458 hi hcmp hj
  have hty := run_eql_iface_types (P := Tryz.prog) 162 458 (.pointer (some ⟨pb, po, none⟩)) (.pointer (some b)) Tryz.underlying92 (by decide) w
  go_enter Tryz.func78, Tryz.ntmps78
  go_wp2
  refine wp_loop_rounds 2 ?_
  rw [rounds_succ]
  go_wp2
  rw [rounds_succ]
  go_wp2
  go_ret
  exact ⟨rfl, rfl⟩

/-- errors.Is(f, x), f a *Fault that wraps another. -/
theorem is_wrap_other (pb po : Nat) (b a : Addr) (ca cb : Array Value) (ta tb : TypeId) (w : World) (h1 : w.cell? ⟨pb, po + 1, none⟩ = some (.iface 458 (.pointer (some a)))) (hne : a ≠ b) (ha : w.heap[a.block]? = some (.cells ca ta (0, 0))) (hb : w.heap[b.block]? = some (.cells cb tb (0, 0))) :
    Calls Tryz.prog 78 #[.iface 162 (.pointer (some ⟨pb, po, none⟩)), .iface 458 (.pointer (some b))] w fun e w' => e = .returned (.bool false) ∧ w' = w := by
  obtain ⟨i, hi, hcmp⟩ := Option.map_eq_some_iff.1 isComp
  obtain ⟨j, hj, hjs⟩ := Option.map_eq_some_iff.1 isSize
  have h8 := @run_callFunc_extern Tryz.prog 133 _ Extern.ReflectliteType.typeOf Tryz.func133 (by kernel_rfl) (by kernel_rfl) (by kernel_rfl) (by kernel_rfl)
  have h32 := @run_callFunc_extern Tryz.prog 352 _ cmpEntry Tryz.func352 (by kernel_rfl) (by kernel_rfl) (by kernel_rfl) (by kernel_rfl)
  have tT := isTypeOf
  have cT := isComparable
  have mR := isMethodComparable
  have nE := noIsE
  have uE := noUnwrapE
  have vE := noUnwrapsE
  have nW := noIsW
  have uW := hasUnwrapW
  have mU := methodUnwrap
  have heq := run_eql_iface_ptr_other (P := Tryz.prog) w Tryz.underlying92 Tryz.underlying458 hi hcmp hj (by rw [hjs]; decide) hne ha hb
  have hty := run_eql_iface_types (P := Tryz.prog) 162 458 (.pointer (some ⟨pb, po, none⟩)) (.pointer (some b)) Tryz.underlying92 (by decide) w
  go_enter Tryz.func78, Tryz.ntmps78
  go_wp2
  refine wp_loop_rounds 2 ?_
  rw [rounds_succ]
  go_wp2
  rw [rounds_succ]
  go_wp2
  go_ret
  exact ⟨rfl, rfl⟩
end Go.Proofs.YtapijhhmjjplmaaGreatDoor
namespace Go.Proofs.YtapijhhmjjplmaaGreatDoor
open Go.RowKit Go.Extern.Stop Go.Stop Go.Extern

theorem valueOfPP (t : Addr) (w : World) : (ReflectliteValue.unpack (.iface 164 (.pointer (some t)))).run Tryz.prog w
    = .ok (.agg #[.pointer (some ⟨18, 164, none⟩), .pointer (some ⟨w.heap.size, 0, none⟩), .int .u64 150]) (w.alloc (.cells #[.pointer (some t)] 164)) := by kernel_rfl
theorem typePP (a : Addr) (w : World) : (ReflectliteValue.methodAny (ReflectliteValue.valueError "reflectlite.Value.Type" 0) (fun t _ _ _ => ReflectliteType.toType t) #[.agg #[.pointer (some ⟨18, 164, none⟩), .pointer (some a), .int .u64 150]]).run Tryz.prog w
    = .ok (.iface 333 (.agg #[.pointer (some ⟨18, 164, none⟩)])) w := by kernel_rfl
theorem methodKind (h : Value) (w : World) : (Go.method 587 333 (.agg #[h]) "Kind").run Tryz.prog w = .ok (341, h) w := by kernel_rfl
theorem kindPP (w : World) : ((ReflectliteType.abiMethod fun t => (fun a : Nat => Value.int IntKind.u8 (a : Int)) <$> Rtype.kind t) #[.pointer (some ⟨18, 164, none⟩)]).run Tryz.prog w = .ok (.int .u8 22) w := by kernel_rfl
theorem kindP (w : World) : ((ReflectliteType.abiMethod fun t => (fun a : Nat => Value.int IntKind.u8 (a : Int)) <$> Rtype.kind t) #[.pointer (some ⟨18, 162, none⟩)]).run Tryz.prog w = .ok (.int .u8 22) w := by kernel_rfl
theorem rlm (z : Sem Value) (f : TypeId → Addr → Nat → Nat → Sem Value) (v : Value) :
    ReflectliteValue.method z f #[v] = (do match ← ReflectliteValue.parts v with | none => z | some (t, a, fl) => f t a fl (fl % 32)) := rfl
theorem partsPP (a : Addr) (w : World) : (ReflectliteValue.parts (.agg #[.pointer (some ⟨18, 164, none⟩), .pointer (some a), .int .u64 150])).run Tryz.prog w = .ok (some (164, a, 150)) w := by kernel_rfl
theorem isNilPP (a p : Addr) (W : World) (ha : W.cell? a = some (.pointer (some p))) :
    (ReflectliteValue.method (ReflectliteValue.valueError "reflectlite.Value.IsNil" 0) ReflectliteValue.isNil #[.agg #[.pointer (some ⟨18, 164, none⟩), .pointer (some a), .int .u64 150]]).run Tryz.prog W = .ok (.bool false) W := by
  rw [rlm]
  simp only [Sem.run_bind, partsPP, Result.andThen]
  simp [ReflectliteValue.isNil, loadVar, isAgg, underlying, Tryz.underlying164, ha, Result.andThen]
theorem methodElem (h : Value) (w : World) : (Go.method 587 333 (.agg #[h]) "Elem").run Tryz.prog w = .ok (353, .agg #[h]) w := by kernel_rfl
theorem methodImplements (h : Value) (w : World) : (Go.method 587 333 (.agg #[h]) "Implements").run Tryz.prog w = .ok (354, .agg #[h]) w := by kernel_rfl
theorem methodAssignableTo (h : Value) (w : World) : (Go.method 587 333 (.agg #[h]) "AssignableTo").run Tryz.prog w = .ok (351, .agg #[h]) w := by kernel_rfl
theorem elemPP (w : World) : (ReflectliteType.method ReflectliteType.elem #[.agg #[.pointer (some ⟨18, 164, none⟩)]]).run Tryz.prog w = .ok (.iface 333 (.agg #[.pointer (some ⟨18, 162, none⟩)])) w := by kernel_rfl
theorem implementsP (w : World) : (ReflectliteType.relation "Implements" ReflectliteType.implements_ #[.agg #[.pointer (some ⟨18, 162, none⟩)], .iface 333 (.agg #[.pointer (some ⟨18, 92, none⟩)])]).run Tryz.prog w = .ok (.bool true) w := by kernel_rfl
theorem typeOfP (v : Value) (w : World) : (ReflectliteType.typeOf #[.iface 162 v]).run Tryz.prog w = .ok (.iface 333 (.agg #[.pointer (some ⟨18, 162, none⟩)])) w := by kernel_rfl
theorem typeOfE (v : Value) (w : World) : (ReflectliteType.typeOf #[.iface 458 v]).run Tryz.prog w = .ok (.iface 333 (.agg #[.pointer (some ⟨18, 458, none⟩)])) w := by kernel_rfl
theorem assignableP (w : World) : (ReflectliteType.relation "AssignableTo" ReflectliteType.assignableTo #[.agg #[.pointer (some ⟨18, 162, none⟩)], .iface 333 (.agg #[.pointer (some ⟨18, 162, none⟩)])]).run Tryz.prog w = .ok (.bool true) w := by kernel_rfl
theorem assignableE (w : World) : (ReflectliteType.relation "AssignableTo" ReflectliteType.assignableTo #[.agg #[.pointer (some ⟨18, 458, none⟩)], .iface 333 (.agg #[.pointer (some ⟨18, 162, none⟩)])]).run Tryz.prog w = .ok (.bool false) w := by kernel_rfl
theorem valueOfP (e : Addr) (w : World) : (ReflectliteValue.unpack (.iface 162 (.pointer (some e)))).run Tryz.prog w
    = .ok (.agg #[.pointer (some ⟨18, 162, none⟩), .pointer (some ⟨w.heap.size, 0, none⟩), .int .u64 150]) (w.alloc (.cells #[.pointer (some e)] 162)) := by kernel_rfl
theorem elemOfPP (w : World) : (Rtype.elem? 164).run Tryz.prog w = .ok (some 162) w := by kernel_rfl
theorem mkP (p : Addr) (w : World) : (ReflectliteValue.mk 162 p ReflectliteValue.flagAddr).run Tryz.prog w = .ok (.agg #[.pointer (some ⟨18, 162, none⟩), .pointer (some p), .int .u64 406]) w := by kernel_rfl
theorem elemVPP (a p : Addr) (W : World) (ha : W.cell? a = some (.pointer (some p))) :
    (ReflectliteValue.method (ReflectliteValue.valueError "reflectlite.Value.Elem" 0) ReflectliteValue.elem #[.agg #[.pointer (some ⟨18, 164, none⟩), .pointer (some a), .int .u64 150]]).run Tryz.prog W
      = .ok (.agg #[.pointer (some ⟨18, 162, none⟩), .pointer (some p), .int .u64 406]) W := by
  rw [rlm]
  simp only [Sem.run_bind, partsPP, Result.andThen]
  simp [ReflectliteValue.elem, loadVar, isAgg, underlying, Tryz.underlying164, ha, Result.andThen, elemOfPP, mkP]
theorem rls (v x : Value) : ReflectliteValue.set #[v, x] = (do
    let (some (dst, a, fl), some (src, b, _)) := (← ReflectliteValue.parts v, ← ReflectliteValue.parts x)
      | unsupported (.noEntry "extern/(internal/reflectlite.Value).Set.zeroValue")
    if fl / ReflectliteValue.flagAddr % 2 == 0 then unsupported (.noEntry "extern/(internal/reflectlite.Value).Set.unaddressable")
    let val ← loadVar src b
    if ← Rtype.directlyAssignable dst src then storeVar dst a val
    else if ← Rtype.implements dst src then
      if (← Rtype.kind src) == 20 then
        match val with
        | .nilIface => unsupported (.noEntry "extern/reflectlite: a nil value of one interface type handed on as a value of another")
        | _ => storeVar dst a val
      else storeVar dst a (.iface src val)
    else panicString ("reflectlite.Set: value of type " ++ (← Rtype.spelt src) ++ " is not assignable to type " ++ (← Rtype.spelt dst))
    pure (.tuple #[])) := rfl
theorem partsPa (a : Addr) (w : World) : (ReflectliteValue.parts (.agg #[.pointer (some ⟨18, 162, none⟩), .pointer (some a), .int .u64 406])).run Tryz.prog w = .ok (some (162, a, 406)) w := by kernel_rfl
theorem partsP (a : Addr) (w : World) : (ReflectliteValue.parts (.agg #[.pointer (some ⟨18, 162, none⟩), .pointer (some a), .int .u64 150])).run Tryz.prog w = .ok (some (162, a, 150)) w := by kernel_rfl
theorem directP (w : World) : (Rtype.directlyAssignable 162 162).run Tryz.prog w = .ok true w := by kernel_rfl
theorem setP (ta b e : Addr) (old : Value) (W : World) (hb : W.cell? b = some (.pointer (some e))) (ht : W.cell? ta = some old) (hf : W.frozen? ta = false) :
    (ReflectliteValue.set #[.agg #[.pointer (some ⟨18, 162, none⟩), .pointer (some ta), .int .u64 406], .agg #[.pointer (some ⟨18, 162, none⟩), .pointer (some b), .int .u64 150]]).run Tryz.prog W
      = .ok (.tuple #[]) (W.setCell ta (.pointer (some e))) := by
  rw [rls]
  simp only [Sem.run_bind, partsPa, partsP, Result.andThen]
  simp [ReflectliteValue.flagAddr, loadVar, isAgg, underlying, Tryz.underlying162, hb, Result.andThen, directP, storeVar, Value.cells, storeCells, Addr.add]
  rw [run_store Tryz.prog W ta _ _ (by rfl)]
  simp [ht, hf]

theorem noAsE (v : Value) (xT : TypeId) (w : World) : (Instr.typeAssert (.iface 458 v) xT 343 true).run Tryz.prog w = .ok (.tuple #[.nilIface, .bool false]) w := run_typeAssert_lacksB Tryz.underlying343 (by kernel_rfl) (by kernel_rfl) v xT w
theorem asNoUnwrapE (v : Value) (xT : TypeId) (w : World) : (Instr.typeAssert (.iface 458 v) xT 338 true).run Tryz.prog w = .ok (.tuple #[.nilIface, .bool false]) w := run_typeAssert_lacksB Tryz.underlying338 (by kernel_rfl) (by kernel_rfl) v xT w
theorem asNoUnwrapsE (v : Value) (xT : TypeId) (w : World) : (Instr.typeAssert (.iface 458 v) xT 339 true).run Tryz.prog w = .ok (.tuple #[.nilIface, .bool false]) w := run_typeAssert_lacksB Tryz.underlying339 (by kernel_rfl) (by kernel_rfl) v xT w

set_option maxHeartbeats 4000000 in
theorem as_hit (e t : Addr) (old : Value) (w : World) (hg : w.cell? ⟨12, 0, none⟩ = some (.iface 333 (.agg #[.pointer (some ⟨18, 92, none⟩)]))) (ht0 : w.cell? t = some old) (hf0 : w.frozen? t = false) :
    Calls Tryz.prog 79 #[.iface 162 (.pointer (some e)), .iface 164 (.pointer (some t))] w fun ev w' => ev = .returned (.bool true) ∧ w' = ((((w.alloc (.cells #[.pointer (some t)] 164)).alloc (.cells #[.pointer (some ⟨18, 164, none⟩), .pointer (some ⟨w.heap.size, 0, none⟩), .int .u64 150] 247)).alloc (.cells #[.pointer (some ⟨18, 164, none⟩), .pointer (some ⟨w.heap.size, 0, none⟩), .int .u64 150] 247)).alloc (.cells #[.pointer (some e)] 162)).setCell t (.pointer (some e)) := by
  have h6 := @run_callFunc_extern Tryz.prog 135 _ (fun args => ReflectliteValue.unpack (args.getD 0 (.tuple #[]))) Tryz.func135 (by kernel_rfl) (by kernel_rfl) (by kernel_rfl) (by kernel_rfl)
  have h7 := @run_callFunc_extern Tryz.prog 136 _ (ReflectliteValue.methodAny (ReflectliteValue.valueError "reflectlite.Value.Type" 0) (fun t _ _ _ => ReflectliteType.toType t)) Tryz.func136 (by kernel_rfl) (by kernel_rfl) (by kernel_rfl) (by kernel_rfl)
  have h8 := @run_callFunc_extern Tryz.prog 137 _ (ReflectliteValue.method (ReflectliteValue.valueError "reflectlite.Value.IsNil" 0) ReflectliteValue.isNil) Tryz.func137 (by kernel_rfl) (by kernel_rfl) (by kernel_rfl) (by kernel_rfl)
  have h27 := @run_callFunc_extern Tryz.prog 341 _ (ReflectliteType.abiMethod fun t => do pure (.int .u8 (← Rtype.kind t))) Tryz.func341 (by kernel_rfl) (by kernel_rfl) (by kernel_rfl) (by kernel_rfl)
  have h37 := @run_callFunc_extern Tryz.prog 353 _ (ReflectliteType.method ReflectliteType.elem) Tryz.func353 (by kernel_rfl) (by kernel_rfl) (by kernel_rfl) (by kernel_rfl)
  have h38 := @run_callFunc_extern Tryz.prog 354 _ (ReflectliteType.relation "Implements" ReflectliteType.implements_) Tryz.func354 (by kernel_rfl) (by kernel_rfl) (by kernel_rfl) (by kernel_rfl)
  have h10 := @run_callFunc_extern Tryz.prog 133 _ ReflectliteType.typeOf Tryz.func133 (by kernel_rfl) (by kernel_rfl) (by kernel_rfl) (by kernel_rfl)
  have h35 := @run_callFunc_extern Tryz.prog 351 _ (ReflectliteType.relation "AssignableTo" ReflectliteType.assignableTo) Tryz.func351 (by kernel_rfl) (by kernel_rfl) (by kernel_rfl) (by kernel_rfl)
  have h11 := @run_callFunc_extern Tryz.prog 206 _ (ReflectliteValue.method (ReflectliteValue.valueError "reflectlite.Value.Elem" 0) ReflectliteValue.elem) Tryz.func206 (by kernel_rfl) (by kernel_rfl) (by kernel_rfl) (by kernel_rfl)
  have h12 := @run_callFunc_extern Tryz.prog 207 _ ReflectliteValue.set Tryz.func207 (by kernel_rfl) (by kernel_rfl) (by kernel_rfl) (by kernel_rfl)
  have tO := typeOfP
  have mA := methodAssignableTo
  have a25 := assignableP
  have v25 := valueOfP
  have f6 := valueOfPP
  have f7 := typePP
  have mK := methodKind
  have mE := methodElem
  have mI := methodImplements
  have k27 := kindPP
  have k25 := kindP
  have e27 := elemPP
  have i25 := implementsP
  have n8 := isNilPP ⟨w.heap.size, 0, none⟩ t ((w.alloc (.cells #[.pointer (some t)] 164)).alloc (.cells #[.pointer (some ⟨18, 164, none⟩), .pointer (some ⟨w.heap.size, 0, none⟩), .int .u64 150] 247)) (by simp)
  have hlt : 12 < w.heap.size := by
    rcases Nat.lt_or_ge 12 w.heap.size with h | h
    · exact h
    · simp [World.cell?, Array.getElem?_eq_none h] at hg
  have hg2 : ((w.alloc (.cells #[.pointer (some t)] 164)).alloc (.cells #[.pointer (some ⟨18, 164, none⟩), .pointer (some ⟨w.heap.size, 0, none⟩), .int .u64 150] 247)).cell? ⟨12, 0, none⟩ = some (.iface 333 (.agg #[.pointer (some ⟨18, 92, none⟩)])) := by
    rw [World.cell?_alloc_lt _ _ ⟨12, 0, none⟩ (by simp; omega), World.cell?_alloc_lt _ _ ⟨12, 0, none⟩ hlt]; exact hg
  have htl : t.block < w.heap.size := by
    rcases Nat.lt_or_ge t.block w.heap.size with h | h
    · exact h
    · simp [World.cell?, Array.getElem?_eq_none h] at ht0
  have el := elemVPP ⟨w.heap.size, 0, none⟩ t (((w.alloc (.cells #[.pointer (some t)] 164)).alloc (.cells #[.pointer (some ⟨18, 164, none⟩), .pointer (some ⟨w.heap.size, 0, none⟩), .int .u64 150] 247)).alloc (.cells #[.pointer (some ⟨18, 164, none⟩), .pointer (some ⟨w.heap.size, 0, none⟩), .int .u64 150] 247)) (by rw [World.cell?_alloc_lt _ _ ⟨w.heap.size, 0, none⟩ (by simp; omega)]; simp)
  have st := setP t ⟨w.heap.size + 1 + 1 + 1, 0, none⟩ e old ((((w.alloc (.cells #[.pointer (some t)] 164)).alloc (.cells #[.pointer (some ⟨18, 164, none⟩), .pointer (some ⟨w.heap.size, 0, none⟩), .int .u64 150] 247)).alloc (.cells #[.pointer (some ⟨18, 164, none⟩), .pointer (some ⟨w.heap.size, 0, none⟩), .int .u64 150] 247)).alloc (.cells #[.pointer (some e)] 162))
    (by rw [World.cell?_alloc_at _ _ _ _ (by simp)]; rfl)
    (by rw [World.cell?_alloc_lt _ _ t (by simp; omega), World.cell?_alloc_lt _ _ t (by simp; omega), World.cell?_alloc_lt _ _ t (by simp; omega), World.cell?_alloc_lt _ _ t htl]; exact ht0)
    (by rw [World.frozen?_alloc_old _ _ t (by simp; omega), World.frozen?_alloc_old _ _ t (by simp; omega), World.frozen?_alloc_old _ _ t (by simp; omega), World.frozen?_alloc_old _ _ t (Nat.ne_of_lt htl)]; exact hf0)
  go_enter Tryz.func79, Tryz.ntmps79
  go_wp2
  refine wp_loop_rounds 1 ?_
  rw [rounds_succ]
  go_wp2
  go_ret
  exact ⟨rfl, rfl⟩

set_option maxHeartbeats 4000000 in
theorem as_miss (e t : Addr) (w : World) (hg : w.cell? ⟨12, 0, none⟩ = some (.iface 333 (.agg #[.pointer (some ⟨18, 92, none⟩)]))) :
    Calls Tryz.prog 79 #[.iface 458 (.pointer (some e)), .iface 164 (.pointer (some t))] w fun ev w' => ev = .returned (.bool false) ∧ w' = (((w.alloc (.cells #[.pointer (some t)] 164)).alloc (.cells #[.pointer (some ⟨18, 164, none⟩), .pointer (some ⟨w.heap.size, 0, none⟩), .int .u64 150] 247)).alloc (.cells #[.pointer (some ⟨18, 164, none⟩), .pointer (some ⟨w.heap.size, 0, none⟩), .int .u64 150] 247)) := by
  have h6 := @run_callFunc_extern Tryz.prog 135 _ (fun args => ReflectliteValue.unpack (args.getD 0 (.tuple #[]))) Tryz.func135 (by kernel_rfl) (by kernel_rfl) (by kernel_rfl) (by kernel_rfl)
  have h7 := @run_callFunc_extern Tryz.prog 136 _ (ReflectliteValue.methodAny (ReflectliteValue.valueError "reflectlite.Value.Type" 0) (fun t _ _ _ => ReflectliteType.toType t)) Tryz.func136 (by kernel_rfl) (by kernel_rfl) (by kernel_rfl) (by kernel_rfl)
  have h8 := @run_callFunc_extern Tryz.prog 137 _ (ReflectliteValue.method (ReflectliteValue.valueError "reflectlite.Value.IsNil" 0) ReflectliteValue.isNil) Tryz.func137 (by kernel_rfl) (by kernel_rfl) (by kernel_rfl) (by kernel_rfl)
  have h27 := @run_callFunc_extern Tryz.prog 341 _ (ReflectliteType.abiMethod fun t => do pure (.int .u8 (← Rtype.kind t))) Tryz.func341 (by kernel_rfl) (by kernel_rfl) (by kernel_rfl) (by kernel_rfl)
  have h37 := @run_callFunc_extern Tryz.prog 353 _ (ReflectliteType.method ReflectliteType.elem) Tryz.func353 (by kernel_rfl) (by kernel_rfl) (by kernel_rfl) (by kernel_rfl)
  have h38 := @run_callFunc_extern Tryz.prog 354 _ (ReflectliteType.relation "Implements" ReflectliteType.implements_) Tryz.func354 (by kernel_rfl) (by kernel_rfl) (by kernel_rfl) (by kernel_rfl)
  have h10 := @run_callFunc_extern Tryz.prog 133 _ ReflectliteType.typeOf Tryz.func133 (by kernel_rfl) (by kernel_rfl) (by kernel_rfl) (by kernel_rfl)
  have h35 := @run_callFunc_extern Tryz.prog 351 _ (ReflectliteType.relation "AssignableTo" ReflectliteType.assignableTo) Tryz.func351 (by kernel_rfl) (by kernel_rfl) (by kernel_rfl) (by kernel_rfl)
  have tO := typeOfE
  have mA := methodAssignableTo
  have a25 := assignableE
  have f6 := valueOfPP
  have f7 := typePP
  have mK := methodKind
  have mE := methodElem
  have mI := methodImplements
  have k27 := kindPP
  have k25 := kindP
  have e27 := elemPP
  have i25 := implementsP
  have nA := noAsE
  have nU := asNoUnwrapE
  have nV := asNoUnwrapsE
  have n8 := isNilPP ⟨w.heap.size, 0, none⟩ t ((w.alloc (.cells #[.pointer (some t)] 164)).alloc (.cells #[.pointer (some ⟨18, 164, none⟩), .pointer (some ⟨w.heap.size, 0, none⟩), .int .u64 150] 247)) (by simp)
  have hlt : 12 < w.heap.size := by
    rcases Nat.lt_or_ge 12 w.heap.size with h | h
    · exact h
    · simp [World.cell?, Array.getElem?_eq_none h] at hg
  have hg2 : ((w.alloc (.cells #[.pointer (some t)] 164)).alloc (.cells #[.pointer (some ⟨18, 164, none⟩), .pointer (some ⟨w.heap.size, 0, none⟩), .int .u64 150] 247)).cell? ⟨12, 0, none⟩ = some (.iface 333 (.agg #[.pointer (some ⟨18, 92, none⟩)])) := by
    rw [World.cell?_alloc_lt _ _ ⟨12, 0, none⟩ (by simp; omega), World.cell?_alloc_lt _ _ ⟨12, 0, none⟩ hlt]; exact hg
  go_enter Tryz.func79, Tryz.ntmps79
  go_wp2
  refine wp_loop_rounds 1 ?_
  rw [rounds_succ]
  go_wp2
  go_ret
  exact ⟨rfl, rfl⟩
end Go.Proofs.YtapijhhmjjplmaaGreatDoor
namespace Go.Proofs.YtapijhhmjjplmaaGreatDoor
open Go.RowKit Go.Extern.Stop Go.Stop Go.Extern

/-- The value of the reason at 'a'. -/
abbrev rv (a : Addr) : Value := .iface 458 (.pointer (some a))

/-- What the reasons' variables hold: twelve pointers to strings that are not empty, no two alike; and errors' own variable. -/
structure Sent (w : World) (a : Nat → Addr) : Prop where
  v0 : w.cell? ⟨0, 0, none⟩ = some (rv (a 0))
  v1 : w.cell? ⟨1, 0, none⟩ = some (rv (a 1))
  v2 : w.cell? ⟨2, 0, none⟩ = some (rv (a 2))
  v3 : w.cell? ⟨3, 0, none⟩ = some (rv (a 3))
  v4 : w.cell? ⟨4, 0, none⟩ = some (rv (a 4))
  v5 : w.cell? ⟨5, 0, none⟩ = some (rv (a 5))
  v6 : w.cell? ⟨6, 0, none⟩ = some (rv (a 6))
  v7 : w.cell? ⟨7, 0, none⟩ = some (rv (a 7))
  v8 : w.cell? ⟨8, 0, none⟩ = some (rv (a 8))
  v9 : w.cell? ⟨9, 0, none⟩ = some (rv (a 9))
  v10 : w.cell? ⟨10, 0, none⟩ = some (rv (a 10))
  v11 : w.cell? ⟨11, 0, none⟩ = some (rv (a 11))
  row : ∀ j, j < 12 → ∃ c t, w.heap[(a j).block]? = some (.cells c t (0, 0))
  text : ∀ j, j < 12 → ∃ s : ByteArray, w.cell? (a j) = some (.string s) ∧ 0 < s.size ∧ s.size < 1000
  inj : ∀ i j, i < 12 → j < 12 → i ≠ j → a i ≠ a j
  ty : w.cell? ⟨12, 0, none⟩ = some (.iface 333 (.agg #[.pointer (some ⟨18, 92, none⟩)]))

theorem cell_lt {w : World} {p : Addr} {v : Value} (h : w.cell? p = some v) : p.block < w.heap.size := by
  rcases Nat.lt_or_ge p.block w.heap.size with h' | h'
  · exact h'
  · simp [World.cell?, Array.getElem?_eq_none h'] at h

theorem cell_on {B : Nat} {w w' : World} (hb : Below B w w') {p : Addr} {v : Value} (h : w.cell? p = some v) (hp : p.block < B) : w'.cell? p = some v := by
  rw [hb.cell hp]; exact h

theorem Sent.on {w w' : World} {a : Nat → Addr} (h : Sent w a) (hb : Below w.heap.size w w') : Sent w' a where
  v0 := cell_on hb h.v0 (cell_lt h.v0)
  v1 := cell_on hb h.v1 (cell_lt h.v1)
  v2 := cell_on hb h.v2 (cell_lt h.v2)
  v3 := cell_on hb h.v3 (cell_lt h.v3)
  v4 := cell_on hb h.v4 (cell_lt h.v4)
  v5 := cell_on hb h.v5 (cell_lt h.v5)
  v6 := cell_on hb h.v6 (cell_lt h.v6)
  v7 := cell_on hb h.v7 (cell_lt h.v7)
  v8 := cell_on hb h.v8 (cell_lt h.v8)
  v9 := cell_on hb h.v9 (cell_lt h.v9)
  v10 := cell_on hb h.v10 (cell_lt h.v10)
  v11 := cell_on hb h.v11 (cell_lt h.v11)
  row := fun j hj => by
    obtain ⟨c, t, hc⟩ := h.row j hj
    obtain ⟨s, hs, _⟩ := h.text j hj
    exact ⟨c, t, by rw [hb.block _ (cell_lt hs)]; exact hc⟩
  text := fun j hj => by
    obtain ⟨s, hs, h1, h2⟩ := h.text j hj
    exact ⟨s, cell_on hb hs (cell_lt hs), h1, h2⟩
  inj := h.inj
  ty := cell_on hb h.ty (cell_lt h.ty)

/-- The list of the reasons, as a block. -/
def reasons (a : Nat → Addr) : Array Value := #[rv (a 0), rv (a 1), rv (a 2), rv (a 3), rv (a 4), rv (a 5), rv (a 6), rv (a 7), rv (a 8), rv (a 9), rv (a 10), rv (a 11)]
theorem reasons_at (a : Nat → Addr) (j : Nat) (hj : j < 12) : (reasons a)[j]? = some (rv (a j)) := by
  match j, hj with
  | 0, _ => rfl
  | 1, _ => rfl
  | 2, _ => rfl
  | 3, _ => rfl
  | 4, _ => rfl
  | 5, _ => rfl
  | 6, _ => rfl
  | 7, _ => rfl
  | 8, _ => rfl
  | 9, _ => rfl
  | 10, _ => rfl
  | 11, _ => rfl

theorem as_hit2 (e t : Addr) (old : Value) (w : World) (hg : w.cell? ⟨12, 0, none⟩ = some (.iface 333 (.agg #[.pointer (some ⟨18, 92, none⟩)]))) (ht0 : w.cell? t = some old) (hf0 : w.frozen? t = false) :
    Calls Tryz.prog 79 #[.iface 162 (.pointer (some e)), .iface 164 (.pointer (some t))] w fun ev w' => ev = .returned (.bool true) ∧ Below t.block w w' ∧ w'.cell? t = some (.pointer (some e)) := by
  refine (as_hit e t old w hg ht0 hf0).mono fun ev w' ⟨he, hw⟩ => ?_
  have htl := cell_lt ht0
  subst hw
  refine ⟨he, ?_, ?_⟩
  · exact (((((Below.refl _ _).alloc (by omega) _).alloc (by simp; omega) _).alloc (by simp; omega) _).alloc (by simp; omega) _).setCell (Nat.le_refl _) _
  · refine World.cell?_setCell_same (u := old) _ _ _ ?_
    rw [World.cell?_alloc_lt _ _ t (by simp; omega), World.cell?_alloc_lt _ _ t (by simp; omega), World.cell?_alloc_lt _ _ t (by simp; omega), World.cell?_alloc_lt _ _ t htl]; exact ht0

theorem as_miss2 (e t : Addr) (w : World) (hg : w.cell? ⟨12, 0, none⟩ = some (.iface 333 (.agg #[.pointer (some ⟨18, 92, none⟩)]))) :
    Calls Tryz.prog 79 #[.iface 458 (.pointer (some e)), .iface 164 (.pointer (some t))] w fun ev w' => ev = .returned (.bool false) ∧ Below w.heap.size w w' := by
  refine (as_miss e t w hg).mono fun ev w' ⟨he, hw⟩ => ?_
  subst hw
  exact ⟨he, (((Below.refl _ _).alloc (by omega) _).alloc (by simp) _).alloc (by simp; omega) _⟩
end Go.Proofs.YtapijhhmjjplmaaGreatDoor
namespace Go.Proofs.YtapijhhmjjplmaaGreatDoor
open Go.RowKit Go.Extern.Stop Go.Stop Go.Extern

set_option maxHeartbeats 1000000 in
theorem number_bare (k : Nat) (hk : k < 12) (a : Nat → Addr) (w : World) (S : Sent w a) :
    Calls Tryz.prog 43 #[rv (a k)] w fun e w' => e = .returned (.tuple #[.int .i64 ((k : Int) + 1), .int .i64 (-1)]) ∧ Below w.heap.size w w' := by
  have q0 := S.v0
  have q1 := S.v1
  have q2 := S.v2
  have q3 := S.v3
  have q4 := S.v4
  have q5 := S.v5
  have q6 := S.v6
  have q7 := S.v7
  have q8 := S.v8
  have q9 := S.v9
  have q10 := S.v10
  have q11 := S.v11
  go_enter Tryz.func43, Tryz.ntmps43
  go_wp2
  go_loopw [4, 24] (fun n i wr => ∃ m : Nat, m ≤ 12 ∧ i = .int .i64 m ∧ (m ≤ k ∧ n = .int .i64 0 ∨ k < m ∧ n = .int .i64 ((k : Int) + 1)) ∧ Below w.heap.size w wr ∧ w.heap.size < wr.heap.size ∧ ∀ j, j < 12 → wr.cell? ⟨w.heap.size, j, none⟩ = some (rv (a j)))
    (fun _ i _ => 12 - (intOf i).toNat)
  case atStart =>
    refine ⟨0, by omega, rfl, .inl ⟨by omega, rfl⟩, (Below.refl _ _).alloc (by omega) _, by simp, fun j hj => ?_⟩
    rw [World.cell?_alloc_at _ _ _ _ rfl]
    exact reasons_at a j hj
  case round =>
    obtain ⟨m, hm, rfl, hn, hb, hsz, hc⟩ := hrel
    by_cases hlt : m < 12
    · have hcm := hc m hlt
      by_cases hmk : m = k
      · subst hmk
        obtain ⟨_, rfl⟩ : m ≤ m ∧ u4 = .int .i64 0 := by
          rcases hn with h | h
          · exact h
          · omega
        clear hn
        go_wp2_with (go_at_call 78; refine (is_same _ _).mono ?_; rintro e w' ⟨rfl, rfl⟩)
        go_roundw
        case rel => exact ⟨m + 1, by omega, by go_num, .inr ⟨by omega, rfl⟩, hb, hsz, hc⟩
        case measure => simp [intOf]; omega
      · obtain ⟨c1, t1, hr1⟩ := (S.on hb).row k hk
        obtain ⟨c2, t2, hr2⟩ := (S.on hb).row m hlt
        have hne : a k ≠ a m := S.inj k m hk hlt (Ne.symm hmk)
        go_wp2_with (go_at_call 78; refine (is_other (a k) (a m) c1 c2 t1 t2 _ hne hr1 hr2).mono ?_; rintro e w' ⟨rfl, rfl⟩)
        go_roundw
        case rel =>
          refine ⟨m + 1, by omega, by go_num, ?_, hb, hsz, hc⟩
          rcases hn with h | h
          · exact .inl ⟨by omega, h.2⟩
          · exact .inr ⟨by omega, h.2⟩
        case measure => simp [intOf]; omega
    · obtain ⟨_, rfl⟩ : k < m ∧ u4 = .int .i64 ((k : Int) + 1) := by
        rcases hn with h | h
        · omega
        · exact h
      clear hn hc
      have hty := ((S.on hb).on ((Below.refl _ _).alloc (by omega) (.cells #[.pointer none] 162))).ty
      have hz : ((k : Int) + 1 == 0) = false := by simp; omega
      go_wp2_with (go_at_call 79; refine (as_miss2 _ _ _ hty).mono ?_; rintro e w' ⟨rfl, hw⟩)
      go_ret2
      refine ⟨rfl, hb.trans ?_⟩
      exact (((Below.refl wr.heap.size wr).alloc (Nat.le_refl _) _).trans (hw.mono (by simp))).mono (by omega)

set_option maxHeartbeats 1000000 in
theorem number_fault (k : Nat) (hk : k < 12) (a : Nat → Addr) (pb : Nat) (at_ : Int) (w : World) (S : Sent w a) (hat : w.cell? ⟨pb, 0, none⟩ = some (.int .i64 at_)) (her : w.cell? ⟨pb, 1, none⟩ = some (rv (a k))) :
    Calls Tryz.prog 43 #[.iface 162 (.pointer (some ⟨pb, 0, none⟩))] w fun e w' => e = .returned (.tuple #[.int .i64 ((k : Int) + 1), .int .i64 at_]) ∧ Below w.heap.size w w' := by
  have q0 := S.v0
  have q1 := S.v1
  have q2 := S.v2
  have q3 := S.v3
  have q4 := S.v4
  have q5 := S.v5
  have q6 := S.v6
  have q7 := S.v7
  have q8 := S.v8
  have q9 := S.v9
  have q10 := S.v10
  have q11 := S.v11
  have hpb : pb < w.heap.size := cell_lt hat
  go_enter Tryz.func43, Tryz.ntmps43
  go_wp2
  go_loopw [4, 24] (fun n i wr => ∃ m : Nat, m ≤ 12 ∧ i = .int .i64 m ∧ (m ≤ k ∧ n = .int .i64 0 ∨ k < m ∧ n = .int .i64 ((k : Int) + 1)) ∧ Below w.heap.size w wr ∧ w.heap.size < wr.heap.size ∧ ∀ j, j < 12 → wr.cell? ⟨w.heap.size, j, none⟩ = some (rv (a j)))
    (fun _ i _ => 12 - (intOf i).toNat)
  case atStart =>
    refine ⟨0, by omega, rfl, .inl ⟨by omega, rfl⟩, (Below.refl _ _).alloc (by omega) _, by simp, fun j hj => ?_⟩
    rw [World.cell?_alloc_at _ _ _ _ rfl]
    exact reasons_at a j hj
  case round =>
    obtain ⟨m, hm, rfl, hn, hb, hsz, hc⟩ := hrel
    have hat' := cell_on hb hat hpb
    have her' := cell_on hb her hpb
    by_cases hlt : m < 12
    · have hcm := hc m hlt
      by_cases hmk : m = k
      · subst hmk
        obtain ⟨_, rfl⟩ : m ≤ m ∧ u4 = .int .i64 0 := by
          rcases hn with h | h
          · exact h
          · omega
        clear hn
        go_wp2_with (go_at_call 78; refine (is_wrap_same pb 0 _ _ her').mono ?_; rintro e w' ⟨rfl, rfl⟩)
        go_roundw
        case rel => exact ⟨m + 1, by omega, by go_num, .inr ⟨by omega, rfl⟩, hb, hsz, hc⟩
        case measure => simp [intOf]; omega
      · obtain ⟨c1, t1, hr1⟩ := (S.on hb).row k hk
        obtain ⟨c2, t2, hr2⟩ := (S.on hb).row m hlt
        have hne : a k ≠ a m := S.inj k m hk hlt (Ne.symm hmk)
        go_wp2_with (go_at_call 78; refine (is_wrap_other pb 0 (a m) (a k) c1 c2 t1 t2 _ her' hne hr1 hr2).mono ?_; rintro e w' ⟨rfl, rfl⟩)
        go_roundw
        case rel =>
          refine ⟨m + 1, by omega, by go_num, ?_, hb, hsz, hc⟩
          rcases hn with h | h
          · exact .inl ⟨by omega, h.2⟩
          · exact .inr ⟨by omega, h.2⟩
        case measure => simp [intOf]; omega
    · obtain ⟨_, rfl⟩ : k < m ∧ u4 = .int .i64 ((k : Int) + 1) := by
        rcases hn with h | h
        · omega
        · exact h
      clear hn hc
      have hty := ((S.on hb).on ((Below.refl _ _).alloc (by omega) (.cells #[.pointer none] 162))).ty
      have hz : ((k : Int) + 1 == 0) = false := by simp; omega
      have hnew : (wr.alloc (.cells #[.pointer none] 162)).cell? ⟨wr.heap.size, 0, none⟩ = some (.pointer none) := by simp
      have hfro : (wr.alloc (.cells #[.pointer none] 162)).frozen? ⟨wr.heap.size, 0, none⟩ = false := by simp
      have hp2 : pb < wr.heap.size := Nat.lt_trans hpb hsz
      have hbA := (Below.refl wr.heap.size wr).alloc (Nat.le_refl _) (.cells #[.pointer none] 162)
      go_wp2_with fail
      refine (as_hit2 _ _ (.pointer none) _ hty hnew hfro).mono ?_
      rintro e w' ⟨rfl, hw, hcl⟩
      have hbW : Below wr.heap.size wr w' := hbA.trans hw
      have hat2 : w'.cell? ⟨pb, 0, none⟩ = some (.int .i64 at_) := cell_on hbW hat' hp2
      have HB : Hid (Below w.heap.size w w') := hb.trans (hbW.mono (by omega))
      clear hbW hw hbA hb hat' her' hty hnew hfro q0 q1 q2 q3 q4 q5 q6 q7 q8 q9 q10 q11 hat her
      go_wp2
      go_quiet (fail)
      all_goals (try go_wp2)
      all_goals go_ret2
      all_goals exact ⟨rfl, HB.out.trans ⟨rfl, rfl, rfl, Nat.le_refl _, fun _ _ => rfl⟩⟩
end Go.Proofs.YtapijhhmjjplmaaGreatDoor
