/- OWN TEXT: the program's disk: what Write does. -/
import Derived.Test.YtphhmjcobmnpeaaGreatDoorPD7a
namespace Go.Proofs.YtphhmjcobmnpeaaGreatDoor
open Go.RowKit Go.Maps

/-- A write that is not filled yet. -/
def wr0 (k : Nat) : Array Value := (Value.int .i64 (k : Int) :: List.replicate 64 (Value.int .u8 0)).toArray
/-- A write. -/
def wrE (k : Nat) (s : ByteArray) : Array Value := (Value.int .i64 (k : Int) :: bcells s.data.toList).toArray
theorem wr0_size (k : Nat) : (wr0 k).size = 65 := by simp [wr0]
theorem wr0_one (k : Nat) : (wr0 k).all (·.oneCell') = true := by
  rw [Array.all_eq_true_iff_forall_mem]
  intro v hv
  unfold wr0 at hv
  rcases List.mem_cons.1 (by simpa using hv : v ∈ Value.int .i64 (k : Int) :: List.replicate 64 (Value.int .u8 0)) with rfl | hv
  · rfl
  · rw [List.eq_of_mem_replicate hv]; rfl

set_option maxRecDepth 100000 in
set_option maxHeartbeats 1000000 in
theorem write1 (bd gs bm m : Nat) (S : Nat → Prop) (wv : Value) (d : Dsk) (pa ps pd : Addr) (k : Nat) (s : ByteArray) (w : World) (h : DskV w S 1 bd gs bm m wv d)
    (ha : w.cell? pa = some (.int .i64 (k : Int))) (hs : w.cell? ps = some (.string s)) (hd : w.cell? pd = some (.pointer (some ⟨bd, 0, none⟩))) (na : ¬ S pa.block) (nd : ¬ S pd.block)
    (hk : k < d.safe.length) (hs64 : s.size = 64) (hwl : d.wait.length ≤ 1000000) (hm : m ≤ 1000000) (hn : d.safe.length ≤ 4096) :
    Calls Tryz.prog 101 #[.pointer (some pa), .pointer (some ps), .pointer (some pd)] w fun e w' => e = .returned (.tuple #[]) ∧ (∃ gs' bm' wv', DskV w' (fun g => S g ∨ w.heap.size ≤ g) 1 bd gs' bm' (m + 1) wv' { d with wait := d.wait ++ [(k, s)] }) ∧ Same S w w' := by
  obtain ⟨C, hC⟩ : ∃ C, C = bcells s.data.toList := ⟨_, rfl⟩
  have hsl : s.data.toList.length = 64 := by rw [Array.length_toList]; exact hs64
  have hCl : C.length = 64 := by rw [hC, bcells_length]; exact hsl
  have HI0 : Hid ((Tryz.prog.info? 201).map (·.size) = some (wr0 k).size) := by show _ = _; rw [wr0_size]; kernel_rfl
  have HZ0 : Hid (∀ Z : Array Value, Z.size = 65 → Z.size = (wr0 k).size) := fun Z hz => hz.trans (wr0_size k).symm
  have HO0 : Hid ((wr0 k).all (·.oneCell') = true) := wr0_one k
  have HV : Hid (DskV w S 1 bd gs bm m wv d) := h
  have HA : Hid (w.cell? pa = some (.int .i64 (k : Int))) := ha
  have HSS : Hid (w.cell? ps = some (.string s)) := hs
  have HDD : Hid (w.cell? pd = some (.pointer (some ⟨bd, 0, none⟩))) := hd
  have HC : Hid (C = bcells s.data.toList) := hC
  have HCS : Hid (C = bcells (s.data.toList.take 64)) := by show _ = _; rw [List.take_of_length_le (by omega)]; exact hC
  have HIU : Hid ((Tryz.prog.info? 5).map (·.size) = some 1) := by show _ = _; kernel_rfl
  have HFIT : Hid (1 + C.length ≤ (wr0 k).size) := by show _ ≤ _; rw [wr0_size, hCl]; omega
  have HRR : Hid (((wr0 k).toList.take 1 ++ C ++ (wr0 k).toList.drop (1 + C.length)).toArray = wrE k s) := by
    show _ = _
    have e : (wr0 k).toList.drop (1 + C.length) = [] := List.drop_eq_nil_of_le (by rw [Array.length_toList, wr0_size, hCl]; omega)
    rw [e, List.append_nil, hC]
    rfl
  have HNN : Hid ((C.length : Int) = 64) := by show _ = _; rw [hCl]; rfl
  clear h hs hd hC
  go_enter Tryz.func101, Tryz.ntmps101
  go_wp2_with (refine wpList_store_rowA rfl 201 _ _ rfl w.heap.size (wr0 k) rfl rfl 201 _ (heap_alloc_new w _) HI0.out (HZ0.out _ rfl) HO0.out ?_; intro w1 hw1)
  have HB1 : Hid (Below w.heap.size w w1) := by rw [hw1.out]; exact below_row
  have hz1 : w1.heap.size = w.heap.size + 1 := by rw [hw1.out]; simp
  have HROW : Hid (w1.heap[w.heap.size]? = some (.cells (wr0 k) 201 (0, 0))) := by rw [hw1.out]; exact setRow_heap _ _ _ _ _ _ (heap_alloc_new w _)
  have cs1 : w1.cell? ps = some (.string s) := by rw [HB1.out.cell (block_lt_of_cell HSS.out)]; exact HSS.out
  clear hw1 ha
  go_frame
  go_region_law (refine step_copy_str rfl (.tmp 7) (.tmp 8) 128 9 rfl 5 Tryz.underlying128 HIU.out w.heap.size 1 64 64 s (by simp [Act.eval]) (by simp [Act.eval]) (wr0 k) 201 HROW.out C HCS.out HFIT.out (wrE k s) HRR.out 64 HNN.out ?_)
  obtain ⟨w2, hw2⟩ : ∃ w2, w2 = w1.drew.setRow w.heap.size (wrE k s) := ⟨_, rfl⟩
  rw [← hw2]
  have HB2 : Hid (Below w.heap.size w w2) := by rw [hw2]; exact below_setRow HB1.out.drew (Nat.le_refl _) _
  have hz2 : w2.heap.size = w.heap.size + 1 := by rw [hw2]; simpa using hz1
  have HROW2 : Hid (w2.heap[w.heap.size]? = some (.cells (wrE k s) 201 (0, 0))) := by rw [hw2]; exact setRow_heap _ _ _ _ _ _ HROW.out
  have hV2 := HV.out.keep HB2.out
  have cpd : w2.cell? pd = some (.pointer (some ⟨bd, 0, none⟩)) := by rw [HB2.out.cell (block_lt_of_cell HDD.out)]; exact HDD.out
  have cpa : w2.cell? pa = some (.int .i64 (k : Int)) := by rw [HB2.out.cell (block_lt_of_cell HA.out)]; exact HA.out
  have cb3 : w2.cell? ⟨bd, 3, none⟩ = some (.map (some bm)) := cell_of_row _ _ _ _ _ _ hV2.blk
  have rg2 : w2.rangeAt w.heap.size 1 C := by
    intro j v hv
    rw [cell_of_row _ _ _ _ _ _ HROW2.out]
    unfold wrE
    simp only [List.getElem?_toArray]
    rw [Nat.add_comm 1 j, List.getElem?_cons_succ, ← HC.out]
    exact hv
  have hu199 : Tryz.prog.underlying 199 = some (.array 64 5) := Tryz.underlying199
  have hi199 : (Tryz.prog.info? 199).map (·.size) = some C.length := by rw [hCl]; kernel_rfl
  have h1C : ∀ v ∈ C, v.oneCell' = true := by rw [HC.out]; exact bcells_one _
  have hmap : w2.drew.ownsMap Tryz.prog 3 heldR bm m (mapD d.wait) := ownsMap_heap hV2.rest.map rfl
  obtain ⟨w3, hup, hm3, hg3⟩ := hmap.update intKey Tryz.underlying52 (by unfold maxLen; omega) (keyOf_int_mk Tryz.underlying3 (key_wf k (by omega))) (show heldR (.agg C.toArray) = some (.held (.agg C.toArray), []) from rfl)
  have hs3 : Same (· = bm) w2.drew w3 := ⟨hg3.os, hg3.tape, hg3.output, hg3.size, fun j hj hn => hg3.block j hj (fun e => hn (Option.some.inj e))⟩
  have nm : ∀ p : Addr, ¬ S p.block → p.block ≠ bm := fun p hp e => hp (by rw [e]; exact HV.out.rest.sm)
  have cpd3 : w3.cell? pd = some (.pointer (some ⟨bd, 0, none⟩)) := hs3.cell (nm pd nd) (by rw [World.cell?_drew]; exact cpd)
  have cpa3 : w3.cell? pa = some (.int .i64 (k : Int)) := hs3.cell (nm pa na) (by rw [World.cell?_drew]; exact cpa)
  have hbb3 := (hs3.block bd (lt_of_heap' hV2.blk) HV.out.rest.n2).trans hV2.blk
  have cb33 : w3.cell? ⟨bd, 3, none⟩ = some (.map (some bm)) := cell_of_row _ _ _ _ _ _ hbb3
  have hnbm : w.heap.size ≠ bm := fun e => by have := ownsMap_lt HV.out.rest.map; omega
  have hrow3 := (hs3.block w.heap.size (by show w.heap.size < w2.heap.size; omega) hnbm).trans HROW2.out
  have rg3 : w3.rangeAt w.heap.size 1 C := by
    intro j v hv
    rw [cell_of_row _ _ _ _ _ _ hrow3, ← cell_of_row _ _ _ _ _ _ HROW2.out]
    exact rg2 j v hv
  have HV2' : Hid (DskV w2 S 1 bd gs bm m wv d) := hV2
  have HM3 : Hid (w3.ownsMap Tryz.prog 3 heldR bm (m + 1) ((mapD d.wait).put (.int .i64 (k : Int)) (.held (.agg C.toArray)))) := hm3
  have HS3 : Hid (Same (· = bm) w2.drew w3) := hs3
  have HROW3 : Hid (w3.heap[w.heap.size]? = some (.cells (wrE k s) 201 (0, 0))) := hrow3
  have HBB3 : Hid (w3.heap[bd]? = some (.cells (dskRow 1 gs d.safe.length bm wv d.fuse d.down) 62 (0, 0))) := hbb3
  clear hV2 hm3 hg3 hs3 hrow3 hbb3 hmap hw2 HROW HROW2 nm
  go_wp2
  go_region_held3 (fun w' => w'.cell? pd = some (.pointer (some ⟨bd, 0, none⟩)) ∧ w'.cell? pa = some (.int .i64 (k : Int)) ∧ w'.cell? ⟨bd, 3, none⟩ = some (.map (some bm)) ∧ w'.rangeAt w.heap.size 1 C) ((go_split_ands; ((repeat' constructor) <;> first | assumption | (rw [World.cell?_drew]; assumption) | (rw [World.rangeAt_drew]; assumption)))) (fail)
  go_wp2
  have hV := HV2'.out
  have hold := HV.out
  have hz3 : w2.heap.size ≤ w3.heap.size := HS3.out.size
  have hb3 : bd < w3.heap.size := lt_of_heap' HBB3.out
  have hbm3 : bm < w3.heap.size := ownsMap_lt HM3.out
  have hd1 := hold.rest.d1
  have hown3 : w3.ownsRow 0 201 65 wv d.wait.length (wrs d.wait) := own_heap hV.rest.wait.1 (fun g hg => HS3.out.block g (hV.rest.wait.lt hg) (hd1 g hg).2.2)
  refine w1_region _ bd w.heap.size pd (.int .i64 (k : Int) :: C) wv d.wait.length (wrs d.wait) _ (fun _ _ d _ _ h => by cases d <;> exact h) _ _ _ _ _ _ _ _ _ _ _ _ _ _ _ _ w3 cpd3 ?_ _ _ HBB3.out (cell_of_row _ _ _ _ _ _ HBB3.out) (fun e => nd (by rw [e]; exact hold.rest.sb)) (fun e => by have := lt_of_heap' hold.blk; omega) hown3 (by simp [hCl]) ?_ hwl (fun e => (hd1 bd e).1 rfl) (fun e => by have := hold.rest.wait.lt e; omega) (fun e => nd (hold.rest.wait.2 _ e)) ?_ ?_
  · intro j v hv
    rw [cell_of_row _ _ _ _ _ _ HROW3.out]
    unfold wrE
    rw [← HC.out]
    simpa using hv
  · intro u hu
    rcases List.mem_cons.1 hu with rfl | hu
    · rfl
    · exact h1C u hu
  · obtain ⟨-, ⟨h, -⟩ | ⟨g, c, cur, h, -⟩⟩ := hown3
    · exact ⟨_, _, _, h⟩
    · exact ⟨_, _, _, h⟩
  intro g' c' w' h2 h3 h5 a' ha
  have hzw : w3.heap.size + 1 ≤ w'.heap.size := by have := h3.size; simpa using this
  have hkeep : ∀ g, g < w3.heap.size → wv.ownBlock ≠ some g → w'.heap[g]? = w3.heap[g]? := fun g hg ho => by
    rw [h3.block g (by simp; omega) (fun e => ho e.symm), Below.heap_alloc _ _ _ (by simpa using hg)]
    rfl
  have hbe : w'.heap[bd]? = some (.cells (dskRow 1 gs d.safe.length bm wv d.fuse d.down) 62 (0, 0)) := (hkeep bd hb3 (fun e => (hd1 bd e).1 rfl)).trans HBB3.out
  have hnew : ∀ g, g < w3.heap.size → wv.ownBlock ≠ some g → g' ≠ g := fun g hg ho e => by
    rcases h5 with h | h
    · exact ho (by rw [← h, e])
    · omega
  have hgs3 : gs < w3.heap.size := by have := lt_of_heap' hV.rest.sec; omega
  refine ⟨ha, .tuple #[], by simp [results, Tryz.f101], rfl, ⟨gs, bm, .slice (some ⟨g', 0, none⟩) (d.wait.length + 1) c', ?_, ?_⟩, ?_⟩
  · rw [heap_setCell_same w' bd 4 _ _ _ hbe]
    rfl
  · refine ⟨?_, ?_, ⟨?_, ?_⟩, .inl hold.rest.sb, .inl hold.rest.ss, .inl hold.rest.sm, hold.rest.n1, hold.rest.n2, hold.rest.n3, ?_, hold.rest.v1, ?_⟩
    · rw [heap_setCell_other _ _ _ _ (fun e => hold.rest.n1 e.symm), hkeep gs hgs3 (fun e => (hd1 gs e).2.1 rfl), HS3.out.block gs (lt_of_heap' hV.rest.sec) hold.rest.n3]
      exact hV.rest.sec
    · have hm := HM3.out
      rw [HC.out] at hm
      have e : mapD (d.wait ++ [(k, s)]) = (mapD d.wait).put (.int .i64 (k : Int)) (.held (.agg (bcells s.data.toList).toArray)) := mapD_snoc _ _ _
      show World.ownsMap _ _ _ _ _ _ (mapD (d.wait ++ [(k, s)]))
      rw [e]
      exact ownsMap_heap hm (by rw [heap_setCell_other _ _ _ _ (fun e => hold.rest.n2 e.symm), hkeep bm hbm3 (fun e => (hd1 bm e).2.2 rfl)])
    · have e : wrs (d.wait ++ [(k, s)]) = wrs d.wait ++ (.int .i64 (k : Int) :: C) := by rw [HC.out]; simp [wrs]
      have e2 : (d.wait ++ [(k, s)]).length = d.wait.length + 1 := by simp
      show World.ownsRow _ _ _ _ _ (List.length (d.wait ++ [(k, s)])) (wrs (d.wait ++ [(k, s)]))
      rw [e, e2]
      refine own_heap h2 (fun g hg => ?_)
      cases hg
      rw [heap_setCell_other _ _ _ _ (hnew bd hb3 (fun e => (hd1 bd e).1 rfl))]
    · intro g hg
      cases hg
      rcases h5 with h | h
      · exact .inl (hold.rest.wait.2 _ h.symm)
      · exact .inr (by show w.heap.size ≤ g'; omega)
    · intro g hg
      cases hg
      exact ⟨hnew bd hb3 (fun e => (hd1 bd e).1 rfl), hnew gs hgs3 (fun e => (hd1 gs e).2.1 rfl), hnew bm hbm3 (fun e => (hd1 bm e).2.2 rfl)⟩
    · intro x hx
      rcases List.mem_append.1 hx with hx | hx
      · exact hold.rest.v2 x hx
      · cases List.mem_singleton.1 hx
        exact ⟨hk, hs64⟩
  · have s1 : Same S w w2 := below_same S HB2.out
    have s2 : Same S w2 w3 := ⟨HS3.out.os, HS3.out.tape, HS3.out.output, HS3.out.size, fun g hg hn => HS3.out.block g hg (by rintro rfl; exact hn hold.rest.sm)⟩
    refine s1.trans (s2.trans ⟨?_, ?_, ?_, ?_, fun g hg hn => ?_⟩)
    · rw [show (w'.setCell _ _).os = w'.os from rfl, h3.os]; rfl
    · rw [show (w'.setCell _ _).tape = w'.tape from rfl, h3.tape]; rfl
    · rw [show (w'.setCell _ _).output = w'.output from rfl, h3.output]; rfl
    · simp; omega
    · rw [heap_setCell_other _ _ _ _ (by rintro rfl; exact hn hold.rest.sb), hkeep g hg (fun e => hn (hold.rest.wait.2 g e))]
end Go.Proofs.YtphhmjcobmnpeaaGreatDoor
