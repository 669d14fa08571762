/- OWN TEXT: joined of: RefD2 RefD3 RefD4. -/
import Derived.Test.YtbnokhdofkpcjaaGreatDoorJdisks7
namespace Go.Proofs.YtbnokhdofkpcjaaGreatDoor
open Go.RowKit

theorem infoWaits : (Tryz.prog.info? 310).map (fun i => (i.zero, i.size, i.bytes)) = some (some (.agg #[.int .i64 0, .string ⟨#[]⟩]), 2, 24) := by kernel_rfl
theorem Same.of_grown {S : Nat → Prop} {w w' : World} {v : Value} (h : w.grownBy w' v.ownBlock) (hv : ∀ g, v.ownBlock = some g → S g) : Same S w w' :=
  ⟨h.os, h.tape, h.output, h.size, fun k hk hn => h.block k hk (fun e => hn (hv k e.symm))⟩
theorem cells_two (w : World) (x y : Value) (t : TypeId) : ∀ j u, [x, y][j]? = some u → (w.alloc (.cells #[x, y] t)).cell? ((⟨w.heap.size, 0, none⟩ : Addr).add j) = some u := by
  intro j u hj
  match j, hj with
  | 0, hj =>
    simp at hj
    subst hj
    simp [Addr.add]
  | 1, hj =>
    simp at hj
    subst hj
    simp [Addr.add]

theorem ref_write_bad (be : Nat) (S : Nat → Prop) (r : RDsk) (at_ : Int) (s : ByteArray) (w : World) (h : RefAt w S be r) (hn : 0 < r.seen.length) (hbad : ¬ (0 ≤ at_ ∧ at_ < r.seen.length ∧ s.size = 64)) :
    Calls Tryz.prog 114 #[.pointer (some ⟨be, 0, none⟩), .int .i64 at_, .string s] w fun e w' => e = .returned (.int .i64 1) ∧ w = w' := by
  obtain ⟨sv, nv, wv, h⟩ := h
  obtain ⟨g, cap, hv, -, -, -⟩ := h.seen.open hn
  have c1 : w.cell? ⟨be, 1, none⟩ = some nv := cell_of_row _ _ _ _ _ _ h.blk
  rw [hv] at c1
  clear h
  by_cases h0 : at_ < 0
  · clear hbad
    go_enter Tryz.func114, Tryz.ntmps114
    go_wp2
    go_ret
    exact ⟨rfl, rfl⟩
  · by_cases h1 : at_ < r.seen.length
    · have h2 : ((s.size : Int) != 64) = true := by
        rw [bne_iff_ne]
        intro e
        exact hbad ⟨by omega, h1, by omega⟩
      clear hbad
      go_enter Tryz.func114, Tryz.ntmps114
      go_wp2
      go_ret
      exact ⟨rfl, rfl⟩
    · clear hbad
      go_enter Tryz.func114, Tryz.ntmps114
      go_wp2
      go_ret
      exact ⟨rfl, rfl⟩

/-- What a write leaves. -/
def RDsk.write (r : RDsk) (k : Nat) (s : ByteArray) : RDsk := if r.op.down then r.op else { r.op with seen := r.op.seen.set k s, wait := r.op.wait ++ [(k, s)] }
/-- What a write or a flush answers. -/
def RDsk.ans (r : RDsk) : Int := if r.op.down then 2 else 0
theorem op_seen (r : RDsk) : r.op.seen = r.seen := by unfold RDsk.op; split <;> rfl
theorem op_safe (r : RDsk) : r.op.safe = r.safe := by unfold RDsk.op; split <;> rfl
theorem op_wait (r : RDsk) : r.op.wait = r.wait := by unfold RDsk.op; split <;> rfl
theorem wrefs_snoc (l : List (Nat × ByteArray)) (k : Nat) (s : ByteArray) : wrefs l ++ [.int .i64 (k : Int), .string s] = wrefs (l ++ [(k, s)]) := by simp [wrefs]

set_option maxRecDepth 100000 in
set_option maxHeartbeats 1000000 in
theorem ref_write (be : Nat) (S : Nat → Prop) (r : RDsk) (k : Nat) (s : ByteArray) (w : World) (h : RefAt w S be r) (hk : k < r.seen.length) (hs : s.size = 64) (hw : r.wait.length ≤ 1000000) :
    Calls Tryz.prog 114 #[.pointer (some ⟨be, 0, none⟩), .int .i64 (k : Int), .string s] w fun e w' => e = .returned (.int .i64 r.ans) ∧ RefAt w' (fun g => S g ∨ w.heap.size ≤ g) be (r.write k s) ∧ Same S w w' := by
  have HM := ref_may be S r w h
  obtain ⟨sv0, nv0, wv0, h⟩ := h
  obtain ⟨g0, cap0, hv0, -, -, -⟩ := h.seen.open (by omega)
  have c1 : w.cell? ⟨be, 1, none⟩ = some nv0 := cell_of_row _ _ _ _ _ _ h.blk
  rw [hv0] at c1
  have HMM : Hid (Calls Tryz.prog 187 #[.pointer (some ⟨be, 0, none⟩)] w fun e w' => e = .returned (.bool (!r.op.down)) ∧ RefAt w' S be r.op ∧ Same S w w') := HM
  obtain ⟨i0, hi0, hz0, hz1, hz2⟩ := info_parts infoWaits
  have hnot : ∀ (x : Bool) (w : World), (Op.unary .not (.bool x)).run Tryz.prog w = .ok (.bool (!x)) w := fun _ _ => rfl
  have hki : (k : Int) < r.seen.length := by omega
  obtain ⟨n, hn⟩ : ∃ n, n = r.seen.length := ⟨_, rfl⟩
  rw [← hn] at hki hk c1
  have HN : Hid (n = r.seen.length) := hn
  have HW : Hid (r.wait.length ≤ 1000000) := hw
  have hsi : (s.size : Int) = 64 := by omega
  clear HM h hn hw hv0
  go_enter Tryz.func114, Tryz.ntmps114
  go_wp2_with fail
  refine HMM.out.mono ?_
  rintro e w1 ⟨rfl, ⟨sv, nv, wv, h1⟩, s1⟩
  have HS1 : Hid (Same S w w1) := s1
  cases hd : r.op.down
  · have hsn : 0 < r.op.seen.length := by rw [op_seen, ← HN.out]; omega
    obtain ⟨gn, cn, hnv, hgn, hcn, hfn⟩ := h1.seen.open hsn
    rw [hnv] at h1
    obtain ⟨z, cz⟩ : ∃ z, w1.cell? ⟨gn, k, none⟩ = some z := ⟨_, hcn k (by rw [strs_length, op_seen, ← HN.out]; exact hk)⟩
    have fz := hfn k
    have d1 : w1.cell? ⟨be, 1, none⟩ = some (.slice (some ⟨gn, 0, none⟩) r.op.seen.length cn) := cell_of_row _ _ _ _ _ _ h1.blk
    have d2 : w1.cell? ⟨be, 2, none⟩ = some wv := cell_of_row _ _ _ _ _ _ h1.blk
    have fb := frozen_of_row w1 be 2 _ _ h1.blk
    have hgb : gn ≠ be := (h1.d2 gn rfl).1
    have hlb : be < w1.heap.size := (Array.getElem?_eq_some_iff.1 h1.blk).1
    rw [op_seen, ← HN.out] at d1
    have HV : Hid (RefV w1 S be sv (.slice (some ⟨gn, 0, none⟩) r.op.seen.length cn) wv r.op) := h1
    have HGN : Hid (S gn) := hgn
    clear h1 s1 hcn hfn hsn hnv hgn
    have d2' : (w1.setCell ⟨gn, k, none⟩ (.string s)).cell? ⟨be, 2, none⟩ = some wv := by
      rw [World.cell?_setCell_other _ _ _ _ (by intro e; exact hgb (congrArg Addr.block e))]
      exact d2
    have HW2 : Hid ((w1.setCell ⟨gn, k, none⟩ (.string s)).ownsRow 0 310 2 wv r.op.wait.length (wrefs r.op.wait)) := own_heap HV.out.wait.1 (fun g hg => heap_setCell_other _ _ _ _ (by show g ≠ gn; rintro rfl; exact (HV.out.d2 g rfl).2 hg))
    have HWL : Hid (r.op.wait.length ≤ 1000000) := by rw [op_wait]; exact HW
    have HCN : Hid (∀ j u, [Value.int .i64 (k : Int), .string s][j]? = some u → ((w1.setCell ⟨gn, k, none⟩ (.string s)).alloc (.cells #[.int .i64 (k : Int), .string s] 310)).cell? ((⟨w1.heap.size, 0, none⟩ : Addr).add j) = some u) := fun j u hj => by
      have h := cells_two (w1.setCell ⟨gn, k, none⟩ (.string s)) _ _ 310 j u hj
      have e : (w1.setCell ⟨gn, k, none⟩ (.string s)).heap.size = w1.heap.size := by simp
      rw [e] at h
      exact h
    go_wp2_with (at_builtin; refine wpList_append_own_at _ rfl _ _ 147 rfl 0 310 i0 (.agg #[.int .i64 0, .string ⟨#[]⟩]) 2 24 Tryz.underlying147 hi0 hz0 hz1 hz2 rfl (by decide) _ _ _ rfl (World.ownsRow.alloc HW2.out _) _ 1 1 [.int .i64 (k : Int), .string s] rfl rfl HCN.out ?c2 ?c3 ?c4 ?c5 ?_)
    case c2 => intro u hu; simp at hu; rcases hu with rfl | rfl <;> rfl
    case c3 => have := HWL.out; unfold maxLen; omega
    case c4 => have := HWL.out; omega
    case c5 => omega
    intro v' w3 hown' hgrow _ hat
    obtain ⟨g', cap', rfl⟩ : ∃ g' cap', v' = .slice (some ⟨g', 0, none⟩) (r.op.wait.length + 1) cap' := by
      obtain ⟨-, h2 | ⟨g', cap', cur', hv', -⟩⟩ := hown'
      · omega
      · exact ⟨g', cap', hv'⟩
    have hz : w1.heap.size + 1 ≤ w3.heap.size := by have := hgrow.size; simpa using this
    have hbe : w3.heap[be]? = some (.cells (refRow sv (.slice (some ⟨gn, 0, none⟩) r.op.seen.length cn) wv r.op.left r.op.lit r.op.down) 149 (0, 0)) := by
      rw [hgrow.block be (by simp; omega) (fun e => HV.out.d3 be e.symm rfl), Below.heap_alloc _ _ _ (by simp; omega), heap_setCell_other _ _ _ _ (by show be ≠ gn; exact fun e => hgb e.symm)]
      exact HV.out.blk
    have d3 : w3.cell? ⟨be, 2, none⟩ = some wv := cell_of_row _ _ _ _ _ _ hbe
    have f3 := frozen_of_row w3 be 2 _ _ hbe
    have HOWN : Hid (w3.ownsRow 0 310 2 (.slice (some ⟨g', 0, none⟩) (r.op.wait.length + 1) cap') (r.op.wait.length + 1) (wrefs r.op.wait ++ [.int .i64 (k : Int), .string s])) := hown'
    have HGR : Hid (World.grownBy ((w1.setCell ⟨gn, k, none⟩ (.string s)).alloc (.cells #[.int .i64 (k : Int), .string s] 310)) w3 wv.ownBlock) := hgrow
    have HAT : Hid (some g' = wv.ownBlock ∨ some g' = some (w1.heap.size + 1)) := by
      show _ ∨ _
      simpa [Value.ownBlock] using hat
    have HBE : Hid (w3.heap[be]? = some (.cells (refRow sv (.slice (some ⟨gn, 0, none⟩) r.op.seen.length cn) wv r.op.left r.op.lit r.op.down) 149 (0, 0))) := hbe
    have HD : Hid (r.op.down = false) := hd
    clear hown' hgrow hat hbe hd d2 d2' HW2 HCN
    go_wp2
    go_ret
    have hV := HV.out
    have hws : ∀ g, some g' = some g → S g ∨ w.heap.size ≤ g := fun g hg => by
      rcases HAT.out with e | e
      · exact .inl (hV.wait.2 g (by rw [← e]; exact hg))
      · rw [e] at hg
        cases hg
        have := HS1.out.size
        exact .inr (by omega)
    have hold : ∀ g, g < w1.heap.size → some g' = some g → wv.ownBlock = some g := fun g hl hg => by
      rcases HAT.out with e | e
      · rw [← e]; exact hg
      · rw [e] at hg; cases hg; omega
    -- a block of the old heap that is none of the three
    have hkeep : ∀ g, g < w1.heap.size → g ≠ gn → wv.ownBlock ≠ some g → g ≠ be → (w3.setCell ⟨be, 2, none⟩ (.slice (some ⟨g', 0, none⟩) (r.op.wait.length + 1) cap')).heap[g]? = w1.heap[g]? := fun g hl h1 h2 h3 => by
      rw [heap_setCell_other _ _ _ _ h3, HGR.out.block g (by simp; omega) (fun e => h2 e.symm), Below.heap_alloc _ _ _ (by simp; omega), heap_setCell_other _ _ _ _ h1]
    have hsn : r.op.seen.length = n := by rw [op_seen, ← HN.out]
    have hwr : r.write k s = { r.op with seen := r.op.seen.set k s, wait := r.op.wait ++ [(k, s)] } := by unfold RDsk.write; rw [HD.out]; rfl
    have hans : r.ans = 0 := by unfold RDsk.ans; rw [HD.out]; rfl
    refine ⟨by rw [hans]; rfl, ⟨sv, .slice (some ⟨gn, 0, none⟩) n cn, .slice (some ⟨g', 0, none⟩) (r.op.wait.length + 1) cap', ?_⟩, ?_⟩
    · rw [hwr]
      refine ⟨?_, .inl hV.sb, ?_, ?_, ?_, ?_, ?_, ?_⟩
      · rw [heap_setCell_same w3 be 2 _ _ _ HBE.out, hsn]
        rfl
      · refine ⟨own_heap hV.safe.1 fun g hg => hkeep g (hV.safe.lt hg) ?_ (hV.d1 g hg).2.2 (hV.d1 g hg).1, fun g hg => .inl (hV.safe.2 g hg)⟩
        rintro rfl
        exact (hV.d1 g hg).2.1 rfl
      · have hseen := hV.seen.set k (.string s)
        have e1 : (strs r.op.seen).set k (.string s) = strs (r.op.seen.set k s) := by simp [strs, List.map_set]
        have e2 : (r.op.seen.set k s).length = n := by rw [List.length_set]; exact hsn
        rw [e1, hsn] at hseen
        refine ⟨?_, fun g hg => by cases hg; exact .inl HGN.out⟩
        show World.ownsRow _ _ _ _ _ (List.length (r.op.seen.set k s)) _
        rw [e2]
        refine own_heap hseen.1 fun g hg => ?_
        cases hg
        have hgl := hV.seen.lt (g := gn) rfl
        rw [heap_setCell_other _ _ _ _ hgb, HGR.out.block gn (by simp; omega) (fun e => (hV.d2 gn rfl).2 e.symm), Below.heap_alloc _ _ _ (by simp; omega)]
      · refine ⟨?_, hws⟩
        rw [wrefs_snoc] at HOWN
        have e : (r.op.wait ++ [(k, s)]).length = r.op.wait.length + 1 := by simp
        show World.ownsRow _ _ _ _ _ (List.length (r.op.wait ++ [(k, s)])) _
        rw [e]
        refine own_heap HOWN.out fun g hg => heap_setCell_other _ _ _ _ ?_
        rintro rfl
        rcases HAT.out with e | e
        · exact hV.d3 g (by rw [← e]; exact hg) rfl
        · have hg' : some g' = some g := hg
          rw [e] at hg'
          cases hg'
          omega
      · intro g hg
        have hgl := hV.safe.lt hg
        refine ⟨(hV.d1 g hg).1, (hV.d1 g hg).2.1, fun h => (hV.d1 g hg).2.2 (hold g hgl h)⟩
      · intro g hg
        cases hg
        have hgl := hV.seen.lt (g := gn) rfl
        exact ⟨hgb, fun h => (hV.d2 gn rfl).2 (hold gn hgl h)⟩
      · rintro g hg rfl
        exact hV.d3 g (hold g hlb hg) rfl
    · refine HS1.out.trans ?_
      refine ⟨by rw [show (w3.setCell _ _).os = w3.os from rfl, HGR.out.os]; rfl, by rw [show (w3.setCell _ _).tape = w3.tape from rfl, HGR.out.tape]; rfl, by rw [show (w3.setCell _ _).output = w3.output from rfl, HGR.out.output]; rfl, by simp; omega, fun g hl hg => ?_⟩
      exact hkeep g hl (by rintro rfl; exact hg HGN.out) (fun e => hg (hV.wait.2 g e)) (by rintro rfl; exact hg hV.sb)
  · have HV : Hid (RefAt w1 S be r.op) := ⟨sv, nv, wv, h1⟩
    have HD : Hid (r.op.down = true) := hd
    clear h1 s1 hd
    go_wp2
    go_ret
    have hwr : r.write k s = r.op := by unfold RDsk.write; rw [HD.out]; rfl
    rw [hwr]
    have hans : r.ans = 2 := by unfold RDsk.ans; rw [HD.out]; rfl
    exact ⟨by rw [hans]; rfl, HV.out.mono fun g h => .inl h, HS1.out⟩
end Go.Proofs.YtbnokhdofkpcjaaGreatDoor
namespace Go.Proofs.YtbnokhdofkpcjaaGreatDoor
open Go.RowKit

theorem addTo_setG {α : Type} (h a : List α) (i : Nat) (hl : h.length = a.length) (hi : i < h.length) : (a.take i ++ h.drop i).set i (a[i]'(by omega)) = a.take (i + 1) ++ h.drop (i + 1) := by
  rw [List.set_append_right _ _ (by rw [List.length_take]; omega), List.length_take, Nat.min_eq_left (by omega), Nat.sub_self, List.drop_eq_getElem_cons hi, List.set_cons_zero]
  have e : a.take (i + 1) = a.take i ++ [a[i]'(by omega)] := List.take_succ_eq_append_getElem (by omega)
  rw [e, List.append_assoc]
  rfl
theorem addTo_len {α : Type} (h a : List α) (i : Nat) (hl : h.length = a.length) (hi : i ≤ h.length) : (a.take i ++ h.drop i).length = h.length := by
  rw [List.length_append, List.length_take, List.length_drop]; omega

theorem strs_set (l : List ByteArray) (i : Nat) (x : ByteArray) : (strs l).set i (.string x) = strs (l.set i x) := by simp [strs, List.map_set]
theorem RefV.setSafe {w : World} {S : Nat → Prop} {be gs cs n : Nat} {nv wv : Value} {r : RDsk} (h : RefV w S be (.slice (some ⟨gs, 0, none⟩) n cs) nv wv r) (hn : n = r.safe.length) (i : Nat) (x : ByteArray) :
    RefV (w.setCell ⟨gs, i, none⟩ (.string x)) S be (.slice (some ⟨gs, 0, none⟩) n cs) nv wv { r with safe := r.safe.set i x } := by
  subst hn
  have hd := h.d1 gs rfl
  refine ⟨?_, h.sb, ?_, ?_, ?_, h.d1, h.d2, h.d3⟩
  · rw [heap_setCell_other _ _ _ _ (by show be ≠ gs; exact fun e => hd.1 e.symm)]
    exact h.blk
  · have h1 := h.safe.set i (.string x)
    rw [strs_set] at h1
    have e : (r.safe.set i x).length = r.safe.length := List.length_set
    show OwnS _ _ _ _ _ (List.length (r.safe.set i x)) _
    rw [e]
    exact h1
  · exact ⟨own_heap h.seen.1 fun g hg => heap_setCell_other _ _ _ _ (by show g ≠ gs; rintro rfl; exact hd.2.1 hg), h.seen.2⟩
  · exact ⟨own_heap h.wait.1 fun g hg => heap_setCell_other _ _ _ _ (by show g ≠ gs; rintro rfl; exact hd.2.2 hg), h.wait.2⟩
theorem RefV.setSeen {w : World} {S : Nat → Prop} {be gn cn n : Nat} {sv wv : Value} {r : RDsk} (h : RefV w S be sv (.slice (some ⟨gn, 0, none⟩) n cn) wv r) (hn : n = r.seen.length) (i : Nat) (x : ByteArray) :
    RefV (w.setCell ⟨gn, i, none⟩ (.string x)) S be sv (.slice (some ⟨gn, 0, none⟩) n cn) wv { r with seen := r.seen.set i x } := by
  subst hn
  have hd := h.d2 gn rfl
  refine ⟨?_, h.sb, ?_, ?_, ?_, h.d1, h.d2, h.d3⟩
  · rw [heap_setCell_other _ _ _ _ (by show be ≠ gn; exact fun e => hd.1 e.symm)]
    exact h.blk
  · exact ⟨own_heap h.safe.1 fun g hg => heap_setCell_other _ _ _ _ (by show g ≠ gn; rintro rfl; exact (h.d1 g hg).2.1 rfl), h.safe.2⟩
  · have h1 := h.seen.set i (.string x)
    rw [strs_set] at h1
    have e : (r.seen.set i x).length = r.seen.length := List.length_set
    show OwnS _ _ _ _ _ (List.length (r.seen.set i x)) _
    rw [e]
    exact h1
  · exact ⟨own_heap h.wait.1 fun g hg => heap_setCell_other _ _ _ _ (by show g ≠ gn; rintro rfl; exact hd.2 hg), h.wait.2⟩
/-- No write waits. -/
theorem RefV.noWait {w : World} {S : Nat → Prop} {be : Nat} {sv nv wv : Value} {r : RDsk} (h : RefV w S be sv nv wv r) : RefV (w.setCell ⟨be, 2, none⟩ (.slice none 0 0)) S be sv nv (.slice none 0 0) { r with wait := [] } := by
  refine ⟨?_, h.sb, ?_, ?_, ?_, ?_, ?_, ?_⟩
  · rw [heap_setCell_same w be 2 _ _ _ h.blk]
    rfl
  · exact ⟨own_heap h.safe.1 fun g hg => heap_setCell_other _ _ _ _ (h.d1 g hg).1, h.safe.2⟩
  · exact ⟨own_heap h.seen.1 fun g hg => heap_setCell_other _ _ _ _ (h.d2 g hg).1, h.seen.2⟩
  · exact ⟨⟨rfl, .inl ⟨rfl, rfl⟩⟩, fun g hg => by cases hg⟩
  · exact fun g hg => ⟨(h.d1 g hg).1, (h.d1 g hg).2.1, fun e => by cases e⟩
  · exact fun g hg => ⟨(h.d2 g hg).1, fun e => by cases e⟩
  · exact fun g hg => by cases hg

/-- What a flush leaves. -/
def RDsk.flush (r : RDsk) : RDsk := if r.op.down then r.op else { r.op with safe := r.op.seen, wait := [] }

set_option maxRecDepth 100000 in
set_option maxHeartbeats 1000000 in
theorem ref_flush (be : Nat) (S : Nat → Prop) (r : RDsk) (w : World) (h : RefAt w S be r) (hn : 0 < r.safe.length) (he : r.seen.length = r.safe.length) (hb : r.safe.length ≤ 4096) :
    Calls Tryz.prog 116 #[.pointer (some ⟨be, 0, none⟩)] w fun e w' => e = .returned (.int .i64 r.ans) ∧ RefAt w' S be r.flush ∧ Same S w w' := by
  have HMM : Hid (Calls Tryz.prog 187 #[.pointer (some ⟨be, 0, none⟩)] w fun e w' => e = .returned (.bool (!r.op.down)) ∧ RefAt w' S be r.op ∧ Same S w w') := ref_may be S r w h
  have hnot : ∀ (x : Bool) (w : World), (Op.unary .not (.bool x)).run Tryz.prog w = .ok (.bool (!x)) w := fun _ _ => rfl
  clear h
  go_enter Tryz.func116, Tryz.ntmps116
  go_wp2_with fail
  refine HMM.out.mono ?_
  rintro e w1 ⟨rfl, ⟨sv, nv, wv, h1⟩, s1⟩
  have HS1 : Hid (Same S w w1) := s1
  obtain ⟨r1, hr1⟩ : ∃ r1, r1 = r.op := ⟨_, rfl⟩
  cases hd : r.op.down
  · obtain ⟨n, hn'⟩ : ∃ n, n = r1.safe.length := ⟨_, rfl⟩
    have hns : n = r1.seen.length := by rw [hn', hr1, op_safe, op_seen, he]
    rw [← hr1] at h1
    have hn0 : 0 < n := by rw [hn', hr1, op_safe]; exact hn
    have hnb : n ≤ 4096 := by rw [hn', hr1, op_safe]; exact hb
    obtain ⟨gs, cs, rfl, hgs, -, -⟩ := h1.safe.open (by omega)
    obtain ⟨gn, cn, rfl, hgn, -, -⟩ := h1.seen.open (by omega)
    rw [← hn', ← hns] at h1
    have HV0 : Hid (RefV w1 S be (.slice (some ⟨gs, 0, none⟩) n cs) (.slice (some ⟨gn, 0, none⟩) n cn) wv { r1 with safe := r1.seen.take 0 ++ r1.safe.drop 0 }) := h1
    have HR1 : Hid (r1 = r.op) := hr1
    have HN : Hid (n = r1.safe.length) := hn'
    have HNS : Hid (n = r1.seen.length) := hns
    have HD : Hid (r.op.down = false) := hd
    have HGS : Hid (S gs) := hgs
    have hnbi : (n : Int) ≤ 4096 := by omega
    clear h1 s1 hr1 hn' hns hgs hgn hn he hb hd
    go_wp2
    go_loopw [4] (fun iv_ wr => ∃ i : Nat, i ≤ n ∧ iv_ = .int .i64 (i : Int) ∧ Hid (RefV wr S be (.slice (some ⟨gs, 0, none⟩) n cs) (.slice (some ⟨gn, 0, none⟩) n cn) wv { r1 with safe := r1.seen.take i ++ r1.safe.drop i }) ∧ Hid (Same S w wr)) (fun iv_ _ => n - (intOf iv_).toNat)
    case atStart => exact ⟨0, by omega, rfl, HV0, HS1⟩
    case round =>
      clear HV0 HS1
      obtain ⟨i, hi, rfl, HV, HS⟩ := hrel
      have c0 : wr.cell? ⟨be, 0, none⟩ = some (.slice (some ⟨gs, 0, none⟩) n cs) := cell_of_row _ _ _ _ _ _ HV.out.blk
      have c1 : wr.cell? ⟨be, 1, none⟩ = some (.slice (some ⟨gn, 0, none⟩) n cn) := cell_of_row _ _ _ _ _ _ HV.out.blk
      by_cases hlt : i < n
      · have hl : (r1.seen.take i ++ r1.safe.drop i).length = n := by rw [addTo_len _ _ _ (by rw [← HN.out, ← HNS.out]) (by rw [← HN.out]; exact hi), ← HN.out]
        obtain ⟨x, hx⟩ : ∃ x, x = r1.seen[i]'(by rw [← HNS.out]; exact hlt) := ⟨_, rfl⟩
        have cx : wr.cell? ⟨gn, i, none⟩ = some (.string x) := by
          obtain ⟨g', c', e, -, hc, -⟩ := HV.out.seen.open (by show 0 < r1.seen.length; rw [← HNS.out]; exact hn0)
          cases e
          rw [hc i (by rw [strs_length]; show i < r1.seen.length; rw [← HNS.out]; exact hlt), hx]
          simp [strs]
        obtain ⟨z, cz, fz⟩ : ∃ z, wr.cell? ⟨gs, i, none⟩ = some z ∧ wr.frozen? ⟨gs, i, none⟩ = false := by
          obtain ⟨g', c', e, -, hc, hf⟩ := HV.out.safe.open (by show 0 < List.length (r1.seen.take i ++ r1.safe.drop i); omega)
          cases e
          exact ⟨_, hc i (by rw [strs_length]; show i < List.length (r1.seen.take i ++ r1.safe.drop i); omega), hf i⟩
        have HX : Hid (x = r1.seen[i]'(by rw [← HNS.out]; exact hlt)) := hx
        have HL : Hid ((r1.seen.take i ++ r1.safe.drop i).length = n) := hl
        clear hx hl
        go_wp2
        go_region
        all_goals
          go_wp2
          go_roundw
          case rel =>
            refine ⟨i + 1, by omega, by go_num, ?_, ?_⟩
            · have h1 := HV.out.setSafe HL.out.symm i x
              have e : (r1.seen.take i ++ r1.safe.drop i).set i x = r1.seen.take (i + 1) ++ r1.safe.drop (i + 1) := by
                rw [HX.out]
                exact addTo_setG _ _ i (by rw [← HN.out, ← HNS.out]) (by rw [← HN.out]; exact hlt)
              have h2 : RefV (wr.setCell ⟨gs, i, none⟩ (.string x)) S be (.slice (some ⟨gs, 0, none⟩) n cs) (.slice (some ⟨gn, 0, none⟩) n cn) wv { r1 with safe := r1.seen.take (i + 1) ++ r1.safe.drop (i + 1) } := by rw [← e]; exact h1
              exact ⟨h2.blk, h2.sb, h2.safe, h2.seen, h2.wait, h2.d1, h2.d2, h2.d3⟩
            · exact (HS.out.setCell ⟨gs, i, none⟩ HGS.out _).drew
          case measure => (simp [intOf]; try omega)
      · have hin : i = n := by omega
        obtain ⟨i1, hi1⟩ : ∃ i1, i1 = i := ⟨_, rfl⟩
        subst hi1
        have HV1 : Hid (RefV wr S be (.slice (some ⟨gs, 0, none⟩) n cs) (.slice (some ⟨gn, 0, none⟩) n cn) wv { r1 with safe := r1.seen }) := by
          have h1 := HV.out
          have e : r1.seen.take i1 ++ r1.safe.drop i1 = r1.seen := by
            rw [hin, List.take_of_length_le (by rw [← HNS.out]; exact Nat.le_refl _), List.drop_eq_nil_of_le (by rw [← HN.out]; exact Nat.le_refl _), List.append_nil]
          rw [e] at h1
          exact h1
        have c2 : wr.cell? ⟨be, 2, none⟩ = some wv := cell_of_row _ _ _ _ _ _ HV1.out.blk
        have f2 := frozen_of_row wr be 2 _ _ HV1.out.blk
        clear HV hin
        go_wp2
        go_ret
        have hans : r.ans = 0 := by unfold RDsk.ans; rw [HD.out]; rfl
        have hfl : r.flush = { r1 with safe := r1.seen, wait := [] } := by unfold RDsk.flush; rw [HD.out, HR1.out]; rfl
        refine ⟨by rw [hans]; rfl, ⟨_, _, _, by rw [hfl]; exact HV1.out.noWait⟩, HS.out.setCell ⟨be, 2, none⟩ HV1.out.sb _⟩
  · have HV : Hid (RefAt w1 S be r.op) := ⟨sv, nv, wv, h1⟩
    have HD : Hid (r.op.down = true) := hd
    clear h1 s1 hd hr1
    go_wp2
    go_ret
    have hans : r.ans = 2 := by unfold RDsk.ans; rw [HD.out]; rfl
    have hfl : r.flush = r.op := by unfold RDsk.flush; rw [HD.out]; rfl
    exact ⟨by rw [hans]; rfl, by rw [hfl]; exact HV.out, HS1.out⟩
end Go.Proofs.YtbnokhdofkpcjaaGreatDoor
namespace Go.Proofs.YtbnokhdofkpcjaaGreatDoor
open Go.RowKit

/-- A list of ints as an argument, in memory that no disk owns. -/
def KeepAt (w : World) (S : Nat → Prop) (kv : Value) (ks : List Int) : Prop :=
  (∃ ao cap, kv = .slice ao 0 cap ∧ ks = []) ∨ ∃ gk cap, kv = .slice (some ⟨gk, 0, none⟩) ks.length cap ∧ 0 < ks.length ∧ ¬ S gk ∧ ∀ j (h : j < ks.length), w.cell? ⟨gk, j, none⟩ = some (.int .i64 ks[j])
/-- One write that a crash keeps. -/
def keep1 (wait : List (Nat × ByteArray)) (safe : List ByteArray) (k : Int) : List ByteArray := if h : 0 ≤ k ∧ k < wait.length then safe.set (wait[k.toNat]'(by omega)).1 (wait[k.toNat]'(by omega)).2 else safe
def keepAll (wait : List (Nat × ByteArray)) (safe : List ByteArray) (ks : List Int) : List ByteArray := ks.foldl (keep1 wait) safe
theorem keep1_length (wait : List (Nat × ByteArray)) (safe : List ByteArray) (k : Int) : (keep1 wait safe k).length = safe.length := by
  unfold keep1; split
  · exact List.length_set
  · rfl
theorem keepAll_length (wait : List (Nat × ByteArray)) : ∀ (ks : List Int) (safe : List ByteArray), (keepAll wait safe ks).length = safe.length
  | [], _ => rfl
  | k :: r, safe => by
    show (keepAll wait (keep1 wait safe k) r).length = _
    rw [keepAll_length wait r, keep1_length]
theorem keepAll_snoc (wait : List (Nat × ByteArray)) (safe : List ByteArray) (ks : List Int) (i : Nat) (h : i < ks.length) : keepAll wait safe (ks.take (i + 1)) = keep1 wait (keepAll wait safe (ks.take i)) ks[i] := by
  unfold keepAll
  rw [List.take_succ_eq_append_getElem h, List.foldl_append]
  rfl
def RDsk.crash (r : RDsk) (ks : List Int) : RDsk := { r with safe := keepAll r.wait r.safe ks, seen := keepAll r.wait r.safe ks, wait := [], lit := false, down := false }

theorem wrefs_at (l : List (Nat × ByteArray)) : ∀ k (h : k < l.length), (wrefs l)[2 * k]? = some (.int .i64 (l[k].1 : Int)) ∧ (wrefs l)[2 * k + 1]? = some (.string l[k].2) := by
  induction l with
  | nil => intro k h; cases h
  | cons x r ih =>
    intro k h
    match k, h with
    | 0, _ => exact ⟨rfl, rfl⟩
    | k + 1, h =>
      have := ih k (by simpa using h)
      have e1 : wrefs (x :: r) = [.int .i64 (x.1 : Int), .string x.2] ++ wrefs r := rfl
      rw [e1, show 2 * (k + 1) = 2 * k + 2 by omega]
      exact this

set_option maxRecDepth 100000 in
set_option maxHeartbeats 1000000 in
theorem ref_crash (be : Nat) (S : Nat → Prop) (r : RDsk) (kv : Value) (ks : List Int) (w : World) (h : RefAt w S be r) (hK : KeepAt w S kv ks) (hn : 0 < r.safe.length) (he : r.seen.length = r.safe.length) (hb : r.safe.length ≤ 4096)
    (hw : ∀ x ∈ r.wait, x.1 < r.safe.length) (hwl : r.wait.length ≤ 1000000) (hkl : ks.length ≤ 1000000) :
    Calls Tryz.prog 118 #[.pointer (some ⟨be, 0, none⟩), kv] w fun e w' => e = .returned (.tuple #[]) ∧ RefAt w' S be (r.crash ks) ∧ Same S w w' := by
  obtain ⟨sv, nv, wv, h1⟩ := h
  obtain ⟨n, hn'⟩ : ∃ n, n = r.safe.length := ⟨_, rfl⟩
  have hns : n = r.seen.length := by rw [hn', he]
  obtain ⟨gs, cs, rfl, hgs, -, -⟩ := h1.safe.open (by omega)
  obtain ⟨gn, cn, rfl, hgn, -, -⟩ := h1.seen.open (by omega)
  rw [← hn', ← hns] at h1
  obtain ⟨m, hm⟩ : ∃ m, m = r.wait.length := ⟨_, rfl⟩
  have HW : Hid (∀ (wr : World) (k : Nat), RefV wr S be (.slice (some ⟨gs, 0, none⟩) n cs) (.slice (some ⟨gn, 0, none⟩) n cn) wv { r with safe := keepAll r.wait r.safe ks } → True) := fun _ _ _ => trivial
  have HV0 : Hid (RefV w S be (.slice (some ⟨gs, 0, none⟩) n cs) (.slice (some ⟨gn, 0, none⟩) n cn) wv { r with safe := keepAll r.wait r.safe (ks.take 0) }) := h1
  have HN : Hid (n = r.safe.length) := hn'
  have HNS : Hid (n = r.seen.length) := hns
  have HM : Hid (m = r.wait.length) := hm
  have HGS : Hid (S gs) := hgs
  have HGN : Hid (S gn) := hgn
  have HWT : Hid (∀ x ∈ r.wait, x.1 < r.safe.length) := hw
  have hnbi : (n : Int) ≤ 4096 := by omega
  have hmi : (m : Int) ≤ 1000000 := by omega
  -- how the list of waiting writes stands
  have hwv : ∃ ao cw, wv = .slice ao m cw ∧ (0 < m → ∃ gw, ao = some ⟨gw, 0, none⟩ ∧ gw ≠ gs ∧ gw ≠ gn) := by
    obtain ⟨-, h2 | ⟨g, cap, cur, hv, -⟩⟩ := h1.wait.1
    · exact ⟨none, 0, by rw [hm, h2.2, h2.1], fun h => by omega⟩
    · exact ⟨_, cap, by rw [hm, hv], fun _ => ⟨g, rfl, by rintro rfl; exact (h1.d1 g rfl).2.2 (by rw [hv]; rfl), by rintro rfl; exact (h1.d2 g rfl).2 (by rw [hv]; rfl)⟩⟩
  obtain ⟨ao, cw, rfl, hao⟩ := hwv
  obtain ⟨q, hq⟩ : ∃ q, q = ks.length := ⟨_, rfl⟩
  have hqi : (q : Int) ≤ 1000000 := by omega
  have hkv : ∃ ak ck, kv = .slice ak q ck ∧ (0 < q → ∃ gk, ak = some ⟨gk, 0, none⟩ ∧ ¬ S gk ∧ ∀ j (h : j < ks.length), w.cell? ⟨gk, j, none⟩ = some (.int .i64 ks[j])) := by
    rcases hK with ⟨ak, ck, rfl, e⟩ | ⟨gk, ck, rfl, -, h3, h4⟩
    · exact ⟨ak, ck, by rw [hq, e]; rfl, fun h => by rw [hq, e] at h; cases h⟩
    · exact ⟨_, ck, by rw [hq], fun _ => ⟨gk, rfl, h3, h4⟩⟩
  obtain ⟨ak, ck, rfl, hak⟩ := hkv
  have HAK : Hid (0 < q → ∃ gk, ak = some ⟨gk, 0, none⟩ ∧ ¬ S gk ∧ ∀ j (h : j < ks.length), w.cell? ⟨gk, j, none⟩ = some (.int .i64 ks[j])) := hak
  have HAO : Hid (0 < m → ∃ gw, ao = some ⟨gw, 0, none⟩ ∧ gw ≠ gs ∧ gw ≠ gn) := hao
  have HQ : Hid (q = ks.length) := hq
  clear h1 hn' hns hm hgs hgn hw hn he hb hwl hkl hK hak hao hq HW
  go_enter Tryz.func118, Tryz.ntmps118
  go_wp2
  go_loopw [4] (fun iv_ wr => ∃ i : Nat, i ≤ q ∧ iv_ = .int .i64 (i : Int) ∧ Hid (RefV wr S be (.slice (some ⟨gs, 0, none⟩) n cs) (.slice (some ⟨gn, 0, none⟩) n cn) (.slice ao m cw) { r with safe := keepAll r.wait r.safe (ks.take i) }) ∧ Hid (Same S w wr)) (fun iv_ _ => q - (intOf iv_).toNat)
  case atStart => exact ⟨0, by omega, rfl, HV0, Same.refl _ _⟩
  case round =>
    clear HV0
    obtain ⟨i, hi, rfl, HV, HS⟩ := hrel
    have c0 : wr.cell? ⟨be, 0, none⟩ = some (.slice (some ⟨gs, 0, none⟩) n cs) := cell_of_row _ _ _ _ _ _ HV.out.blk
    have c1 : wr.cell? ⟨be, 1, none⟩ = some (.slice (some ⟨gn, 0, none⟩) n cn) := cell_of_row _ _ _ _ _ _ HV.out.blk
    have c2 : wr.cell? ⟨be, 2, none⟩ = some (.slice ao m cw) := cell_of_row _ _ _ _ _ _ HV.out.blk
    by_cases hlt : i < q
    · obtain ⟨gk, rfl, hSk, hck⟩ := HAK.out (by omega)
      have hik : i < ks.length := by rw [← HQ.out]; exact hlt
      obtain ⟨k, hk⟩ : ∃ k, k = ks[i] := ⟨_, rfl⟩
      have ck' : wr.cell? ⟨gk, i, none⟩ = some (.int .i64 k) := by rw [hk]; exact HS.out.cell hSk (hck i hik)
      have HK1 : Hid (keepAll r.wait r.safe (ks.take (i + 1)) = keep1 r.wait (keepAll r.wait r.safe (ks.take i)) k) := by rw [hk]; exact keepAll_snoc _ _ _ i hik
      clear hk hck
      by_cases hk0 : 0 ≤ k
      · by_cases hkm : k < m
        · obtain ⟨k, rfl⟩ : ∃ k' : Nat, k = k' := ⟨k.toNat, by omega⟩
          have hkw : k < r.wait.length := by rw [← HM.out]; omega
          obtain ⟨gw, rfl, hws, hwn⟩ := HAO.out (by omega)
          obtain ⟨x, hx⟩ : ∃ x, x = r.wait[k] := ⟨_, rfl⟩
          have hxl : x.1 < n := by rw [HN.out, hx]; exact HWT.out _ (List.getElem_mem _)
          obtain ⟨hc1, hc2⟩ := wrefs_at r.wait k hkw
          have hcw : ∀ j (hj : j < (wrefs r.wait).length), wr.cell? ⟨gw, j, none⟩ = some (wrefs r.wait)[j] := by
            obtain ⟨g', c', e, -, hc, -⟩ := HV.out.wait.open (by show 0 < r.wait.length; omega)
            cases e
            exact hc
          have cw1 : wr.cell? ⟨gw, k * 2, none⟩ = some (.int .i64 (x.1 : Int)) := by
            have hl : 2 * k < (wrefs r.wait).length := by rw [wrefs_length]; omega
            rw [Nat.mul_comm k 2, hcw _ hl, ← List.getElem?_eq_getElem hl, hc1, hx]
          have cw2 : wr.cell? ⟨gw, k * 2 + 1, none⟩ = some (.string x.2) := by
            have hl : 2 * k + 1 < (wrefs r.wait).length := by rw [wrefs_length]; omega
            rw [Nat.mul_comm k 2, hcw _ hl, ← List.getElem?_eq_getElem hl, hc2, hx]
          have hkal : (keepAll r.wait r.safe (ks.take i)).length = n := by rw [keepAll_length, ← HN.out]
          obtain ⟨z, cz, fz⟩ : ∃ z, wr.cell? ⟨gs, x.1, none⟩ = some z ∧ wr.frozen? ⟨gs, x.1, none⟩ = false := by
            obtain ⟨g', c', e, -, hc, hf⟩ := HV.out.safe.open (by show 0 < List.length (keepAll r.wait r.safe (ks.take i)); omega)
            cases e
            exact ⟨_, hc x.1 (by rw [strs_length]; show x.1 < List.length (keepAll r.wait r.safe (ks.take i)); omega), hf _⟩
          have HK2 : Hid (keepAll r.wait r.safe (ks.take (i + 1)) = (keepAll r.wait r.safe (ks.take i)).set x.1 x.2) := by
            show _ = _
            rw [HK1.out]
            unfold keep1
            rw [dif_pos ⟨by omega, by rw [← HM.out]; exact hkm⟩, hx]
            rfl
          have HKL : Hid (n = (keepAll r.wait r.safe (ks.take i)).length) := hkal.symm
          obtain ⟨xa, xs⟩ := x
          simp only at hxl cw1 cw2 cz fz HK2
          clear hx hc1 hc2 hcw hkal HK1
          go_wp2
          go_region
          all_goals
            go_wp2
            go_roundw
            case rel =>
              refine ⟨i + 1, by omega, by go_num, ?_, ?_⟩
              · have h1 := HV.out.setSafe HKL.out xa xs
                have h2 : RefV (wr.setCell ⟨gs, xa, none⟩ (.string xs)) S be (.slice (some ⟨gs, 0, none⟩) n cs) (.slice (some ⟨gn, 0, none⟩) n cn) (.slice (some ⟨gw, 0, none⟩) m cw) { r with safe := keepAll r.wait r.safe (ks.take (i + 1)) } := by rw [HK2.out]; exact h1
                exact ⟨h2.blk, h2.sb, h2.safe, h2.seen, h2.wait, h2.d1, h2.d2, h2.d3⟩
              · exact (HS.out.setCell ⟨gs, xa, none⟩ HGS.out _).drew
            case measure => (simp [intOf]; try omega)
        · have HK2 : Hid (keepAll r.wait r.safe (ks.take (i + 1)) = keepAll r.wait r.safe (ks.take i)) := by
            show _ = _
            rw [HK1.out]
            unfold keep1
            rw [dif_neg (by rw [← HM.out]; omega)]
          clear HK1
          go_wp2
          go_roundw
          case rel => exact ⟨i + 1, by omega, by go_num, by rw [HK2.out]; exact HV, HS⟩
          case measure => (simp [intOf]; try omega)
      · have HK2 : Hid (keepAll r.wait r.safe (ks.take (i + 1)) = keepAll r.wait r.safe (ks.take i)) := by
          show _ = _
          rw [HK1.out]
          unfold keep1
          rw [dif_neg (by omega)]
        clear HK1
        go_wp2
        go_roundw
        case rel => exact ⟨i + 1, by omega, by go_num, by rw [HK2.out]; exact HV, HS⟩
        case measure => (simp [intOf]; try omega)
    · obtain ⟨i1, hi1⟩ : ∃ i1, i1 = i := ⟨_, rfl⟩
      subst hi1
      obtain ⟨A, hA⟩ : ∃ A, A = keepAll r.wait r.safe ks := ⟨_, rfl⟩
      have HAL : Hid (n = A.length) := by rw [hA, keepAll_length]; exact HN
      have HV1 : Hid (RefV wr S be (.slice (some ⟨gs, 0, none⟩) n cs) (.slice (some ⟨gn, 0, none⟩) n cn) (.slice ao m cw) { r with safe := A, seen := A.take 0 ++ r.seen.drop 0 }) := by
        have h1 := HV.out
        rw [List.take_of_length_le (by rw [← HQ.out]; omega), ← hA] at h1
        exact h1
      have HA : Hid (A = keepAll r.wait r.safe ks) := hA
      clear HV hA c0 c1 c2
      have c0 : wr.cell? ⟨be, 0, none⟩ = some (.slice (some ⟨gs, 0, none⟩) n cs) := cell_of_row _ _ _ _ _ _ HV1.out.blk
      go_wp2
      clear c0
      rename ¬ i1 < q => h9
      clear h9
      go_loopw [6] (fun iv_ wr => ∃ i : Nat, i ≤ n ∧ iv_ = .int .i64 (i : Int) ∧ Hid (RefV wr S be (.slice (some ⟨gs, 0, none⟩) n cs) (.slice (some ⟨gn, 0, none⟩) n cn) (.slice ao m cw) { r with safe := A, seen := A.take i ++ r.seen.drop i }) ∧ Hid (Same S w wr)) (fun iv_ _ => n - (intOf iv_).toNat)
      case atStart => exact ⟨0, by omega, rfl, HV1, HS⟩
      case round =>
        clear HV1 HS
        obtain ⟨i, hi, rfl, HV, HS⟩ := hrel
        have c0 : wr.cell? ⟨be, 0, none⟩ = some (.slice (some ⟨gs, 0, none⟩) n cs) := cell_of_row _ _ _ _ _ _ HV.out.blk
        have c1 : wr.cell? ⟨be, 1, none⟩ = some (.slice (some ⟨gn, 0, none⟩) n cn) := cell_of_row _ _ _ _ _ _ HV.out.blk
        by_cases hlt : i < n
        · have hl : (A.take i ++ r.seen.drop i).length = n := by rw [addTo_len _ _ _ (by rw [← HAL.out, ← HNS.out]) (by rw [← HNS.out]; exact hi), ← HNS.out]
          obtain ⟨x, hx⟩ : ∃ x, x = A[i]'(by rw [← HAL.out]; exact hlt) := ⟨_, rfl⟩
          have cx : wr.cell? ⟨gs, i, none⟩ = some (.string x) := by
            obtain ⟨g', c', e, -, hc, -⟩ := HV.out.safe.open (by show 0 < A.length; rw [← HAL.out]; omega)
            cases e
            rw [hc i (by rw [strs_length]; show i < A.length; rw [← HAL.out]; exact hlt), hx]
            simp [strs]
          obtain ⟨z, cz, fz⟩ : ∃ z, wr.cell? ⟨gn, i, none⟩ = some z ∧ wr.frozen? ⟨gn, i, none⟩ = false := by
            obtain ⟨g', c', e, -, hc, hf⟩ := HV.out.seen.open (by show 0 < List.length (A.take i ++ r.seen.drop i); omega)
            cases e
            exact ⟨_, hc i (by rw [strs_length]; show i < List.length (A.take i ++ r.seen.drop i); omega), hf i⟩
          have HX : Hid (x = A[i]'(by rw [← HAL.out]; exact hlt)) := hx
          have HL : Hid ((A.take i ++ r.seen.drop i).length = n) := hl
          clear hx hl
          go_wp2
          go_region
          all_goals
            go_wp2
            go_roundw
            case rel =>
              refine ⟨i + 1, by omega, by go_num, ?_, ?_⟩
              · have h1 := HV.out.setSeen HL.out.symm i x
                have e : (A.take i ++ r.seen.drop i).set i x = A.take (i + 1) ++ r.seen.drop (i + 1) := by
                  rw [HX.out]
                  exact addTo_setG _ _ i (by rw [← HAL.out, ← HNS.out]) (by rw [← HNS.out]; exact hlt)
                have h2 : RefV (wr.setCell ⟨gn, i, none⟩ (.string x)) S be (.slice (some ⟨gs, 0, none⟩) n cs) (.slice (some ⟨gn, 0, none⟩) n cn) (.slice ao m cw) { r with safe := A, seen := A.take (i + 1) ++ r.seen.drop (i + 1) } := by rw [← e]; exact h1
                exact ⟨h2.blk, h2.sb, h2.safe, h2.seen, h2.wait, h2.d1, h2.d2, h2.d3⟩
              · exact (HS.out.setCell ⟨gn, i, none⟩ HGN.out _).drew
            case measure => (simp [intOf]; try omega)
        · have hin : i = n := by omega
          obtain ⟨i1, hi1⟩ : ∃ i1, i1 = i := ⟨_, rfl⟩
          subst hi1
          have HV1 : Hid (RefV wr S be (.slice (some ⟨gs, 0, none⟩) n cs) (.slice (some ⟨gn, 0, none⟩) n cn) (.slice ao m cw) { r with safe := A, seen := A }) := by
            have h1 := HV.out
            have e : A.take i1 ++ r.seen.drop i1 = A := by
              rw [hin, List.take_of_length_le (by rw [← HAL.out]; exact Nat.le_refl _), List.drop_eq_nil_of_le (by rw [← HNS.out]; exact Nat.le_refl _), List.append_nil]
            rw [e] at h1
            exact h1
          have hbk := HV1.out.blk
          have c2 : wr.cell? ⟨be, 2, none⟩ = some (.slice ao m cw) := cell_of_row _ _ _ _ _ _ hbk
          have c4 : wr.cell? ⟨be, 4, none⟩ = some (.bool r.lit) := cell_of_row _ _ _ _ _ _ hbk
          have c5 : wr.cell? ⟨be, 5, none⟩ = some (.bool r.down) := cell_of_row _ _ _ _ _ _ hbk
          have f2 := frozen_of_row wr be 2 _ _ hbk
          have f4 := frozen_of_row wr be 4 _ _ hbk
          have f5 := frozen_of_row wr be 5 _ _ hbk
          clear HV hin hbk
          go_wp2
          go_end0
          have h1 := HV1.out.noWait
          have h2 := heap_setCell_same _ be 4 _ _ (.bool false) h1.blk
          have s2 : Same (· = be) (wr.setCell ⟨be, 2, none⟩ (.slice none 0 0)) (((wr.setCell ⟨be, 2, none⟩ (.slice none 0 0)).setCell ⟨be, 4, none⟩ (.bool false)).setCell ⟨be, 5, none⟩ (.bool false)) := Same.setCell (S := (· = be)) (Same.setCell (S := (· = be)) (Same.refl _ _) ⟨be, 4, none⟩ rfl _) ⟨be, 5, none⟩ rfl _
          have h3 := heap_setCell_same _ be 5 _ _ (.bool false) h2
          have h4 := h1.turn s2 r.left false false (by rw [h3]; rfl)
          have ec : r.crash ks = { r with safe := A, seen := A, wait := [], lit := false, down := false } := by unfold RDsk.crash; rw [← HA.out]
          refine ⟨rfl, ?_, (HS.out.setCell ⟨be, 2, none⟩ HV1.out.sb _).trans (s2.weak (by rintro g rfl; exact HV1.out.sb))⟩
          rw [ec]
          exact ⟨_, _, _, h4⟩
end Go.Proofs.YtbnokhdofkpcjaaGreatDoor
