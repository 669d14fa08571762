/- OWN TEXT: the reference's disk: Write. -/
import Derived.Test.YtphhmjcobmnpeaaGreatDoorRefD1
namespace Go.Proofs.YtphhmjcobmnpeaaGreatDoor
open Go.RowKit

theorem infoWaits : (Tryz.prog.info? 223).map (fun i => (i.zero, i.size, i.bytes)) = some (some (.agg #[.int .i64 0, .string ⟨#[]⟩]), 2, 24) := by kernel_rfl
theorem Same.of_grown {S : Nat → Prop} {w w' : World} {v : Value} (h : w.grownBy w' v.ownBlock) (hv : ∀ g, v.ownBlock = some g → S g) : Same S w w' :=
  ⟨h.os, h.tape, h.output, h.size, fun k hk hn => h.block k hk (fun e => hn (hv k e.symm))⟩
theorem cells_two (w : World) (x y : Value) (t : TypeId) : ∀ j u, [x, y][j]? = some u → (w.alloc (.cells #[x, y] t)).cell? ((⟨w.heap.size, 0, none⟩ : Addr).add j) = some u := by
  intro j u hj
  match j, hj with
  | 0, hj =>
    simp at hj
    subst hj
    simp [Addr.add]
  | 1, hj =>
    simp at hj
    subst hj
    simp [Addr.add]

theorem ref_write_bad (be : Nat) (S : Nat → Prop) (r : RDsk) (at_ : Int) (s : ByteArray) (w : World) (h : RefAt w S be r) (hn : 0 < r.seen.length) (hbad : ¬ (0 ≤ at_ ∧ at_ < r.seen.length ∧ s.size = 64)) :
    Calls Tryz.prog 63 #[.pointer (some ⟨be, 0, none⟩), .int .i64 at_, .string s] w fun e w' => e = .returned (.int .i64 1) ∧ w = w' := by
  obtain ⟨sv, nv, wv, h⟩ := h
  obtain ⟨g, cap, hv, -, -, -⟩ := h.seen.open hn
  have c1 : w.cell? ⟨be, 1, none⟩ = some nv := cell_of_row _ _ _ _ _ _ h.blk
  rw [hv] at c1
  clear h
  by_cases h0 : at_ < 0
  · clear hbad
    go_enter Tryz.func63, Tryz.ntmps63
    go_wp2
    go_ret
    exact ⟨rfl, rfl⟩
  · by_cases h1 : at_ < r.seen.length
    · have h2 : ((s.size : Int) != 64) = true := by
        rw [bne_iff_ne]
        intro e
        exact hbad ⟨by omega, h1, by omega⟩
      clear hbad
      go_enter Tryz.func63, Tryz.ntmps63
      go_wp2
      go_ret
      exact ⟨rfl, rfl⟩
    · clear hbad
      go_enter Tryz.func63, Tryz.ntmps63
      go_wp2
      go_ret
      exact ⟨rfl, rfl⟩

/-- What a write leaves. -/
def RDsk.write (r : RDsk) (k : Nat) (s : ByteArray) : RDsk := if r.op.down then r.op else { r.op with seen := r.op.seen.set k s, wait := r.op.wait ++ [(k, s)] }
/-- What a write or a flush answers. -/
def RDsk.ans (r : RDsk) : Int := if r.op.down then 2 else 0
theorem op_seen (r : RDsk) : r.op.seen = r.seen := by unfold RDsk.op; split <;> rfl
theorem op_safe (r : RDsk) : r.op.safe = r.safe := by unfold RDsk.op; split <;> rfl
theorem op_wait (r : RDsk) : r.op.wait = r.wait := by unfold RDsk.op; split <;> rfl
theorem wrefs_snoc (l : List (Nat × ByteArray)) (k : Nat) (s : ByteArray) : wrefs l ++ [.int .i64 (k : Int), .string s] = wrefs (l ++ [(k, s)]) := by simp [wrefs]

set_option maxRecDepth 100000 in
set_option maxHeartbeats 1000000 in
theorem ref_write (be : Nat) (S : Nat → Prop) (r : RDsk) (k : Nat) (s : ByteArray) (w : World) (h : RefAt w S be r) (hk : k < r.seen.length) (hs : s.size = 64) (hw : r.wait.length ≤ 1000000) :
    Calls Tryz.prog 63 #[.pointer (some ⟨be, 0, none⟩), .int .i64 (k : Int), .string s] w fun e w' => e = .returned (.int .i64 r.ans) ∧ RefAt w' (fun g => S g ∨ w.heap.size ≤ g) be (r.write k s) ∧ Same S w w' := by
  have HM := ref_may be S r w h
  obtain ⟨sv0, nv0, wv0, h⟩ := h
  obtain ⟨g0, cap0, hv0, -, -, -⟩ := h.seen.open (by omega)
  have c1 : w.cell? ⟨be, 1, none⟩ = some nv0 := cell_of_row _ _ _ _ _ _ h.blk
  rw [hv0] at c1
  have HMM : Hid (Calls Tryz.prog 121 #[.pointer (some ⟨be, 0, none⟩)] w fun e w' => e = .returned (.bool (!r.op.down)) ∧ RefAt w' S be r.op ∧ Same S w w') := HM
  obtain ⟨i0, hi0, hz0, hz1, hz2⟩ := info_parts infoWaits
  have hnot : ∀ (x : Bool) (w : World), (Op.unary .not (.bool x)).run Tryz.prog w = .ok (.bool (!x)) w := fun _ _ => rfl
  have hki : (k : Int) < r.seen.length := by omega
  obtain ⟨n, hn⟩ : ∃ n, n = r.seen.length := ⟨_, rfl⟩
  rw [← hn] at hki hk c1
  have HN : Hid (n = r.seen.length) := hn
  have HW : Hid (r.wait.length ≤ 1000000) := hw
  have hsi : (s.size : Int) = 64 := by omega
  clear HM h hn hw hv0
  go_enter Tryz.func63, Tryz.ntmps63
  go_wp2_with fail
  refine HMM.out.mono ?_
  rintro e w1 ⟨rfl, ⟨sv, nv, wv, h1⟩, s1⟩
  have HS1 : Hid (Same S w w1) := s1
  cases hd : r.op.down
  · have hsn : 0 < r.op.seen.length := by rw [op_seen, ← HN.out]; omega
    obtain ⟨gn, cn, hnv, hgn, hcn, hfn⟩ := h1.seen.open hsn
    rw [hnv] at h1
    obtain ⟨z, cz⟩ : ∃ z, w1.cell? ⟨gn, k, none⟩ = some z := ⟨_, hcn k (by rw [strs_length, op_seen, ← HN.out]; exact hk)⟩
    have fz := hfn k
    have d1 : w1.cell? ⟨be, 1, none⟩ = some (.slice (some ⟨gn, 0, none⟩) r.op.seen.length cn) := cell_of_row _ _ _ _ _ _ h1.blk
    have d2 : w1.cell? ⟨be, 2, none⟩ = some wv := cell_of_row _ _ _ _ _ _ h1.blk
    have fb := frozen_of_row w1 be 2 _ _ h1.blk
    have hgb : gn ≠ be := (h1.d2 gn rfl).1
    have hlb : be < w1.heap.size := (Array.getElem?_eq_some_iff.1 h1.blk).1
    rw [op_seen, ← HN.out] at d1
    have HV : Hid (RefV w1 S be sv (.slice (some ⟨gn, 0, none⟩) r.op.seen.length cn) wv r.op) := h1
    have HGN : Hid (S gn) := hgn
    clear h1 s1 hcn hfn hsn hnv hgn
    have d2' : (w1.setCell ⟨gn, k, none⟩ (.string s)).cell? ⟨be, 2, none⟩ = some wv := by
      rw [World.cell?_setCell_other _ _ _ _ (by intro e; exact hgb (congrArg Addr.block e))]
      exact d2
    have HW2 : Hid ((w1.setCell ⟨gn, k, none⟩ (.string s)).ownsRow 0 223 2 wv r.op.wait.length (wrefs r.op.wait)) := own_heap HV.out.wait.1 (fun g hg => heap_setCell_other _ _ _ _ (by show g ≠ gn; rintro rfl; exact (HV.out.d2 g rfl).2 hg))
    have HWL : Hid (r.op.wait.length ≤ 1000000) := by rw [op_wait]; exact HW
    have HCN : Hid (∀ j u, [Value.int .i64 (k : Int), .string s][j]? = some u → ((w1.setCell ⟨gn, k, none⟩ (.string s)).alloc (.cells #[.int .i64 (k : Int), .string s] 223)).cell? ((⟨w1.heap.size, 0, none⟩ : Addr).add j) = some u) := fun j u hj => by
      have h := cells_two (w1.setCell ⟨gn, k, none⟩ (.string s)) _ _ 223 j u hj
      have e : (w1.setCell ⟨gn, k, none⟩ (.string s)).heap.size = w1.heap.size := by simp
      rw [e] at h
      exact h
    go_wp2_with (at_builtin; refine wpList_append_own_at _ rfl _ _ 84 rfl 0 223 i0 (.agg #[.int .i64 0, .string ⟨#[]⟩]) 2 24 Tryz.underlying84 hi0 hz0 hz1 hz2 rfl (by decide) _ _ _ rfl (World.ownsRow.alloc HW2.out _) _ 1 1 [.int .i64 (k : Int), .string s] rfl rfl HCN.out ?c2 ?c3 ?c4 ?c5 ?_)
    case c2 => intro u hu; simp at hu; rcases hu with rfl | rfl <;> rfl
    case c3 => have := HWL.out; unfold maxLen; omega
    case c4 => have := HWL.out; omega
    case c5 => omega
    intro v' w3 hown' hgrow _ hat
    obtain ⟨g', cap', rfl⟩ : ∃ g' cap', v' = .slice (some ⟨g', 0, none⟩) (r.op.wait.length + 1) cap' := by
      obtain ⟨-, h2 | ⟨g', cap', cur', hv', -⟩⟩ := hown'
      · omega
      · exact ⟨g', cap', hv'⟩
    have hz : w1.heap.size + 1 ≤ w3.heap.size := by have := hgrow.size; simpa using this
    have hbe : w3.heap[be]? = some (.cells (refRow sv (.slice (some ⟨gn, 0, none⟩) r.op.seen.length cn) wv r.op.left r.op.lit r.op.down) 86 (0, 0)) := by
      rw [hgrow.block be (by simp; omega) (fun e => HV.out.d3 be e.symm rfl), Below.heap_alloc _ _ _ (by simp; omega), heap_setCell_other _ _ _ _ (by show be ≠ gn; exact fun e => hgb e.symm)]
      exact HV.out.blk
    have d3 : w3.cell? ⟨be, 2, none⟩ = some wv := cell_of_row _ _ _ _ _ _ hbe
    have f3 := frozen_of_row w3 be 2 _ _ hbe
    have HOWN : Hid (w3.ownsRow 0 223 2 (.slice (some ⟨g', 0, none⟩) (r.op.wait.length + 1) cap') (r.op.wait.length + 1) (wrefs r.op.wait ++ [.int .i64 (k : Int), .string s])) := hown'
    have HGR : Hid (World.grownBy ((w1.setCell ⟨gn, k, none⟩ (.string s)).alloc (.cells #[.int .i64 (k : Int), .string s] 223)) w3 wv.ownBlock) := hgrow
    have HAT : Hid (some g' = wv.ownBlock ∨ some g' = some (w1.heap.size + 1)) := by
      show _ ∨ _
      simpa [Value.ownBlock] using hat
    have HBE : Hid (w3.heap[be]? = some (.cells (refRow sv (.slice (some ⟨gn, 0, none⟩) r.op.seen.length cn) wv r.op.left r.op.lit r.op.down) 86 (0, 0))) := hbe
    have HD : Hid (r.op.down = false) := hd
    clear hown' hgrow hat hbe hd d2 d2' HW2 HCN
    go_wp2
    go_ret
    have hV := HV.out
    have hws : ∀ g, some g' = some g → S g ∨ w.heap.size ≤ g := fun g hg => by
      rcases HAT.out with e | e
      · exact .inl (hV.wait.2 g (by rw [← e]; exact hg))
      · rw [e] at hg
        cases hg
        have := HS1.out.size
        exact .inr (by omega)
    have hold : ∀ g, g < w1.heap.size → some g' = some g → wv.ownBlock = some g := fun g hl hg => by
      rcases HAT.out with e | e
      · rw [← e]; exact hg
      · rw [e] at hg; cases hg; omega
    -- a block of the old heap that is none of the three
    have hkeep : ∀ g, g < w1.heap.size → g ≠ gn → wv.ownBlock ≠ some g → g ≠ be → (w3.setCell ⟨be, 2, none⟩ (.slice (some ⟨g', 0, none⟩) (r.op.wait.length + 1) cap')).heap[g]? = w1.heap[g]? := fun g hl h1 h2 h3 => by
      rw [heap_setCell_other _ _ _ _ h3, HGR.out.block g (by simp; omega) (fun e => h2 e.symm), Below.heap_alloc _ _ _ (by simp; omega), heap_setCell_other _ _ _ _ h1]
    have hsn : r.op.seen.length = n := by rw [op_seen, ← HN.out]
    have hwr : r.write k s = { r.op with seen := r.op.seen.set k s, wait := r.op.wait ++ [(k, s)] } := by unfold RDsk.write; rw [HD.out]; rfl
    have hans : r.ans = 0 := by unfold RDsk.ans; rw [HD.out]; rfl
    refine ⟨by rw [hans]; rfl, ⟨sv, .slice (some ⟨gn, 0, none⟩) n cn, .slice (some ⟨g', 0, none⟩) (r.op.wait.length + 1) cap', ?_⟩, ?_⟩
    · rw [hwr]
      refine ⟨?_, .inl hV.sb, ?_, ?_, ?_, ?_, ?_, ?_⟩
      · rw [heap_setCell_same w3 be 2 _ _ _ HBE.out, hsn]
        rfl
      · refine ⟨own_heap hV.safe.1 fun g hg => hkeep g (hV.safe.lt hg) ?_ (hV.d1 g hg).2.2 (hV.d1 g hg).1, fun g hg => .inl (hV.safe.2 g hg)⟩
        rintro rfl
        exact (hV.d1 g hg).2.1 rfl
      · have hseen := hV.seen.set k (.string s)
        have e1 : (strs r.op.seen).set k (.string s) = strs (r.op.seen.set k s) := by simp [strs, List.map_set]
        have e2 : (r.op.seen.set k s).length = n := by rw [List.length_set]; exact hsn
        rw [e1, hsn] at hseen
        refine ⟨?_, fun g hg => by cases hg; exact .inl HGN.out⟩
        show World.ownsRow _ _ _ _ _ (List.length (r.op.seen.set k s)) _
        rw [e2]
        refine own_heap hseen.1 fun g hg => ?_
        cases hg
        have hgl := hV.seen.lt (g := gn) rfl
        rw [heap_setCell_other _ _ _ _ hgb, HGR.out.block gn (by simp; omega) (fun e => (hV.d2 gn rfl).2 e.symm), Below.heap_alloc _ _ _ (by simp; omega)]
      · refine ⟨?_, hws⟩
        rw [wrefs_snoc] at HOWN
        have e : (r.op.wait ++ [(k, s)]).length = r.op.wait.length + 1 := by simp
        show World.ownsRow _ _ _ _ _ (List.length (r.op.wait ++ [(k, s)])) _
        rw [e]
        refine own_heap HOWN.out fun g hg => heap_setCell_other _ _ _ _ ?_
        rintro rfl
        rcases HAT.out with e | e
        · exact hV.d3 g (by rw [← e]; exact hg) rfl
        · have hg' : some g' = some g := hg
          rw [e] at hg'
          cases hg'
          omega
      · intro g hg
        have hgl := hV.safe.lt hg
        refine ⟨(hV.d1 g hg).1, (hV.d1 g hg).2.1, fun h => (hV.d1 g hg).2.2 (hold g hgl h)⟩
      · intro g hg
        cases hg
        have hgl := hV.seen.lt (g := gn) rfl
        exact ⟨hgb, fun h => (hV.d2 gn rfl).2 (hold gn hgl h)⟩
      · rintro g hg rfl
        exact hV.d3 g (hold g hlb hg) rfl
    · refine HS1.out.trans ?_
      refine ⟨by rw [show (w3.setCell _ _).os = w3.os from rfl, HGR.out.os]; rfl, by rw [show (w3.setCell _ _).tape = w3.tape from rfl, HGR.out.tape]; rfl, by rw [show (w3.setCell _ _).output = w3.output from rfl, HGR.out.output]; rfl, by simp; omega, fun g hl hg => ?_⟩
      exact hkeep g hl (by rintro rfl; exact hg HGN.out) (fun e => hg (hV.wait.2 g e)) (by rintro rfl; exact hg hV.sb)
  · have HV : Hid (RefAt w1 S be r.op) := ⟨sv, nv, wv, h1⟩
    have HD : Hid (r.op.down = true) := hd
    clear h1 s1 hd
    go_wp2
    go_ret
    have hwr : r.write k s = r.op := by unfold RDsk.write; rw [HD.out]; rfl
    rw [hwr]
    have hans : r.ans = 2 := by unfold RDsk.ans; rw [HD.out]; rfl
    exact ⟨by rw [hans]; rfl, HV.out.mono fun g h => .inl h, HS1.out⟩
end Go.Proofs.YtphhmjcobmnpeaaGreatDoor
