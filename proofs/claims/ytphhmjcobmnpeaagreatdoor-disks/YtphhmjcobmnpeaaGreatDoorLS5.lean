/- OWN TEXT: the law's steps of Disks: KDisk. -/
import Derived.Test.YtphhmjcobmnpeaaGreatDoorLS4
namespace Go.Proofs.YtphhmjcobmnpeaaGreatDoor
open Go.RowKit Go.Maps

/-- A pair more. -/
theorem DInvV.more {w W W3 WF : World} {i b n2 : Nat} {kv av av' : Value} {ks : List Int} {l : List PairD} {left left' : Int} {o : Nat → Nat} (h : DInvV w i W b kv ks av l left o) (p : PairD)
    (hs : Same (fun g => av.ownBlock = some g ∨ g = w.heap.size) W WF) (hs3 : Same (fun g => av.ownBlock = some g ∨ g = w.heap.size) W3 WF) (hz1 : W.heap.size ≤ n2) (hz2 : n2 ≤ W3.heap.size)
    (hrow : WF.heap[w.heap.size]? = some (.cells (dRow b kv av' left') 47 (0, 0))) (hall : WF.ownsRow 0 89 4 av' (l ++ [p]).length (pairsV (l ++ [p]))) (hb : ∀ g, av'.ownBlock = some g → av.ownBlock = some g ∨ (W3.heap.size ≤ g ∧ g < WF.heap.size))
    (hD : DskAt W3 (fun g => W.heap.size ≤ g ∧ g < n2) p.bd p.m p.d) (hR : RefAt W3 (fun g => n2 ≤ g ∧ g < W3.heap.size) p.be p.r) (hrel : Rel p.d p.r) (hw : p.d.wait.length ≤ i + 1) (hm : p.m ≤ i + 1) (hlo : -5000 ≤ left') (hhi : left' ≤ 262144) : DInv w (i + 1) WF := by
  obtain ⟨o', ho'⟩ : ∃ o' : Nat → Nat, o' = fun g => if g < W.heap.size then o g else if g < n2 then 2 * l.length + 2 else if g < W3.heap.size then 2 * l.length + 3 else 1 := ⟨_, rfl⟩
  have hz := hs.size
  have hz3 := hs3.size
  have hlt := lt_of_heap' h.row
  have halt : ∀ g, av.ownBlock = some g → g < W.heap.size := fun g hg => (h.all.2 g hg).2.2
  have far : ∀ q g, ownQ w W o q g → q ≠ 1 → ¬ (av.ownBlock = some g ∨ g = w.heap.size) := by
    rintro q g ⟨h1, h2, h3⟩ n1 (e | e)
    · have := (h.all.2 g e).1; omega
    · omega
  have up : ∀ q g, ownQ w W o q g → ownQ w WF o' q g := fun q g hq => ⟨by rw [ho']; show (if _ then _ else _) = _; rw [if_pos hq.2.2]; exact hq.1, hq.2.1, by have := hq.2.2; omega⟩
  have hal := h.al
  have hkl := h.kl
  refine ⟨b, kv, ks, av', l ++ [p], left', o', h.below.trans (hs.below ?_ h.below.size), hrow, (h.keep.on hs (fun g hg => far 0 g (h.keep.2 g hg) (by omega))).mono (up 0), by omega, ⟨hall, fun g hg => ?_⟩, by simp; omega, fun k hk => ?_, hlo, hhi⟩
  · rintro g (hg | rfl)
    · have := (h.all.2 g hg).2.1; omega
    · exact Nat.le_refl _
  · rcases hb g hg with h1 | ⟨h1, h2⟩
    · exact up 1 g (h.all.2 g h1)
    · exact ⟨by rw [ho']; show (if _ then _ else if _ then _ else if _ then _ else _) = _; rw [if_neg (by omega), if_neg (by omega), if_neg (by omega)], by omega, h2⟩
  · by_cases hkl : k < l.length
    · rw [List.getElem_append_left hkl]
      have h1 := h.each k hkl
      have hwl := h1.wl
      have hml := h1.ml
      exact ⟨(h1.dsk.on hs (fun g hg => far _ g hg (by omega))).mono (up _), (h1.ref.on hs (fun g hg => far _ g hg (by omega))).mono (up _), h1.rel, by omega, by omega⟩
    · have hk' : k = l.length := by simp at hk; omega
      subst hk'
      rw [List.getElem_append_right (Nat.le_refl _)]
      simp only [Nat.sub_self, List.getElem_cons_zero]
      have n1 : ∀ g, W.heap.size ≤ g → ¬ (av.ownBlock = some g ∨ g = w.heap.size) := by
        rintro g hg (e | e)
        · have := halt g e; omega
        · omega
      refine ⟨(hD.on hs3 (fun g hg => n1 g hg.1)).mono (fun g hg => ⟨?_, by omega, by omega⟩), (hR.on hs3 (fun g hg => n1 g (by omega))).mono (fun g hg => ⟨?_, by omega, by omega⟩), hrel, hw, hm⟩
      · rw [ho']; show (if _ then _ else if _ then _ else if _ then _ else _) = _; rw [if_neg (by omega), if_pos hg.2]
      · rw [ho']; show (if _ then _ else if _ then _ else if _ then _ else _) = _; rw [if_neg (by omega), if_neg (by omega), if_pos hg.2]

theorem infoPair : (Tryz.prog.info? 89).map (fun i => (i.zero, i.size, i.bytes)) = some (some (.agg #[.pointer none, .pointer none, .pointer none, .pointer none]), 4, 32) := by kernel_rfl
theorem cells_four (w : World) (x y z u : Value) (t : TypeId) : ∀ j v, [x, y, z, u][j]? = some v → (w.alloc (.cells #[x, y, z, u] t)).cell? ((⟨w.heap.size, 0, none⟩ : Addr).add j) = some v := by
  intro j v hj
  have e1 : (⟨w.heap.size, 0, none⟩ : Addr).add j = ⟨w.heap.size, j, none⟩ := by unfold Addr.add; split <;> simp_all
  rw [e1, cell_of_row _ _ _ _ _ _ (heap_alloc_new w _)]
  simpa using hj

set_option maxRecDepth 100000 in
set_option maxHeartbeats 2000000 in
theorem step_new (w W : World) (i : Nat) (hi : i ≤ 300000) (x : Stp) (hx : x.kind = 3) (hra : inR x.a) (I : DInv w i W) (hL : ∃ n : Int, 0 < n ∧ W.cell? ⟨w.heap.size, 5, none⟩ = some (.int .i64 n)) :
    Calls Tryz.prog 17 #[.pointer (some ⟨w.heap.size, 0, none⟩), stpV x] W fun e W' => e = .returned (.bool true) ∧ DInv w (i + 1) W' := by
  obtain ⟨b, kv, ks, av, l, left, o, I⟩ := I
  have hl0 : 0 < left := by
    obtain ⟨n, h1, h2⟩ := hL
    rw [I.left] at h2
    cases h2
    exact h1
  obtain ⟨kd, xa, xb, xd, xs, xt⟩ := x
  simp only at hx hra
  subst hx
  obtain ⟨W1, hW1⟩ : ∃ W1, W1 = W.alloc (.cells #[.int .i64 3, .int .i64 xa, .int .i64 xb, .int .i64 xd, .string xs, .string xt] 40) := ⟨_, rfl⟩
  have hb1 : Below W.heap.size W W1 := by rw [hW1]; exact (Below.refl _ _).alloc (Nat.le_refl _) _
  have d1 : W1.cell? ⟨W.heap.size, 1, none⟩ = some (.int .i64 xa) := by rw [hW1]; simp
  have hlt1 : W.heap.size < W1.heap.size := by rw [hW1]; simp
  have HA := dsk_new xa W1
  rw [hW1] at HA
  have HAH : Hid (Calls Tryz.prog 10 #[.int .i64 xa] (W.alloc (.cells #[.int .i64 3, .int .i64 xa, .int .i64 xb, .int .i64 xd, .string xs, .string xt] 40)) fun e w' => ∃ bd, e = .returned (.pointer (some ⟨bd, 0, none⟩)) ∧ DskAt w' (fun g => (W.alloc (.cells #[.int .i64 3, .int .i64 xa, .int .i64 xb, .int .i64 xd, .string xs, .string xt] 40)).heap.size ≤ g) bd 0 (Dsk.fresh (clampN xa)) ∧ Below (W.alloc (.cells #[.int .i64 3, .int .i64 xa, .int .i64 xb, .int .i64 xd, .string xs, .string xt] 40)).heap.size (W.alloc (.cells #[.int .i64 3, .int .i64 xa, .int .i64 xb, .int .i64 xd, .string xs, .string xt] 40)) w') := HA
  have HB : Hid (∀ V, Calls Tryz.prog 30 #[.int .i64 xa] V fun e w' => ∃ be, e = .returned (.pointer (some ⟨be, 0, none⟩)) ∧ RefAt w' (fun g => V.heap.size ≤ g) be (RDsk.fresh (clampN xa)) ∧ Below V.heap.size V w') := fun V => ref_new xa V hra
  obtain ⟨n, hn⟩ : ∃ n, n = clampN xa := ⟨_, rfl⟩
  have hnb := clampN_bound xa
  rw [← hn] at HAH HB hnb
  have HI : Hid (DInvV w i W b kv ks av l left o) := I
  have hhi := I.hi
  have hwrap : IntKind.i64.wrap (left - (n : Int)) = left - n := by rw [IntKind.wrap_i64]; omega
  clear HA hra hL I hn
  go_enter Tryz.func17, Tryz.ntmps17
  go_wp2_with fail
  refine HAH.out.mono ?_
  rintro e W2 ⟨bd, rfl, D2, B2⟩
  rw [← hW1] at D2 B2
  have d2 : W2.cell? ⟨W.heap.size, 1, none⟩ = some (.int .i64 xa) := by rw [B2.cell hlt1]; exact d1
  have HD2 : Hid (DskAt W2 (fun g => W1.heap.size ≤ g) bd 0 (Dsk.fresh n)) := D2
  have HB2 : Hid (Below W1.heap.size W1 W2) := B2
  clear D2 B2 HAH d1
  go_wp2_with fail
  refine (HB.out W2).mono ?_
  rintro e W3 ⟨be, rfl, R3, B3⟩
  have hb2 : Below W.heap.size W W2 := hb1.trans (HB2.out.mono (Nat.le_of_lt hlt1))
  have hb3 : Below W.heap.size W W3 := hb2.trans (B3.mono hb2.size)
  have hlw := lt_of_heap' HI.out.row
  have row3 : W3.heap[w.heap.size]? = some (.cells (dRow b kv av left) 47 (0, 0)) := by rw [hb3.block _ hlw]; exact HI.out.row
  have l3 : W3.cell? ⟨w.heap.size, 5, none⟩ = some (.int .i64 left) := cell_of_row _ _ _ _ _ _ row3
  have f3 := frozen_of_row W3 w.heap.size 5 _ _ row3
  obtain ⟨an, cn, s3⟩ : ∃ an cn, W3.cell? ⟨be, 1, none⟩ = some (.slice an n cn) := by
    obtain ⟨sv, nv, wv, hv⟩ := R3
    obtain ⟨an, cn, rfl⟩ := own_shape hv.seen
    refine ⟨an, cn, ?_⟩
    rw [cell_of_row _ _ _ _ _ _ hv.blk]
    show some (Value.slice an (List.replicate n z64).length cn) = _
    rw [List.length_replicate]
  have HD3 : Hid (DskAt W3 (fun g => W.heap.size ≤ g ∧ g < W2.heap.size) bd 0 (Dsk.fresh n)) := (HD2.out.tight.on (below_same (fun _ => False) B3) (fun _ _ h => h)).mono (fun g hg => ⟨Nat.le_trans hb1.size hg.1, hg.2⟩)
  have HR3 : Hid (RefAt W3 (fun g => W2.heap.size ≤ g ∧ g < W3.heap.size) be (RDsk.fresh n)) := R3.tight
  have HZ : Hid (W.heap.size ≤ W2.heap.size ∧ W2.heap.size ≤ W3.heap.size) := ⟨hb2.size, B3.size⟩
  have HB3 : Hid (Below W.heap.size W W3) := hb3
  obtain ⟨W4, hW4⟩ : ∃ W4, W4 = (W3.setCell ⟨w.heap.size, 5, none⟩ (.int .i64 (left - n))).drew := ⟨_, rfl⟩
  have row4 : W4.heap[w.heap.size]? = some (.cells (dRow b kv av (left - n)) 47 (0, 0)) := by
    rw [hW4]
    show (W3.setCell _ _).heap[_]? = _
    rw [heap_setCell_same W3 _ 5 _ _ _ row3]
    rfl
  have hs4 : Same (· = w.heap.size) W3 W4 := by
    rw [hW4]
    exact (Same.setCell (S := (· = w.heap.size)) (Same.refl _ _) ⟨w.heap.size, 5, none⟩ rfl _).drew
  have c4 : W4.cell? ⟨w.heap.size, 2, none⟩ = some av := cell_of_row _ _ _ _ _ _ row4
  have hown4 : W4.ownsRow 0 89 4 av l.length (pairsV l) := own_heap HI.out.all.1 (fun g hg => by
    have h1 := HI.out.all.2 g hg
    rw [hs4.block g (Nat.lt_of_lt_of_le h1.2.2 hb3.size) (by have := h1.2.1; show ¬ g = _; omega), hb3.block g h1.2.2])
  have HO4 : Hid (W4.ownsRow 0 89 4 av l.length (pairsV l)) := hown4
  have HS4 : Hid (Same (· = w.heap.size) W3 W4) := hs4
  have HR4 : Hid (W4.heap[w.heap.size]? = some (.cells (dRow b kv av (left - n)) 47 (0, 0))) := row4
  have HL : Hid (l.length ≤ 300000) := Nat.le_trans HI.out.al hi
  obtain ⟨ip, hip, hz0, hz1, hz2⟩ := info_parts infoPair
  have HLW : Hid (w.heap.size < W.heap.size) := hlw
  clear R3 B3 hb2 hb3 row3 hb1 hlt1 d2 HD2 HB2 HB hown4 hs4 row4 hlw hW1
  go_wp2
  go_region
  rw [← hW4]
  clear hW4 s3 l3 f3
  go_wp2_with (at_builtin; refine wpList_append_own_at _ rfl _ _ 44 rfl 0 89 ip (.agg #[.pointer none, .pointer none, .pointer none, .pointer none]) 4 32 Tryz.underlying44 hip hz0 hz1 hz2 rfl (by decide) _ _ _ rfl (World.ownsRow.alloc HO4.out _) _ 1 1 [.pointer (some ⟨bd, 0, none⟩), .pointer (some ⟨be, 0, none⟩), .pointer none, .pointer none] rfl rfl (cells_four _ _ _ _ _ _) ?c2 ?c3 ?c4 ?c5 ?_)
  case c2 => intro u hu; simp at hu; rcases hu with rfl | rfl | rfl <;> rfl
  case c3 => have := HL.out; unfold maxLen; omega
  case c4 => have := HL.out; omega
  case c5 => omega
  intro v' W5 hown' hgrow _ hat
  obtain ⟨g', cap', rfl⟩ : ∃ g' cap', v' = .slice (some ⟨g', 0, none⟩) (l.length + 1) cap' := by
    obtain ⟨-, h2 | ⟨g', cap', cur', hv', -⟩⟩ := hown'
    · omega
    · exact ⟨g', cap', hv'⟩
  have hz5 : W4.heap.size + 1 ≤ W5.heap.size := by have := hgrow.size; simpa using this
  have hz34 := HS4.out.size
  have hz13 := HB3.out.size
  have hlw := HLW.out
  have hav : ∀ q, av.ownBlock = some q → q < W.heap.size ∧ q ≠ w.heap.size := fun q hq => by
    have h1 := HI.out.all.2 q hq
    exact ⟨h1.2.2, by have := h1.2.1; omega⟩
  have hbe : W5.heap[w.heap.size]? = some (.cells (dRow b kv av (left - n)) 47 (0, 0)) := by
    rw [hgrow.block _ (by simp; omega) (fun e => (hav _ e.symm).2 rfl), Below.heap_alloc _ _ _ (by omega)]
    exact HR4.out
  have k5 : W5.cell? ⟨w.heap.size, 2, none⟩ = some av := cell_of_row _ _ _ _ _ _ hbe
  have f5 := frozen_of_row W5 w.heap.size 2 _ _ hbe
  have hat' : av.ownBlock = some g' ∨ g' = W4.heap.size + 1 := by
    rcases hat with e | e
    · exact .inl e.symm
    · exact .inr (by simpa [Value.ownBlock] using e)
  have hgw : g' ≠ w.heap.size := by
    rcases hat' with e | e
    · exact (hav g' e).2
    · omega
  have hs3 : Same (fun g => av.ownBlock = some g ∨ g = w.heap.size) W3 (W5.setCell ⟨w.heap.size, 2, none⟩ (.slice (some ⟨g', 0, none⟩) (l.length + 1) cap')) := by
    have h4 := HS4.out
    refine ⟨?_, ?_, ?_, by simp; omega, fun q hq hn' => ?_⟩
    · rw [show (W5.setCell _ _).os = W5.os from rfl, hgrow.os]; exact h4.os
    · rw [show (W5.setCell _ _).tape = W5.tape from rfl, hgrow.tape]; exact h4.tape
    · rw [show (W5.setCell _ _).output = W5.output from rfl, hgrow.output]; exact h4.output
    · rw [heap_setCell_other _ _ _ _ (fun e => hn' (.inr e)), hgrow.block q (by simp; omega) (fun e => hn' (.inl e.symm)), Below.heap_alloc _ _ _ (by omega), h4.block q hq (fun e => hn' (.inr e))]
  have HG : Hid (DInv w (i + 1) (W5.setCell ⟨w.heap.size, 2, none⟩ (.slice (some ⟨g', 0, none⟩) (l.length + 1) cap'))) := by
    refine HI.out.more (n2 := W2.heap.size) (av' := .slice (some ⟨g', 0, none⟩) (l.length + 1) cap') (left' := left - n) ⟨bd, be, 0, Dsk.fresh n, RDsk.fresh n⟩ ((below_same _ HB3.out).trans hs3) hs3 HZ.out.1 HZ.out.2 ?_ ?_ ?_ HD3.out HR3.out (Rel.fresh n hnb) (Nat.zero_le _) (Nat.zero_le _) (by omega) (by omega)
    · rw [heap_setCell_same W5 _ 2 _ _ _ hbe]; rfl
    · have e : pairsV (l ++ [⟨bd, be, 0, Dsk.fresh n, RDsk.fresh n⟩]) = pairsV l ++ [.pointer (some ⟨bd, 0, none⟩), .pointer (some ⟨be, 0, none⟩), .pointer none, .pointer none] := by simp [pairsV, pairV]
      have e2 : (l ++ [(⟨bd, be, 0, Dsk.fresh n, RDsk.fresh n⟩ : PairD)]).length = l.length + 1 := by simp
      rw [e, e2]
      refine own_heap hown' (fun q hq => ?_)
      cases hq
      exact heap_setCell_other _ _ _ _ hgw
    · intro q hq
      cases hq
      have hlg : g' < W5.heap.size := OwnS.lt (S := fun _ => True) ⟨hown', fun _ _ => trivial⟩ rfl
      rcases hat' with e | e
      · exact .inl e
      · exact .inr ⟨by show W3.heap.size ≤ g'; omega, by simpa using hlg⟩
  clear hown' hgrow hat hat' hs3 hbe hav hgw hz5 hz34 hz13 hlw HI HD3 HR3 HZ HB3 HO4 HS4 HR4 HL HLW
  go_wp2
  go_ret
  exact ⟨rfl, HG.out⟩
end Go.Proofs.YtphhmjcobmnpeaaGreatDoor
