/- OWN TEXT: joined of: LS5 LS6 Laid CardFacts DisksCard. -/
import Derived.Test.YtapijhhmjjplmaaGreatDoorRows
import Derived.ProofKit
import Derived.LaidMore
import Derived.LaidLaws
import Derived.LaidHandle
import Derived.SevenTiedAt
import Derived.Test.YtapijhhmjjplmaaGreatDoorCards
import Derived.Test.YtapijhhmjjplmaaGreatDoorTie
import Derived.Carry
import Derived.Stop.Joined
import Derived.Test.YtapijhhmjjplmaaGreatDoorJdisks7
namespace Go.Proofs.YtapijhhmjjplmaaGreatDoor
open Go.RowKit Go.Maps

/-- A pair more. -/
theorem DInvV.more {w W W3 WF : World} {i b n2 : Nat} {kv av av' : Value} {ks : List Int} {l : List PairD} {left left' : Int} {o : Nat → Nat} (h : DInvV w i W b kv ks av l left o) (p : PairD)
    (hs : Same (fun g => av.ownBlock = some g ∨ g = w.heap.size) W WF) (hs3 : Same (fun g => av.ownBlock = some g ∨ g = w.heap.size) W3 WF) (hz1 : W.heap.size ≤ n2) (hz2 : n2 ≤ W3.heap.size)
    (hrow : WF.heap[w.heap.size]? = some (.cells (dRow b kv av' left') 73 (0, 0))) (hall : WF.ownsRow 0 152 4 av' (l ++ [p]).length (pairsV (l ++ [p]))) (hb : ∀ g, av'.ownBlock = some g → av.ownBlock = some g ∨ (W3.heap.size ≤ g ∧ g < WF.heap.size))
    (hD : DskAt W3 (fun g => W.heap.size ≤ g ∧ g < n2) p.bd p.m p.d) (hR : RefAt W3 (fun g => n2 ≤ g ∧ g < W3.heap.size) p.be p.r) (hrel : Rel p.d p.r) (hw : p.d.wait.length ≤ i + 1) (hm : p.m ≤ i + 1) (hlo : -5000 ≤ left') (hhi : left' ≤ 262144) : DInv w (i + 1) WF := by
  obtain ⟨o', ho'⟩ : ∃ o' : Nat → Nat, o' = fun g => if g < W.heap.size then o g else if g < n2 then 2 * l.length + 2 else if g < W3.heap.size then 2 * l.length + 3 else 1 := ⟨_, rfl⟩
  have hz := hs.size
  have hz3 := hs3.size
  have hlt := lt_of_heap' h.row
  have halt : ∀ g, av.ownBlock = some g → g < W.heap.size := fun g hg => (h.all.2 g hg).2.2
  have far : ∀ q g, ownQ w W o q g → q ≠ 1 → ¬ (av.ownBlock = some g ∨ g = w.heap.size) := by
    rintro q g ⟨h1, h2, h3⟩ n1 (e | e)
    · have := (h.all.2 g e).1; omega
    · omega
  have up : ∀ q g, ownQ w W o q g → ownQ w WF o' q g := fun q g hq => ⟨by rw [ho']; show (if _ then _ else _) = _; rw [if_pos hq.2.2]; exact hq.1, hq.2.1, by have := hq.2.2; omega⟩
  have hal := h.al
  have hkl := h.kl
  refine ⟨b, kv, ks, av', l ++ [p], left', o', h.below.trans (hs.below ?_ h.below.size), hrow, (h.keep.on hs (fun g hg => far 0 g (h.keep.2 g hg) (by omega))).mono (up 0), by omega, ⟨hall, fun g hg => ?_⟩, by simp; omega, fun k hk => ?_, hlo, hhi⟩
  · rintro g (hg | rfl)
    · have := (h.all.2 g hg).2.1; omega
    · exact Nat.le_refl _
  · rcases hb g hg with h1 | ⟨h1, h2⟩
    · exact up 1 g (h.all.2 g h1)
    · exact ⟨by rw [ho']; show (if _ then _ else if _ then _ else if _ then _ else _) = _; rw [if_neg (by omega), if_neg (by omega), if_neg (by omega)], by omega, h2⟩
  · by_cases hkl : k < l.length
    · rw [List.getElem_append_left hkl]
      have h1 := h.each k hkl
      have hwl := h1.wl
      have hml := h1.ml
      exact ⟨(h1.dsk.on hs (fun g hg => far _ g hg (by omega))).mono (up _), (h1.ref.on hs (fun g hg => far _ g hg (by omega))).mono (up _), h1.rel, by omega, by omega⟩
    · have hk' : k = l.length := by simp at hk; omega
      subst hk'
      rw [List.getElem_append_right (Nat.le_refl _)]
      simp only [Nat.sub_self, List.getElem_cons_zero]
      have n1 : ∀ g, W.heap.size ≤ g → ¬ (av.ownBlock = some g ∨ g = w.heap.size) := by
        rintro g hg (e | e)
        · have := halt g e; omega
        · omega
      refine ⟨(hD.on hs3 (fun g hg => n1 g hg.1)).mono (fun g hg => ⟨?_, by omega, by omega⟩), (hR.on hs3 (fun g hg => n1 g (by omega))).mono (fun g hg => ⟨?_, by omega, by omega⟩), hrel, hw, hm⟩
      · rw [ho']; show (if _ then _ else if _ then _ else if _ then _ else _) = _; rw [if_neg (by omega), if_pos hg.2]
      · rw [ho']; show (if _ then _ else if _ then _ else if _ then _ else _) = _; rw [if_neg (by omega), if_neg (by omega), if_pos hg.2]

theorem infoPair : (Tryz.prog.info? 152).map (fun i => (i.zero, i.size, i.bytes)) = some (some (.agg #[.pointer none, .pointer none, .pointer none, .pointer none]), 4, 32) := by kernel_rfl
theorem cells_four (w : World) (x y z u : Value) (t : TypeId) : ∀ j v, [x, y, z, u][j]? = some v → (w.alloc (.cells #[x, y, z, u] t)).cell? ((⟨w.heap.size, 0, none⟩ : Addr).add j) = some v := by
  intro j v hj
  have e1 : (⟨w.heap.size, 0, none⟩ : Addr).add j = ⟨w.heap.size, j, none⟩ := by unfold Addr.add; split <;> simp_all
  rw [e1, cell_of_row _ _ _ _ _ _ (heap_alloc_new w _)]
  simpa using hj

set_option maxRecDepth 100000 in
set_option maxHeartbeats 2000000 in
theorem step_new (w W : World) (i : Nat) (hi : i ≤ 300000) (x : Stp) (hx : x.kind = 3) (hra : inR x.a) (I : DInv w i W) (hL : ∃ n : Int, 0 < n ∧ W.cell? ⟨w.heap.size, 5, none⟩ = some (.int .i64 n)) :
    Calls Tryz.prog 41 #[.pointer (some ⟨w.heap.size, 0, none⟩), stpV x] W fun e W' => e = .returned (.bool true) ∧ DInv w (i + 1) W' := by
  obtain ⟨b, kv, ks, av, l, left, o, I⟩ := I
  have hl0 : 0 < left := by
    obtain ⟨n, h1, h2⟩ := hL
    rw [I.left] at h2
    cases h2
    exact h1
  obtain ⟨kd, xa, xb, xd, xs, xt⟩ := x
  simp only at hx hra
  subst hx
  obtain ⟨W1, hW1⟩ : ∃ W1, W1 = W.alloc (.cells #[.int .i64 3, .int .i64 xa, .int .i64 xb, .int .i64 xd, .string xs, .string xt] 67) := ⟨_, rfl⟩
  have hb1 : Below W.heap.size W W1 := by rw [hW1]; exact (Below.refl _ _).alloc (Nat.le_refl _) _
  have d1 : W1.cell? ⟨W.heap.size, 1, none⟩ = some (.int .i64 xa) := by rw [hW1]; simp
  have hlt1 : W.heap.size < W1.heap.size := by rw [hW1]; simp
  have HA := dsk_new xa W1
  rw [hW1] at HA
  have HAH : Hid (Calls Tryz.prog 24 #[.int .i64 xa] (W.alloc (.cells #[.int .i64 3, .int .i64 xa, .int .i64 xb, .int .i64 xd, .string xs, .string xt] 67)) fun e w' => ∃ bd, e = .returned (.pointer (some ⟨bd, 0, none⟩)) ∧ DskAt w' (fun g => (W.alloc (.cells #[.int .i64 3, .int .i64 xa, .int .i64 xb, .int .i64 xd, .string xs, .string xt] 67)).heap.size ≤ g) bd 0 (Dsk.fresh (clampN xa)) ∧ Below (W.alloc (.cells #[.int .i64 3, .int .i64 xa, .int .i64 xb, .int .i64 xd, .string xs, .string xt] 67)).heap.size (W.alloc (.cells #[.int .i64 3, .int .i64 xa, .int .i64 xb, .int .i64 xd, .string xs, .string xt] 67)) w') := HA
  have HB : Hid (∀ V, Calls Tryz.prog 69 #[.int .i64 xa] V fun e w' => ∃ be, e = .returned (.pointer (some ⟨be, 0, none⟩)) ∧ RefAt w' (fun g => V.heap.size ≤ g) be (RDsk.fresh (clampN xa)) ∧ Below V.heap.size V w') := fun V => ref_new xa V hra
  obtain ⟨n, hn⟩ : ∃ n, n = clampN xa := ⟨_, rfl⟩
  have hnb := clampN_bound xa
  rw [← hn] at HAH HB hnb
  have HI : Hid (DInvV w i W b kv ks av l left o) := I
  have hhi := I.hi
  have hwrap : IntKind.i64.wrap (left - (n : Int)) = left - n := by rw [IntKind.wrap_i64]; omega
  clear HA hra hL I hn
  go_enter Tryz.func41, Tryz.ntmps41
  go_wp2_with fail
  refine HAH.out.mono ?_
  rintro e W2 ⟨bd, rfl, D2, B2⟩
  rw [← hW1] at D2 B2
  have d2 : W2.cell? ⟨W.heap.size, 1, none⟩ = some (.int .i64 xa) := by rw [B2.cell hlt1]; exact d1
  have HD2 : Hid (DskAt W2 (fun g => W1.heap.size ≤ g) bd 0 (Dsk.fresh n)) := D2
  have HB2 : Hid (Below W1.heap.size W1 W2) := B2
  clear D2 B2 HAH d1
  go_wp2_with fail
  refine (HB.out W2).mono ?_
  rintro e W3 ⟨be, rfl, R3, B3⟩
  have hb2 : Below W.heap.size W W2 := hb1.trans (HB2.out.mono (Nat.le_of_lt hlt1))
  have hb3 : Below W.heap.size W W3 := hb2.trans (B3.mono hb2.size)
  have hlw := lt_of_heap' HI.out.row
  have row3 : W3.heap[w.heap.size]? = some (.cells (dRow b kv av left) 73 (0, 0)) := by rw [hb3.block _ hlw]; exact HI.out.row
  have l3 : W3.cell? ⟨w.heap.size, 5, none⟩ = some (.int .i64 left) := cell_of_row _ _ _ _ _ _ row3
  have f3 := frozen_of_row W3 w.heap.size 5 _ _ row3
  obtain ⟨an, cn, s3⟩ : ∃ an cn, W3.cell? ⟨be, 1, none⟩ = some (.slice an n cn) := by
    obtain ⟨sv, nv, wv, hv⟩ := R3
    obtain ⟨an, cn, rfl⟩ := own_shape hv.seen
    refine ⟨an, cn, ?_⟩
    rw [cell_of_row _ _ _ _ _ _ hv.blk]
    show some (Value.slice an (List.replicate n z64).length cn) = _
    rw [List.length_replicate]
  have HD3 : Hid (DskAt W3 (fun g => W.heap.size ≤ g ∧ g < W2.heap.size) bd 0 (Dsk.fresh n)) := (HD2.out.tight.on (below_same (fun _ => False) B3) (fun _ _ h => h)).mono (fun g hg => ⟨Nat.le_trans hb1.size hg.1, hg.2⟩)
  have HR3 : Hid (RefAt W3 (fun g => W2.heap.size ≤ g ∧ g < W3.heap.size) be (RDsk.fresh n)) := R3.tight
  have HZ : Hid (W.heap.size ≤ W2.heap.size ∧ W2.heap.size ≤ W3.heap.size) := ⟨hb2.size, B3.size⟩
  have HB3 : Hid (Below W.heap.size W W3) := hb3
  obtain ⟨W4, hW4⟩ : ∃ W4, W4 = (W3.setCell ⟨w.heap.size, 5, none⟩ (.int .i64 (left - n))).drew := ⟨_, rfl⟩
  have row4 : W4.heap[w.heap.size]? = some (.cells (dRow b kv av (left - n)) 73 (0, 0)) := by
    rw [hW4]
    show (W3.setCell _ _).heap[_]? = _
    rw [heap_setCell_same W3 _ 5 _ _ _ row3]
    rfl
  have hs4 : Same (· = w.heap.size) W3 W4 := by
    rw [hW4]
    exact (Same.setCell (S := (· = w.heap.size)) (Same.refl _ _) ⟨w.heap.size, 5, none⟩ rfl _).drew
  have c4 : W4.cell? ⟨w.heap.size, 2, none⟩ = some av := cell_of_row _ _ _ _ _ _ row4
  have hown4 : W4.ownsRow 0 152 4 av l.length (pairsV l) := own_heap HI.out.all.1 (fun g hg => by
    have h1 := HI.out.all.2 g hg
    rw [hs4.block g (Nat.lt_of_lt_of_le h1.2.2 hb3.size) (by have := h1.2.1; show ¬ g = _; omega), hb3.block g h1.2.2])
  have HO4 : Hid (W4.ownsRow 0 152 4 av l.length (pairsV l)) := hown4
  have HS4 : Hid (Same (· = w.heap.size) W3 W4) := hs4
  have HR4 : Hid (W4.heap[w.heap.size]? = some (.cells (dRow b kv av (left - n)) 73 (0, 0))) := row4
  have HL : Hid (l.length ≤ 300000) := Nat.le_trans HI.out.al hi
  obtain ⟨ip, hip, hz0, hz1, hz2⟩ := info_parts infoPair
  have HLW : Hid (w.heap.size < W.heap.size) := hlw
  clear R3 B3 hb2 hb3 row3 hb1 hlt1 d2 HD2 HB2 HB hown4 hs4 row4 hlw hW1
  go_wp2
  go_region
  rw [← hW4]
  clear hW4 s3 l3 f3
  go_wp2_with (at_builtin; refine wpList_append_own_at _ rfl _ _ 70 rfl 0 152 ip (.agg #[.pointer none, .pointer none, .pointer none, .pointer none]) 4 32 Tryz.underlying70 hip hz0 hz1 hz2 rfl (by decide) _ _ _ rfl (World.ownsRow.alloc HO4.out _) _ 1 1 [.pointer (some ⟨bd, 0, none⟩), .pointer (some ⟨be, 0, none⟩), .pointer none, .pointer none] rfl rfl (cells_four _ _ _ _ _ _) ?c2 ?c3 ?c4 ?c5 ?_)
  case c2 => intro u hu; simp at hu; rcases hu with rfl | rfl | rfl <;> rfl
  case c3 => have := HL.out; unfold maxLen; omega
  case c4 => have := HL.out; omega
  case c5 => omega
  intro v' W5 hown' hgrow _ hat
  obtain ⟨g', cap', rfl⟩ : ∃ g' cap', v' = .slice (some ⟨g', 0, none⟩) (l.length + 1) cap' := by
    obtain ⟨-, h2 | ⟨g', cap', cur', hv', -⟩⟩ := hown'
    · omega
    · exact ⟨g', cap', hv'⟩
  have hz5 : W4.heap.size + 1 ≤ W5.heap.size := by have := hgrow.size; simpa using this
  have hz34 := HS4.out.size
  have hz13 := HB3.out.size
  have hlw := HLW.out
  have hav : ∀ q, av.ownBlock = some q → q < W.heap.size ∧ q ≠ w.heap.size := fun q hq => by
    have h1 := HI.out.all.2 q hq
    exact ⟨h1.2.2, by have := h1.2.1; omega⟩
  have hbe : W5.heap[w.heap.size]? = some (.cells (dRow b kv av (left - n)) 73 (0, 0)) := by
    rw [hgrow.block _ (by simp; omega) (fun e => (hav _ e.symm).2 rfl), Below.heap_alloc _ _ _ (by omega)]
    exact HR4.out
  have k5 : W5.cell? ⟨w.heap.size, 2, none⟩ = some av := cell_of_row _ _ _ _ _ _ hbe
  have f5 := frozen_of_row W5 w.heap.size 2 _ _ hbe
  have hat' : av.ownBlock = some g' ∨ g' = W4.heap.size + 1 := by
    rcases hat with e | e
    · exact .inl e.symm
    · exact .inr (by simpa [Value.ownBlock] using e)
  have hgw : g' ≠ w.heap.size := by
    rcases hat' with e | e
    · exact (hav g' e).2
    · omega
  have hs3 : Same (fun g => av.ownBlock = some g ∨ g = w.heap.size) W3 (W5.setCell ⟨w.heap.size, 2, none⟩ (.slice (some ⟨g', 0, none⟩) (l.length + 1) cap')) := by
    have h4 := HS4.out
    refine ⟨?_, ?_, ?_, by simp; omega, fun q hq hn' => ?_⟩
    · rw [show (W5.setCell _ _).os = W5.os from rfl, hgrow.os]; exact h4.os
    · rw [show (W5.setCell _ _).tape = W5.tape from rfl, hgrow.tape]; exact h4.tape
    · rw [show (W5.setCell _ _).output = W5.output from rfl, hgrow.output]; exact h4.output
    · rw [heap_setCell_other _ _ _ _ (fun e => hn' (.inr e)), hgrow.block q (by simp; omega) (fun e => hn' (.inl e.symm)), Below.heap_alloc _ _ _ (by omega), h4.block q hq (fun e => hn' (.inr e))]
  have HG : Hid (DInv w (i + 1) (W5.setCell ⟨w.heap.size, 2, none⟩ (.slice (some ⟨g', 0, none⟩) (l.length + 1) cap'))) := by
    refine HI.out.more (n2 := W2.heap.size) (av' := .slice (some ⟨g', 0, none⟩) (l.length + 1) cap') (left' := left - n) ⟨bd, be, 0, Dsk.fresh n, RDsk.fresh n⟩ ((below_same _ HB3.out).trans hs3) hs3 HZ.out.1 HZ.out.2 ?_ ?_ ?_ HD3.out HR3.out (Rel.fresh n hnb) (Nat.zero_le _) (Nat.zero_le _) (by omega) (by omega)
    · rw [heap_setCell_same W5 _ 2 _ _ _ hbe]; rfl
    · have e : pairsV (l ++ [⟨bd, be, 0, Dsk.fresh n, RDsk.fresh n⟩]) = pairsV l ++ [.pointer (some ⟨bd, 0, none⟩), .pointer (some ⟨be, 0, none⟩), .pointer none, .pointer none] := by simp [pairsV, pairV]
      have e2 : (l ++ [(⟨bd, be, 0, Dsk.fresh n, RDsk.fresh n⟩ : PairD)]).length = l.length + 1 := by simp
      rw [e, e2]
      refine own_heap hown' (fun q hq => ?_)
      cases hq
      exact heap_setCell_other _ _ _ _ hgw
    · intro q hq
      cases hq
      have hlg : g' < W5.heap.size := OwnS.lt (S := fun _ => True) ⟨hown', fun _ _ => trivial⟩ rfl
      rcases hat' with e | e
      · exact .inl e
      · exact .inr ⟨by show W3.heap.size ≤ g'; omega, by simpa using hlg⟩
  clear hown' hgrow hat hat' hs3 hbe hav hgw hz5 hz34 hz13 hlw HI HD3 HR3 HZ HB3 HO4 HS4 HR4 HL HLW
  go_wp2
  go_ret
  exact ⟨rfl, HG.out⟩
end Go.Proofs.YtapijhhmjjplmaaGreatDoor
namespace Go.Proofs.YtapijhhmjjplmaaGreatDoor
open Go.RowKit Go.Maps

theorem DInv.init {w w1 : World} {b : Nat} {kv hv : Value} (M : Made (w.alloc (.cells freshW 73)) w1 b kv hv) : DInv w 0 (w1.setCell ⟨w.heap.size, 0, none⟩ (.pointer (some ⟨b, 0, none⟩))) := by
  have S := SInv.init M
  have h0 : w1.heap[w.heap.size]? = some (.cells freshW 73 (0, 0)) := by
    rw [M.below.block _ (by simp)]
    exact heap_alloc_new w _
  refine ⟨b, .slice none 0 0, [], .slice none 0 0, [], 262144, fun _ => 0, ⟨S.below, ?_, ⟨⟨rfl, .inl ⟨rfl, rfl⟩⟩, fun g hg => (by cases hg)⟩, Nat.le_refl _, ⟨⟨rfl, .inl ⟨rfl, rfl⟩⟩, fun g hg => (by cases hg)⟩, Nat.le_refl _, fun k hk => (by cases hk), by omega, by omega⟩⟩
  rw [heap_setCell_same w1 _ 0 _ _ _ h0]
  rfl

theorem disks_steps (w : World) (l : List Stp) (hb : l.length ≤ 262144) (a : Nat → Addr) (S0 : Sent w a) : StepsN w 4088 l (DInv w) D4088 where
  below := fun _ _ h => by obtain ⟨b, kv, ks, av, l, left, o, I⟩ := h; exact I.below
  left := fun _ W h => by obtain ⟨b, kv, ks, av, l, left, o, I⟩ := h; exact ⟨left, I.left⟩
  mono := fun _ _ _ h hb => by obtain ⟨b, kv, ks, av, l, left, o, I⟩ := h; exact ⟨b, kv, ks, av, l, left, o, I.mono hb⟩
  succ := fun _ _ h => by obtain ⟨b, kv, ks, av, l, left, o, I⟩ := h; exact ⟨b, kv, ks, av, l, left, o, I.succ⟩
  init := fun _ _ _ _ M => DInv.init M
  does := fun x _ h1 h2 W => does4088 x h1 h2 W
  step := fun i x hi _ _ _ hd W I hL hra hrd => by
    unfold D4088 at hd
    rw [Bool.and_eq_true, decide_eq_true_iff, decide_eq_true_iff] at hd
    by_cases h3 : x.kind = 3
    · exact step_new w W i (by omega) x h3 hra I hL
    · by_cases h8 : x.kind = 8
      · exact step_keep w W i (by omega) x h8 I
      · exact step_pair w W a S0 i (by omega) x (by omega) hra hrd I hL
  looks := fun i W I => by
    have hI := I
    obtain ⟨b, kv, ks, av, l, left, o, I⟩ := I
    have c3 : W.cell? ⟨w.heap.size, 3, none⟩ = some (.slice none 0 0) := by rw [cell_of_row _ _ _ _ _ _ I.row]; rfl
    refine (looks_nil w.heap.size W c3).mono ?_
    rintro e W' ⟨rfl, rfl⟩
    exact ⟨rfl, hI⟩
set_option maxRecDepth 100000 in
theorem disks_any (v : Value) (l : List Stp) (w : World) (hs : Scr w v l) (a : Nat → Addr) (S0 : Sent w a) :
    Calls Tryz.prog 4 #[v] w fun e w' => e = .returned (.bool true) ∧ Below w.heap.size w w' := by
  have hp := plays_ofN 4088 4088 false v l w hs (fun w1 hb hl => ⟨_, _, disks_steps w1 l (by omega) a (S0.on hb)⟩)
  have HH : Hid (Calls Tryz.prog 13 #[v, .int .i64 4088, .int .i64 4088, .bool false] w fun e w' => PlaysPost w e w') := hp
  clear hp
  go_enter Tryz.func4, Tryz.ntmps4
  go_wp2_with fail
  refine HH.out.mono ?_
  rintro e w1 ⟨rfl, hb⟩
  have HB : Hid (Below w.heap.size w w1) := hb
  clear hb
  go_wp2
  go_ret
  exact ⟨rfl, HB.out⟩
end Go.Proofs.YtapijhhmjjplmaaGreatDoor
namespace Go.Proofs.YtapijhhmjjplmaaGreatDoor
open Go.ChangeShapes Go.WideShapes Go.RowKit

/-- A list of laid variables, position by position: each reads as listed; what one position's pointers lead to is met at no other. -/
theorem laid_all {P : Program} {W : World} : ∀ {l : List (String × DataW Unit)} {ps : List MemPlace}, DataW.LaidVars P W l ps → ps.Nodup →
    ∃ pl : Nat → List MemPlace, (∀ j (h : j < l.length), ∃ g t cs fuel, P.globalNamed l[j].1 = some g ∧ (P.globals[g]?).map (·.type) = some t ∧ W.var? P l[j].1 = some cs ∧
      DataW.trod (fun _ => ()) P W 0 (fun _ => true) false fuel t cs.toList = some (l[j].2, pl j) ∧ ∀ x ∈ MemPlace.row ⟨g, 0, none⟩ cs.size ++ pl j, x ∈ ps) ∧
      ∀ i j, i < j → j < l.length → ∀ x ∈ pl i, x ∉ pl j
  | [], ps, _, _ => ⟨fun _ => [], fun j h => absurd h (Nat.not_lt_zero _), fun i j _ h => absurd h (Nat.not_lt_zero _)⟩
  | (n, d) :: r, ps, h, hnd => by
    obtain ⟨g, t, cs, fuel, p, q, hg, ht, hv, hd, hr, e⟩ := h
    subst e
    have hnq : q.Nodup := (List.nodup_append.1 hnd).2.1
    obtain ⟨pl, h1, h2⟩ := laid_all hr hnq
    have hsub : ∀ j, j < r.length → ∀ x ∈ pl j, x ∈ q := fun j hj x hx => by
      obtain ⟨g', t', cs', fuel', _, _, _, _, hin⟩ := h1 j hj
      exact hin x (List.mem_append_right _ hx)
    refine ⟨fun j => match j with | 0 => p | j + 1 => pl j, ?_, ?_⟩
    · intro j hj
      match j, hj with
      | 0, _ => exact ⟨g, t, cs, fuel, hg, ht, hv, hd, fun x hx => List.mem_append_left _ hx⟩
      | j + 1, hj =>
        obtain ⟨g', t', cs', fuel', a1, a2, a3, a4, a5⟩ := h1 j (Nat.lt_of_succ_lt_succ hj)
        exact ⟨g', t', cs', fuel', a1, a2, a3, a4, fun x hx => List.mem_append_right _ (a5 x hx)⟩
    · intro i j hij hj x hx hx'
      match i, j, hij, hj with
      | 0, j + 1, _, hj =>
        have := hsub j (Nat.lt_of_succ_lt_succ hj) x hx'
        exact (List.nodup_append.1 hnd).2.2 x (List.mem_append_right _ hx) x this rfl
      | i + 1, j + 1, hij, hj => exact h2 i j (Nat.lt_of_succ_lt_succ hij) (Nat.lt_of_succ_lt_succ hj) x hx hx'

theorem star : "*" ++ "errors.errorString" = "*errors.errorString" := by decide
theorem rowE (u : TypeId) (h : Tryz.prog.typeName? 3 u = some "*errors.errorString") : u = 458 :=
  typeName_ptr_named (nm := "errors.errorString") (by rw [star]; kernel_rfl) (by kernel_rfl) (by decide) u (by rw [star]; exact h)
theorem cellsE : Tryz.prog.cellsOf 476 = 1 := by kernel_rfl
theorem cellsS : Tryz.prog.cellsOf 9 = 1 := by kernel_rfl

set_option maxRecDepth 100000 in
/-- One sentinel out of one position. -/
theorem sent_at {W : World} {n : String} {text : List UInt8} {g : Nat} {p ps : List MemPlace} {t : TypeId} {cs : Array Value} {fuel : Nat}
    (hg : Tryz.prog.globalNamed n = some g) (ht : (Tryz.prog.globals[g]?).map (·.type) = some 92) (ht' : (Tryz.prog.globals[g]?).map (·.type) = some t) (hv : W.var? Tryz.prog n = some cs)
    (hd : DataW.trod (fun _ => ()) Tryz.prog W 0 (fun _ => true) false fuel t cs.toList = some (.iface "*errors.errorString" (.ptr (.agg [.lit (.string text)])), p))
    (hin : ∀ x ∈ MemPlace.row ⟨g, 0, none⟩ cs.size ++ p, x ∈ ps)
    (hrows : ∀ b off, MemPlace.cell b off ∈ ps → (∃ c t, W.heap[b]? = some (.cells c t (0, 0))) ∧ ∀ u v, W.cell? ⟨b, off, none⟩ = some (.iface u v) → Value.okWide Tryz.prog W .any 0 u v) :
    ∃ a s, W.cell? ⟨g, 0, none⟩ = some (rv a) ∧ W.cell? a = some (.string s) ∧ s.size = text.length ∧ (∃ c t, W.heap[a.block]? = some (.cells c t (0, 0))) ∧ p = [.cell a.block a.off] := by
  obtain rfl := Option.some.inj (ht.symm.trans ht')
  obtain ⟨l⟩ := cs
  have ok : ∀ u v, l = [.iface u v] → Value.okWide Tryz.prog W .any 0 u v := fun u v e => by
    subst e
    have hmem : MemPlace.cell g 0 ∈ ps := hin (MemPlace.cell g 0) (List.mem_append_left _ (by simp [MemPlace.row]))
    have hc0 : W.cell? ⟨g, 0, none⟩ = some (.iface u v) := by
      have := World.var?_cell hg hv 0
      simpa using this
    exact (hrows g 0 hmem).2 u v hc0
  obtain ⟨a, s, rfl, hc, hs, _, rfl⟩ := errorString_of_trod Tryz.underlying92 rowE Tryz.underlying458 Tryz.underlying476 rfl rfl Tryz.underlying9 cellsE cellsS hd ok
  refine ⟨a, s, by simpa using World.var?_cell hg hv 0, hc, ?_, (hrows a.block a.off (hin _ (by simp [MemPlace.row]))).1, by simp [MemPlace.row]⟩
  rw [← hs, Array.length_toList, ByteArray.size_data]

/-- The reasons' names and texts, in order. -/
def named12 : List (String × List UInt8) := [("keepsake/keepsake.ErrArg", [97, 110, 32, 97, 114, 103, 117, 109, 101, 110, 116, 32, 116, 104, 97, 116, 32, 109, 97, 121, 32, 110, 111, 116, 32, 98, 101]), ("keepsake/keepsake.ErrDown", [116, 104, 101, 32, 100, 105, 115, 107, 32, 105, 115, 32, 100, 111, 119, 110]), ("keepsake/keepsake.ErrFormat", [110, 111, 32, 97, 114, 99, 104, 105, 118, 101, 32, 105, 115, 32, 116, 104, 101, 114, 101]), ("keepsake/keepsake.ErrCorrupt", [100, 97, 109, 97, 103, 101]), ("keepsake/keepsake.ErrPath", [97, 32, 112, 97, 116, 104, 32, 116, 104, 97, 116, 32, 109, 97, 121, 32, 110, 111, 116, 32, 98, 101]), ("keepsake/keepsake.ErrNone", [105, 116, 32, 105, 115, 32, 110, 111, 116, 32, 116, 104, 101, 114, 101]), ("keepsake/keepsake.ErrKind", [105, 116, 32, 105, 115, 32, 111, 102, 32, 116, 104, 101, 32, 111, 116, 104, 101, 114, 32, 107, 105, 110, 100]), ("keepsake/keepsake.ErrAgain", [105, 116, 32, 105, 115, 32, 116, 104, 101, 114, 101, 32, 97, 108, 114, 101, 97, 100, 121]), ("keepsake/keepsake.ErrBusy", [105, 116, 32, 105, 115, 32, 110, 111, 116, 32, 101, 109, 112, 116, 121]), ("keepsake/keepsake.ErrMany", [110, 111, 32, 114, 111, 111, 109, 32, 105, 110, 32, 97, 32, 100, 105, 114, 101, 99, 116, 111, 114, 121]), ("keepsake/keepsake.ErrBig", [116, 111, 111, 32, 109, 97, 110, 121, 32, 98, 121, 116, 101, 115]), ("keepsake/keepsake.ErrFull", [116, 104, 101, 32, 100, 105, 115, 107, 32, 105, 115, 32, 102, 117, 108, 108])]

theorem g12 : ∀ j, (h : j < named12.length) → ∃ g, Tryz.prog.globalNamed named12[j].1 = some g ∧ (Tryz.prog.globals[g]?).map (·.type) = some 92 ∧ g = [0, 1, 2, 3, 4, 5, 6, 7, 8, 9, 10, 11].getD j 0
  | 0, _ => ⟨0, by kernel_rfl, by kernel_rfl, rfl⟩
  | 1, _ => ⟨1, by kernel_rfl, by kernel_rfl, rfl⟩
  | 2, _ => ⟨2, by kernel_rfl, by kernel_rfl, rfl⟩
  | 3, _ => ⟨3, by kernel_rfl, by kernel_rfl, rfl⟩
  | 4, _ => ⟨4, by kernel_rfl, by kernel_rfl, rfl⟩
  | 5, _ => ⟨5, by kernel_rfl, by kernel_rfl, rfl⟩
  | 6, _ => ⟨6, by kernel_rfl, by kernel_rfl, rfl⟩
  | 7, _ => ⟨7, by kernel_rfl, by kernel_rfl, rfl⟩
  | 8, _ => ⟨8, by kernel_rfl, by kernel_rfl, rfl⟩
  | 9, _ => ⟨9, by kernel_rfl, by kernel_rfl, rfl⟩
  | 10, _ => ⟨10, by kernel_rfl, by kernel_rfl, rfl⟩
  | 11, _ => ⟨11, by kernel_rfl, by kernel_rfl, rfl⟩
  | j + 12, h => absurd h (by simp [named12])

theorem short12 : ∀ j, (h : j < named12.length) → 0 < named12[j].2.length ∧ named12[j].2.length < 1000 := by decide

def sentD (x : String × List UInt8) : String × DataW Unit := (x.1, .iface "*errors.errorString" (.ptr (.agg [.lit (.string x.2)])))

theorem et : Tryz.prog.globalNamed "errors.errorType" = some 12 := by kernel_rfl
theorem rt : (Tryz.prog.cutTypes.find? (·.1 == "internal/reflectlite.rtype")).map (·.2) = some 333 := by kernel_rfl
theorem oneRow : ((List.range 487).filter fun t => Tryz.prog.rowNamed t [101, 114, 114, 111, 114]) = [92] := by kernel_rfl
theorem tsize : Tryz.prog.types.size = 487 := by kernel_rfl

/-- The handle's cell. -/
theorem handle_of {W : World} {hs : List (String × DataW Unit)} (h : handlesMet Tryz.prog hs W) (hm : ("errors.errorType", .iface "internal/reflectlite.rtype" (.agg [.ptr (.lit (.string [101, 114, 114, 111, 114]))])) ∈ hs) :
    W.cell? ⟨12, 0, none⟩ = some (.iface 333 (.agg #[.pointer (some ⟨18, 92, none⟩)])) := by
  obtain ⟨name, u, ty, e1, e2, e3, e4, e5⟩ := h _ hm
  have en : name = [101, 114, 114, 111, 114] := (Option.some.inj e1).symm
  subst en
  obtain rfl := Option.some.inj (rt.symm.trans e2)
  have hm : ty ∈ (List.range 487).filter fun t => Tryz.prog.rowNamed t [101, 114, 114, 111, 114] := List.mem_filter.2 ⟨List.mem_range.2 (by rw [← tsize]; exact e3), e4⟩
  rw [oneRow] at hm
  obtain rfl := List.mem_singleton.1 hm
  have hh : typeHandle Tryz.prog 92 = .pointer (some ⟨18, 92, none⟩) := by kernel_rfl
  rw [hh] at e5
  simpa using World.var?_cell et e5 0

/-- 'Sent' out of a condition in which the twelve stand at the positions 'at_'. -/
theorem sent_of {W : World} {l : List (String × DataW Unit)} (pos : Nat → Nat) (hpos : ∀ j, (h : j < named12.length) → ∃ h' : pos j < l.length, l[pos j] = sentD named12[j]) (hinc : ∀ i j, i < j → pos i < pos j)
    (hm : laidMet Tryz.prog l W) (ht : W.cell? ⟨12, 0, none⟩ = some (.iface 333 (.agg #[.pointer (some ⟨18, 92, none⟩)]))) : ∃ a, Sent W a := by
  obtain ⟨ps, hl, hnd, hrows⟩ := hm
  obtain ⟨pl, h1, h2⟩ := laid_all hl hnd
  have one : ∀ j, (h : j < named12.length) → ∃ a s, W.cell? ⟨[0, 1, 2, 3, 4, 5, 6, 7, 8, 9, 10, 11].getD j 0, 0, none⟩ = some (rv a) ∧ W.cell? a = some (.string s) ∧ s.size = named12[j].2.length ∧ (∃ c t, W.heap[a.block]? = some (.cells c t (0, 0))) ∧ pl (pos j) = [.cell a.block a.off] := by
    intro j hj
    obtain ⟨hp, he⟩ := hpos j hj
    obtain ⟨g, t, cs, fuel, a1, a2, a3, a4, a5⟩ := h1 (pos j) hp
    obtain ⟨g', b1, b2, b3⟩ := g12 j hj
    rw [he] at a1 a3 a4
    obtain rfl := Option.some.inj (b1.symm.trans a1)
    rw [← b3]
    exact sent_at b1 b2 a2 a3 a4 a5 hrows
  have hlen : named12.length = 12 := rfl
  have one' : ∀ j, ∃ a : Addr, (h : j < named12.length) → ∃ s, W.cell? ⟨[0, 1, 2, 3, 4, 5, 6, 7, 8, 9, 10, 11].getD j 0, 0, none⟩ = some (rv a) ∧ W.cell? a = some (.string s) ∧ s.size = named12[j].2.length ∧ (∃ c t, W.heap[a.block]? = some (.cells c t (0, 0))) ∧ pl (pos j) = [.cell a.block a.off] := by
    intro j
    by_cases h : j < named12.length
    · obtain ⟨a, s, hs⟩ := one j h
      exact ⟨a, fun _ => ⟨s, hs⟩⟩
    · exact ⟨⟨0, 0, none⟩, fun h' => absurd h' h⟩
  obtain ⟨a, spec⟩ := Classical.axiomOfChoice one'
  refine ⟨a, ?_⟩
  exact {
    v0 := (spec 0 (by decide)).choose_spec.1
    v1 := (spec 1 (by decide)).choose_spec.1
    v2 := (spec 2 (by decide)).choose_spec.1
    v3 := (spec 3 (by decide)).choose_spec.1
    v4 := (spec 4 (by decide)).choose_spec.1
    v5 := (spec 5 (by decide)).choose_spec.1
    v6 := (spec 6 (by decide)).choose_spec.1
    v7 := (spec 7 (by decide)).choose_spec.1
    v8 := (spec 8 (by decide)).choose_spec.1
    v9 := (spec 9 (by decide)).choose_spec.1
    v10 := (spec 10 (by decide)).choose_spec.1
    v11 := (spec 11 (by decide)).choose_spec.1
    row := fun j hj => (spec j (by rw [hlen]; exact hj)).choose_spec.2.2.2.1
    text := fun j hj => by
      obtain ⟨s, _, hs, hz, _, _⟩ := spec j (by rw [hlen]; exact hj)
      have := short12 j (by rw [hlen]; exact hj)
      exact ⟨s, hs, by omega, by omega⟩
    inj := fun i j hi hj hij e => by
      obtain ⟨s, _, _, _, _, hp⟩ := spec i (by rw [hlen]; exact hi)
      obtain ⟨s', _, _, _, _, hp'⟩ := spec j (by rw [hlen]; exact hj)
      rw [e] at hp
      rcases Nat.lt_or_gt_of_ne hij with h | h
      · exact h2 _ _ (hinc i j h) (hpos j (by rw [hlen]; exact hj)).1 _ (by rw [hp]; exact List.mem_singleton.2 rfl) (by rw [hp']; exact List.mem_singleton.2 rfl)
      · exact h2 _ _ (hinc j i h) (hpos i (by rw [hlen]; exact hi)).1 _ (by rw [hp']; exact List.mem_singleton.2 rfl) (by rw [hp]; exact List.mem_singleton.2 rfl)
    ty := ht }
end Go.Proofs.YtapijhhmjjplmaaGreatDoor
namespace Go.Proofs.YtapijhhmjjplmaaGreatDoor

theorem k_main : Tryz.pinned.checked.prog.mainIs = some (true, ("a5bdd69e9582746949c8e84eed0d6134fc226438f06422e11e389a3d5ab4b345" : String).toList) := by kernel_rfl
theorem k_looks : true = Tryz.pinned.checked.prog.looks [] := by kernel_rfl
theorem k_stand : ([22].all fun u => !Tryz.prog.wantsStandIn u) = true := by kernel_rfl
theorem k_sums_wf : Rows.sumsRow.wfByText (OpenSpec.ofChange Rows.sumsSpec) = true := by kernel_rfl
theorem k_sums_goes : false = Rows.sumsRow.goesBy Tryz.pinned.checked.prog := by kernel_rfl
theorem k_disks_wf : Rows.disksRow.wfByText (OpenSpec.ofChange Rows.disksSpec) = true := by kernel_rfl
theorem k_disks_goes : false = Rows.disksRow.goesBy Tryz.pinned.checked.prog := by kernel_rfl
theorem k_trees_wf : Rows.treesRow.wfByText (OpenSpec.ofChange Rows.treesSpec) = true := by kernel_rfl
theorem k_trees_goes : false = Rows.treesRow.goesBy Tryz.pinned.checked.prog := by kernel_rfl
end Go.Proofs.YtapijhhmjjplmaaGreatDoor
namespace Go.Proofs.YtapijhhmjjplmaaGreatDoor
open Go.ChangeShapes Go.WideShapes Go.ChangeAt Go.WideMaps Go.WideElems Go.RowKit

theorem laid_parts : (laidL.filter fun x => x.2.handleName?.isNone) = [("unicode/utf8.acceptRanges", Rows.laid_unicode_utf8_acceptRanges), ("keepsake/sums.startWords", Rows.laid_keepsake_sums_startWords), ("keepsake/sums.roundWords", Rows.laid_keepsake_sums_roundWords)] ++ (named12.map sentD ++ [("unicode/utf8.first", Rows.laid_unicode_utf8_first)]) := rfl
theorem sent_of_laid {W : World} (h : laidMetH Tryz.prog laidL W) : ∃ a, Sent W a := by
  have hp := plain_of_laidH h
  rw [laid_parts] at hp
  have hh : handlesMet Tryz.prog [("errors.errorType", .iface "internal/reflectlite.rtype" (.agg [.ptr (.lit (.string [101, 114, 114, 111, 114]))]))] W := by
    unfold laidMetH at h
    split at h
    · rename_i hf
      exact absurd hf (by intro e; cases e)
    · rename_i hd tl heq
      have h2 := h.2
      rw [← heq] at h2
      exact h2
  refine sent_of (fun j => j + 3) (fun j hj => ⟨by simp; omega, ?_⟩) (fun i j hij => by show i + 3 < j + 3; omega) hp (handle_of hh (List.mem_singleton.2 rfl))
  rw [List.getElem_append_right (by simp), List.getElem_append_left (by simpa using hj)]
  simp

set_option maxRecDepth 100000 in
theorem lifted (os : Os) (started : os.Started) (H : Type) (enc : TypeId × Value → H) :
    ReturnsInHanded {} Tryz.checked os 4 .any (fun w args => (Rows.disksSpec.pre enc Tryz.prog Tryz.f4 [] false w args ∧ laidMetH Tryz.prog laidL w) ∧ sizedMet enc Tryz.prog Tryz.f4 (OpenSpec.ofChange Rows.disksSpec) false w args)
      (Rows.disksSpec.post enc Tryz.prog Tryz.f4 false true false false) := by
  refine returnsInHanded_of_change_and (C := Tryz.checked) (X := fun w _ => laidMetH Tryz.prog laidL w) (fun _ _ _ hh h => h.of_heap hh) own started (by kernel_rfl) Tryz.func4
    (ChangeSpec.witness_shaped (enc := enc) (C := Tryz.checked) (os := os) (X := fun w _ => laidMetH Tryz.prog laidL w) false ((World.doorLaid Tryz.prog 264 os).layVars Tryz.prog bigL) #[.slice none 0 0] 8 (World.layVars_os _ _ _) (World.shaped_of_ZipB (by kernel_rfl) (by kernel_rfl)) (by kernel_rfl) (by kernel_rfl) (by kernel_rfl) (wit_met os _)) ?_
  intro W base args ds gs before hval0 hW _ hsz hL _
  have hW' := hW
  obtain ⟨p, q, hA0, hV, rfl, hfz, hnd⟩ := hW
  have hval : ∀ (j : Nat) t v, Tryz.f4.params[j]? = some t → args[j]? = some v → Value.okWide Tryz.prog W .any base t v := hval0
  have hA : DataW.TrodAll enc Tryz.prog W 0 (fun _ => true) true Tryz.f4.params.toList args.toList ds p := hA0
  have hsz' : (DataW.weightsEach Tryz.prog (Tryz.f4.params.toList ++ []) (ds ++ gs)).all (· ≤ reachBytes) = true := hsz
  rw [Tryz.params4] at hA hval hsz'
  obtain ⟨v0, d0, rfl, rfl, h0⟩ := trodAll_one hA
  obtain ⟨rfl, rfl⟩ := trodVars_none hV
  have hv := okWide_slice Tryz.underlying22 (hval 0 22 v0 rfl rfl)
  have hw : (d0.weights Tryz.prog 22).all (· ≤ reachBytes) = true := List.all_eq_true.2 fun n hn => List.all_eq_true.1 hsz' n (DataW.weights_mem_each (j := 0) (t := 22) (d := d0) rfl rfl n hn)
  obtain ⟨fuel, h1⟩ := h0
  obtain ⟨l, hl⟩ := open_script h1 hv hw
  obtain ⟨sa, S0⟩ := sent_of_laid hL
  refine (disks_any v0 l W hl sa S0).mono fun e W' ⟨he, hb⟩ => ?_
  subst he
  have e1 : Rows.disksSpec.fn H ([d0] ++ []) = { results := [.lit (.bool true)], args := [d0] } := rfl
  have ha : DataW.Trod enc Tryz.prog W' 0 (fun b => decide (b < W.heap.size)) true 22 v0 d0 p := hb.trod s_laidOut (by kernel_rfl) (of_decide_eq_true (by kernel_rfl)) ⟨fuel, h1⟩ (fun x hx => hW'.lt x (List.mem_append_left _ hx))
  refine ⟨_, rfl, _, _, _, [], p, [], hW', ?_, ?_, ?_, hb.frame _, fun h => by cases h⟩
  · rw [e1]; exact trodAll_mk1 (shut_bool Tryz.underlying4 true)
  · rw [e1]; exact trodAll_mk1 ha
  · rw [e1]; rfl

theorem d_inst : Tryz.f4.isInstance Tryz.prog Rows.disksRow.origin Rows.disksRow.targs := of_decide_eq_true (by kernel_rfl)
theorem d_wrap : Tryz.f4.isWrapper Tryz.prog Rows.disksRow.wrapper Rows.disksRow.mainSum := by unfold Func.isWrapper; first | (rw [if_pos (by decide +kernel)]; kernel_rfl) | (rw [if_neg (by decide +kernel)]; exact ⟨rfl, rfl⟩)

theorem disks_holds : Rows.DisksSaid :=
  OpenClaim.holds_of_wide 4 Tryz.f4 rfl rfl rfl rfl rfl rfl rfl ⟨rfl, rfl, rfl, rfl, rfl⟩ rfl rfl rfl rfl rfl d_funcNamed Tryz.func4 d_joined d_inst d_wrap
    (fun os started H enc _ => lifted os started H enc)

theorem disks_card_holds : Rows.DisksCardSaid :=
  Claim7.holds_tied_plain_at .later [] [.data, .handle, .data, .data, .sentinel, .sentinel, .sentinel, .sentinel, .sentinel, .sentinel, .sentinel, .sentinel, .sentinel, .sentinel, .sentinel, .sentinel, .pinned] true (true, "a5bdd69e9582746949c8e84eed0d6134fc226438f06422e11e389a3d5ab4b345") true
    disks_holds (fun _ h => by cases h) k_disks_wf (fun _ h => by cases h) disks_row_tie rfl ⟨rfl, rfl⟩ k_main rfl
    (fun f fn hf hfn => by
      obtain rfl : f = 4 := Option.some.inj (d_funcNamed.symm.trans hf) |>.symm
      obtain rfl : fn = Tryz.f4 := (Option.some.inj (Tryz.func4.symm.trans hfn)).symm
      exact ⟨k_looks, fun j t ht => by
        rw [Tryz.params4] at ht
        have hm : t ∈ [22] := by simpa using Array.mem_of_getElem? ht
        have hall := k_stand
        exact (show Tryz.prog.wantsStandIn t = false by simpa using List.all_eq_true.1 hall t hm)⟩)
    k_disks_goes
#print axioms disks_card_holds
end Go.Proofs.YtapijhhmjjplmaaGreatDoor
