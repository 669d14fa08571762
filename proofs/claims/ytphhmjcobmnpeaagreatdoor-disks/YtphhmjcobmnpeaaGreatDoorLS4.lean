/- OWN TEXT: the law's steps of Disks: KKeep. -/
import Derived.Test.YtphhmjcobmnpeaaGreatDoorLS3
import Derived.Deep.AppendLies
import Derived.Deep.RegionLaw
namespace Go.Proofs.YtphhmjcobmnpeaaGreatDoor
open Go.RowKit Go.Maps

theorem DInvV.keepOn {w W W' : World} {i b : Nat} {kv kv' av : Value} {ks ks' : List Int} {l : List PairD} {left : Int} {o : Nat → Nat} (h : DInvV w i W b kv ks av l left o) (hs : Same (fun g => kv.ownBlock = some g ∨ g = w.heap.size) W W')
    (hrow : W'.heap[w.heap.size]? = some (.cells (dRow b kv' av left) 47 (0, 0))) (hk : W'.ownsRow 0 3 1 kv' ks'.length (kints ks')) (hb : ∀ g, kv'.ownBlock = some g → kv.ownBlock = some g ∨ (W.heap.size ≤ g ∧ g < W'.heap.size)) (hl : ks'.length ≤ i + 1) : DInv w (i + 1) W' := by
  obtain ⟨o', ho'⟩ : ∃ o' : Nat → Nat, o' = fun g => if g < W.heap.size then o g else 0 := ⟨_, rfl⟩
  have hz := hs.size
  have hlt := lt_of_heap' h.row
  have far : ∀ q g, ownQ w W o q g → q ≠ 0 → ¬ (kv.ownBlock = some g ∨ g = w.heap.size) := by
    rintro q g ⟨h1, h2, h3⟩ n1 (e | e)
    · have := (h.keep.2 g e).1; omega
    · omega
  have up : ∀ q g, ownQ w W o q g → ownQ w W' o' q g := fun q g hq => ⟨by rw [ho']; show (if _ then _ else _) = _; rw [if_pos hq.2.2]; exact hq.1, hq.2.1, by have := hq.2.2; omega⟩
  have hal := h.al
  refine ⟨b, kv', ks', av, l, left, o', h.below.trans (hs.below ?_ h.below.size), hrow, ⟨hk, fun g hg => ?_⟩, hl, (h.all.on hs (fun g hg => far 1 g (h.all.2 g hg) (by omega))).mono (up 1), by omega, fun k hk => ?_, h.lo, h.hi⟩
  · rintro g (hg | rfl)
    · have := (h.keep.2 g hg).2.1; omega
    · exact Nat.le_refl _
  · rcases hb g hg with h1 | ⟨h1, h2⟩
    · exact up 0 g (h.keep.2 g h1)
    · exact ⟨by rw [ho']; show (if _ then _ else _) = _; rw [if_neg (by omega)], by omega, h2⟩
  · have h1 := h.each k hk
    have hwl := h1.wl
    have hml := h1.ml
    exact ⟨(h1.dsk.on hs (fun g hg => far _ g hg (by omega))).mono (up _), (h1.ref.on hs (fun g hg => far _ g hg (by omega))).mono (up _), h1.rel, by omega, by omega⟩

set_option maxRecDepth 100000 in
set_option maxHeartbeats 2000000 in
theorem step_keep (w W : World) (i : Nat) (hi : i ≤ 300000) (x : Stp) (hx : x.kind = 8) (I : DInv w i W) :
    Calls Tryz.prog 17 #[.pointer (some ⟨w.heap.size, 0, none⟩), stpV x] W fun e W' => e = .returned (.bool true) ∧ DInv w (i + 1) W' := by
  obtain ⟨b, kv, ks, av, l, left, o, I⟩ := I
  obtain ⟨kd, xa, xb, xd, xs, xt⟩ := x
  simp only at hx
  subst hx
  obtain ⟨W1, hW1⟩ : ∃ W1, W1 = W.alloc (.cells #[.int .i64 8, .int .i64 xa, .int .i64 xb, .int .i64 xd, .string xs, .string xt] 40) := ⟨_, rfl⟩
  have hb1 : Below W.heap.size W W1 := by rw [hW1]; exact (Below.refl _ _).alloc (Nat.le_refl _) _
  have I1 := I.mono hb1
  have c1 : W1.cell? ⟨w.heap.size, 1, none⟩ = some kv := by rw [cell_of_row _ _ _ _ _ _ I1.row]; rfl
  have d1 : W1.cell? ⟨W.heap.size, 1, none⟩ = some (.int .i64 xa) := by rw [hW1]; simp
  obtain ⟨ii, hii, hz0, hz1, hz2⟩ := info_parts infoInt
  have HI : Hid (DInvV w i W1 b kv ks av l left o) := I1
  have HL : Hid (ks.length ≤ i) := I1.kl
  have HKV : Hid (W1.ownsRow 0 3 1 kv ks.length (kints ks)) := I1.keep.1
  have HFIN : Hid (∀ g cap W3, W3.ownsRow 0 3 1 (.slice (some ⟨g, 0, none⟩) (ks.length + 1) cap) (ks.length + 1) (kints ks ++ [.int .i64 xa]) → (W1.alloc (.cells #[.int .i64 xa] 3)).drew.grownBy W3 kv.ownBlock → (kv.ownBlock = some g ∨ g = W1.heap.size + 1) → g < W3.heap.size →
      W3.heap[w.heap.size]? = some (.cells (dRow b kv av left) 47 (0, 0)) ∧ DInv w (i + 1) (W3.setCell ⟨w.heap.size, 1, none⟩ (.slice (some ⟨g, 0, none⟩) (ks.length + 1) cap))) := fun g cap W3 ho hg hat hlt => by
    have hlw := lt_of_heap' HI.out.row
    have hkw : ∀ q, kv.ownBlock = some q → q ≠ w.heap.size := fun q hq => by have := (HI.out.keep.2 q hq).2.1; omega
    have hbe : W3.heap[w.heap.size]? = some (.cells (dRow b kv av left) 47 (0, 0)) := by
      rw [hg.block _ (by simp; omega) (fun e => hkw _ e.symm rfl)]
      show (W1.alloc _).heap[_]? = _
      rw [Below.heap_alloc _ _ _ hlw]
      exact HI.out.row
    have hgw : g ≠ w.heap.size := by
      rcases hat with h | h
      · exact hkw g h
      · omega
    refine ⟨hbe, HI.out.keepOn (kv' := .slice (some ⟨g, 0, none⟩) (ks.length + 1) cap) (ks' := ks ++ [xa]) ⟨?_, ?_, ?_, ?_, fun q hq hn => ?_⟩ ?_ ?_ ?_ ?_⟩
    · rw [show (W3.setCell _ _).os = W3.os from rfl, hg.os]; rfl
    · rw [show (W3.setCell _ _).tape = W3.tape from rfl, hg.tape]; rfl
    · rw [show (W3.setCell _ _).output = W3.output from rfl, hg.output]; rfl
    · have := hg.size; simp at this ⊢; omega
    · rw [heap_setCell_other _ _ _ _ (fun e => hn (.inr e)), hg.block q (by simp; omega) (fun e => hn (.inl e.symm))]
      show (W1.alloc _).heap[_]? = _
      rw [Below.heap_alloc _ _ _ hq]
    · rw [heap_setCell_same W3 _ 1 _ _ _ hbe]; rfl
    · have e : kints (ks ++ [xa]) = kints ks ++ [.int .i64 xa] := by simp [kints]
      have e2 : (ks ++ [xa]).length = ks.length + 1 := by simp
      rw [e, e2]
      refine own_heap ho (fun q hq => ?_)
      cases hq
      exact heap_setCell_other _ _ _ _ hgw
    · intro q hq
      cases hq
      rcases hat with h | h
      · exact .inl h
      · exact .inr ⟨by show W1.heap.size ≤ g; omega, by simpa using hlt⟩
    · have := HL.out
      simp
      exact this
  have c1a : (W1.alloc (.cells #[.int .i64 xa] 3)).cell? ⟨w.heap.size, 1, none⟩ = some kv := by rw [World.cell?_alloc_some _ _ _ (by rw [c1]; rfl)]; exact c1
  clear I1 I hb1
  go_enter Tryz.func17, Tryz.ntmps17
  go_wp2
  rw [← hW1]
  clear hW1
  go_region_law (first | (refine step_append_lies _ rfl _ _ 43 rfl 0 3 ii (.int .i64 0) 1 8 Tryz.underlying43 hii hz0 hz1 hz2 rfl (by decide) kv ks.length (kints ks) rfl (World.ownsRow.alloc (w := W1) HKV.out _) ⟨W1.heap.size, 0, none⟩ 1 1 [.int .i64 xa] rfl rfl (fun j u hj => cell_one_new W1 _ _ j u hj) (by intro u hu; rw [List.mem_singleton] at hu; subst hu; rfl) (by decide) (by have := HL.out; unfold maxLen; omega) (by have := HL.out; omega) (by omega) (W1.heap.size + 1) (by simp) ?_; intro g cap W3 hown hgrow hat hlt; have hfin := HFIN.out g cap W3 hown hgrow hat hlt; have k3 : W3.cell? ⟨w.heap.size, 1, none⟩ = some kv := cell_of_row _ _ _ _ _ _ hfin.1; have f3 := frozen_of_row W3 w.heap.size 1 _ _ hfin.1; have HG : Hid (DInv w (i + 1) (W3.setCell ⟨w.heap.size, 1, none⟩ (.slice (some ⟨g, 0, none⟩) (ks.length + 1) cap))) := hfin.2; clear hfin hown hgrow hat hlt))
  all_goals
    go_wp2
    go_ret
    exact ⟨rfl, HG.out⟩
end Go.Proofs.YtphhmjcobmnpeaaGreatDoor
