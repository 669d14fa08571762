/- OWN TEXT: joined of: LT9 TS4 TS5 Iter RT14 PT14 PT15 PT16 PT17 PT18. -/
import Derived.Deep.RegionHeld3
import Derived.Deep.AppendLies
import Derived.Deep.RegionLaw
import Derived.Deep.DeepCutAuto
import Derived.Test.YtapijhhmjjplmaaGreatDoorJtrees9
namespace Go.Proofs.YtapijhhmjjplmaaGreatDoor
open Go.RowKit Go.Maps
set_option maxRecDepth 100000 in
set_option maxHeartbeats 4000000 in
theorem ltree_put (w0 W : World) (a : Nat → Addr) (mx : Int) (V0 : Vars w0 a mx) (bw pg po ba bb bd : Nat) (Sa Sb : Nat → Prop) (tv : Value) (T : Tre) (x : Stp) (hk : x.kind = 14) (hxs : x.s.size ≤ 262144) (hxt : x.t.size ≤ 262144) (H : Arcs W pg po ba bb bd Sa Sb tv T) (hb0 : Below w0.heap.size w0 W) (hlo : ∀ g, Sa g ∨ Sb g → w0.heap.size ≤ g) (hhi : ∀ g, Sa g ∨ Sb g → g < W.heap.size) (hdj : ∀ g, Sa g → ¬ Sb g) (hpg : ¬ Sa pg ∧ ¬ Sb pg) :
    Calls Tryz.prog 74 #[.pointer (some ⟨bw, 0, none⟩), .pointer (some ⟨pg, po, none⟩), stpV x] W fun e W' => e = .returned (.bool true) ∧ TreeL W pg po ba bb bd Sa Sb (treeP T (fun l => putT T l x.t) x.s) W' := by
  obtain ⟨kd, xa, xb, xd, xs, xt⟩ := x
  simp only at hk hxs hxt
  subst hk
  obtain ⟨W1, hW1⟩ : ∃ W1, W1 = W.alloc (.cells #[.int .i64 14, .int .i64 xa, .int .i64 xb, .int .i64 xd, .string xs, .string xt] 67) := ⟨_, rfl⟩
  have hb1 : Below W.heap.size W W1 := by rw [hW1]; exact (Below.refl _ _).alloc (Nat.le_refl _) _
  have H1 := H.below hb1
  have b4 : W1.cell? ⟨W.heap.size, 4, none⟩ = some (.string xs) := by rw [hW1]; simp
  have b5 : W1.cell? ⟨W.heap.size, 5, none⟩ = some (.string xt) := by rw [hW1]; simp
  have c2 := H1.p2
  obtain ⟨T', hT'⟩ : ∃ T', T' = treeP T (fun l => putT T l xt) xs := ⟨_, rfl⟩
  obtain ⟨c, hc⟩ : ∃ c : Int, c = (codeP (fun l => putE T l xt) xs : Nat) := ⟨_, rfl⟩
  have HW : Hid (WFT T') := by rw [hT']; exact wf_put H.wf xs xt
  have hb01 : Below w0.heap.size w0 W1.drew := hb0.trans ⟨hb1.os, hb1.tape, hb1.output, hb1.size, fun k hk => hb1.block k (Nat.lt_of_lt_of_le hk hb0.size)⟩
  have HG : Hid (Calls Tryz.prog 49 #[.pointer (some ⟨ba, 0, none⟩), .string xs, .string xt] W1.drew fun e w' => e = .returned (.int .i64 c) ∧ Hid (ArcP w' (fun g => Sa g ∨ W1.heap.size ≤ g) ba bd T' ∧ Same Sa W1 w')) := by
    rw [hT', hc]
    refine Calls.mono (plain_put w0 a mx V0 ba bd Sa T xs xt W1.drew (H1.arc.on (Same.refl (fun _ => False) W1).drew (fun _ _ h => h)) H1.wf hb01 (fun g h => hlo g (.inl h)) (fun g h => Nat.lt_of_lt_of_le (hhi g (.inl h)) hb1.size) hxs hxt) ?_
    rintro e w' ⟨rfl, h1, h2⟩
    exact ⟨rfl, h1, ⟨h2.os, h2.tape, h2.output, h2.size, h2.block⟩⟩
  have HQ : Hid (∀ V, TreeR V (fun g => Sb g ∧ g ≠ bb) tv T → Calls Tryz.prog 121 #[tv, .string xs, .string xt] V.drew fun e w' => ∃ ao n cp, e = .returned (.tuple #[.slice ao n cp, .int .i64 c]) ∧ Hid (TreeR w' (fun g => (Sb g ∧ g ≠ bb) ∨ V.heap.size ≤ g) (.slice ao n cp) T' ∧ Same (fun g => Sb g ∧ g ≠ bb) V w')) := fun V hV => by
    rw [hT', hc]
    refine Calls.mono (ref_put _ tv T xs xt V.drew (OwnS.on hV (Same.refl (fun _ => False) V).drew (fun _ _ h => h)) H1.wf hxs hxt) ?_
    rintro e w' ⟨v, rfl, h1, h2⟩
    obtain ⟨ao, cp, rfl⟩ := own_shape h1
    exact ⟨ao, _, cp, rfl, h1, ⟨h2.os, h2.tape, h2.output, h2.size, h2.block⟩⟩
  obtain ⟨ao, cp, rfl⟩ := own_shape H.tree
  obtain ⟨n, hn⟩ : ∃ n, n = T.length := ⟨_, rfl⟩
  have H7 : Hid (∀ V, Same Sa W1 V → V.cell? ⟨pg, po + 2, none⟩ = some (.pointer (some ⟨ba, 0, none⟩)) ∧ V.cell? ⟨pg, po + 3, none⟩ = some (.pointer (some ⟨bb, 0, none⟩)) ∧ V.cell? ⟨W.heap.size, 4, none⟩ = some (.string xs) ∧ V.cell? ⟨W.heap.size, 5, none⟩ = some (.string xt) ∧ V.cell? ⟨bb, 7, none⟩ = some (.slice ao n cp) ∧ TreeR V (fun g => Sb g ∧ g ≠ bb) (.slice ao n cp) T ∧ V.frozen? ⟨bb, 7, none⟩ = false) := fun V hs => by
    have nb : ¬ Sa bb := fun h => hdj bb h H.sb
    have nx : ¬ Sa W.heap.size := fun h => Nat.lt_irrefl _ (hhi _ (.inl h))
    obtain ⟨bm, be, k, hr⟩ := H1.row
    rw [hn]
    refine ⟨hs.cell hpg.1 H1.p2, hs.cell hpg.1 H1.p3, hs.cell nx b4, hs.cell nx b5, hs.cell nb H1.c7, OwnS.on H1.tree hs (fun g hg h => hdj g h (H1.tree.2 g hg).1), frozen_of_row V bb 7 _ _ ((hs.block bb (lt_of_heap' hr) nb).trans hr)⟩
  have HE : Hid (∀ W2 W3 v, ArcP W2 (fun g => Sa g ∨ W1.heap.size ≤ g) ba bd T' → Same Sa W1 W2 → TreeR W3 (fun g => (Sb g ∧ g ≠ bb) ∨ W2.heap.size ≤ g) v T' → Same (fun g => Sb g ∧ g ≠ bb) W2 W3 → TreeL W pg po ba bb bd Sa Sb T' (W3.setCell ⟨bb, 7, none⟩ v)) := fun W2 W3 v h1 h2 h3 h4 => H.turn hb1 h1 h2 h3 h4 HW.out hhi hdj hpg
  have HNE : Hid ((⟨bb, 7, none⟩ : Addr).block ≠ (⟨pg, po + 3, none⟩ : Addr).block ∧ (⟨bb, 7, none⟩ : Addr).block ≠ (⟨W.heap.size, 4, none⟩ : Addr).block) := ⟨fun e => hpg.2 (by rw [← show bb = pg from e]; exact H.sb), fun e => Nat.lt_irrefl W.heap.size (by have := hhi bb (.inr H.sb); rw [show bb = W.heap.size from e] at this; exact this)⟩
  have HP : Hid (¬ Sb pg ∧ ¬ Sb W.heap.size ∧ bb < W.heap.size) := ⟨hpg.2, fun h => Nat.lt_irrefl _ (hhi _ (.inr h)), hhi bb (.inr H.sb)⟩
  rw [← hT']
  rw [← hn] at HQ
  clear H1 H V0 hb0 hb01 hb1 hlo hhi hdj hpg hT' hc hxs hxt hn HW
  go_enter Tryz.func74, Tryz.ntmps74
  go_wp2
  rw [← hW1]
  clear hW1
  go_region_held3 (fun w' => w'.cell? ⟨pg, po + 2, none⟩ = some (.pointer (some ⟨ba, 0, none⟩)) ∧ w'.cell? ⟨W.heap.size, 4, none⟩ = some (.string xs) ∧ w'.cell? ⟨W.heap.size, 5, none⟩ = some (.string xt)) (((repeat' constructor) <;> first | assumption | (rw [World.cell?_drew]; assumption))) (first | (go_at_call 49; refine HG.out.mono ?_; rintro e W2 ⟨rfl, H2⟩; have c22 : W2.cell? ⟨pg, po + 2, none⟩ = some (.pointer (some ⟨ba, 0, none⟩)) := (H7.out W2 H2.out.2).1; have b42 : W2.cell? ⟨W.heap.size, 4, none⟩ = some (.string xs) := (H7.out W2 H2.out.2).2.2.1; have b52 : W2.cell? ⟨W.heap.size, 5, none⟩ = some (.string xt) := (H7.out W2 H2.out.2).2.2.2.1))
  have HQQ : Hid (Calls Tryz.prog 121 #[.slice ao n cp, .string xs, .string xt] W2.drew fun e w' => ∃ ao n cp, e = .returned (.tuple #[.slice ao n cp, .int .i64 c]) ∧ Hid (TreeR w' (fun g => (Sb g ∧ g ≠ bb) ∨ W2.heap.size ≤ g) (.slice ao n cp) T' ∧ Same (fun g => Sb g ∧ g ≠ bb) W2 w')) := HQ.out W2 (H7.out W2 H2.out.2).2.2.2.2.2.1
  have c32 : W2.cell? ⟨pg, po + 3, none⟩ = some (.pointer (some ⟨bb, 0, none⟩)) := (H7.out W2 H2.out.2).2.1
  have c72 : W2.cell? ⟨bb, 7, none⟩ = some (.slice ao n cp) := (H7.out W2 H2.out.2).2.2.2.2.1
  have f72 : W2.frozen? ⟨bb, 7, none⟩ = false := (H7.out W2 H2.out.2).2.2.2.2.2.2
  have c7d : W2.drew.cell? ⟨bb, 7, none⟩ = some (.slice ao n cp) := by rw [World.cell?_drew]; exact c72
  have HC2 : Hid (∀ V, Same (fun g => Sb g ∧ g ≠ bb) W2 V → V.cell? ⟨pg, po + 3, none⟩ = some (.pointer (some ⟨bb, 0, none⟩)) ∧ V.cell? ⟨W.heap.size, 4, none⟩ = some (.string xs) ∧ V.cell? ⟨bb, 7, none⟩ = some (.slice ao n cp) ∧ V.frozen? ⟨bb, 7, none⟩ = false ∧ V.cell? ⟨W.heap.size, 5, none⟩ = some (.string xt)) := fun V hs => by
    have e : V.heap[bb]? = W2.heap[bb]? := hs.block bb (block_lt_of_cell c72) (fun h => h.2 rfl)
    refine ⟨hs.cell (fun h => HP.out.1 h.1) c32, hs.cell (fun h => HP.out.2.1 h.1) b42, hs.cell (fun h => h.2 rfl) c72, ?_, hs.cell (fun h => HP.out.2.1 h.1) b52⟩
    rw [← f72]
    unfold World.frozen?
    rw [e]
  clear HQ HG H7 c22 b4 b5 c2 f72 c72
  go_wp2
  refine wp_region_held_drew (S := (fun w' => w'.cell? ⟨pg, po + 3, none⟩ = some (.pointer (some ⟨bb, 0, none⟩)) ∧ w'.cell? ⟨W.heap.size, 4, none⟩ = some (.string xs) ∧ w'.cell? ⟨W.heap.size, 5, none⟩ = some (.string xt))) (by kernel_rfl) ⟨by rw [World.cell?_drew]; exact c32, by rw [World.cell?_drew]; exact b42, by rw [World.cell?_drew]; exact b52⟩ (fun hHeld => ?_)
  refine wpAnyH_take (i := 0) (oi := ⟨some 23, _, _, _, _, _⟩) (v := .pointer (some ⟨pg, po, none⟩)) rfl (by kernel_rfl) (by kernel_rfl) (by kernel_rfl) (fun _ _ _ h => h) (Or.inl ⟨by rfl, ?_⟩) hHeld ?_
  · intro w hSw
    obtain ⟨hs1, hs2, hs3⟩ := hSw
    go_simp
  simp only [Act.put, List.setIfInBounds_toArray, List.set_cons_zero, List.set_cons_succ]
  refine wpAnyH_take (i := 1) (oi := ⟨some 24, _, _, _, _, _⟩) (v := .pointer (some ⟨pg, po, none⟩)) rfl (by kernel_rfl) (by kernel_rfl) (by kernel_rfl) (fun _ _ _ h => h) (Or.inl ⟨by rfl, ?_⟩) hHeld ?_
  · intro w hSw
    obtain ⟨hs1, hs2, hs3⟩ := hSw
    go_simp
  simp only [Act.put, List.setIfInBounds_toArray, List.set_cons_zero, List.set_cons_succ]
  refine wpAnyH_take (i := 2) (oi := ⟨some 25, _, _, _, _, _⟩) (v := .pointer (some ⟨pg, po + 3, none⟩)) rfl (by kernel_rfl) (by kernel_rfl) (by kernel_rfl) (fun _ _ _ h => h) (Or.inl ⟨by rfl, ?_⟩) hHeld ?_
  · intro w hSw
    obtain ⟨hs1, hs2, hs3⟩ := hSw
    go_simp
  simp only [Act.put, List.setIfInBounds_toArray, List.set_cons_zero, List.set_cons_succ]
  refine wpAnyH_take (i := 3) (oi := ⟨some 26, _, _, _, _, _⟩) (v := .pointer (some ⟨bb, 0, none⟩)) rfl (by kernel_rfl) (by kernel_rfl) (by kernel_rfl) (fun _ _ _ h => h) (Or.inl ⟨by rfl, ?_⟩) hHeld ?_
  · intro w hSw
    obtain ⟨hs1, hs2, hs3⟩ := hSw
    go_simp
  simp only [Act.put, List.setIfInBounds_toArray, List.set_cons_zero, List.set_cons_succ]
  refine wpAnyH_take (i := 4) (oi := ⟨some 27, _, _, _, _, _⟩) (v := .pointer (some ⟨pg, po, none⟩)) rfl (by kernel_rfl) (by kernel_rfl) (by kernel_rfl) (fun _ _ _ h => h) (Or.inl ⟨by rfl, ?_⟩) hHeld ?_
  · intro w hSw
    obtain ⟨hs1, hs2, hs3⟩ := hSw
    go_simp
  simp only [Act.put, List.setIfInBounds_toArray, List.set_cons_zero, List.set_cons_succ]
  refine wpAnyH_take (i := 5) (oi := ⟨some 28, _, _, _, _, _⟩) (v := .pointer (some ⟨pg, po, none⟩)) rfl (by kernel_rfl) (by kernel_rfl) (by kernel_rfl) (fun _ _ _ h => h) (Or.inl ⟨by rfl, ?_⟩) hHeld ?_
  · intro w hSw
    obtain ⟨hs1, hs2, hs3⟩ := hSw
    go_simp
  simp only [Act.put, List.setIfInBounds_toArray, List.set_cons_zero, List.set_cons_succ]
  refine wpAnyH_take (i := 6) (oi := ⟨some 29, _, _, _, _, _⟩) (v := .pointer (some ⟨pg, po + 3, none⟩)) rfl (by kernel_rfl) (by kernel_rfl) (by kernel_rfl) (fun _ _ _ h => h) (Or.inl ⟨by rfl, ?_⟩) hHeld ?_
  · intro w hSw
    obtain ⟨hs1, hs2, hs3⟩ := hSw
    go_simp
  simp only [Act.put, List.setIfInBounds_toArray, List.set_cons_zero, List.set_cons_succ]
  refine wpAnyH_take (i := 7) (oi := ⟨some 30, _, _, _, _, _⟩) (v := .pointer (some ⟨bb, 0, none⟩)) rfl (by kernel_rfl) (by kernel_rfl) (by kernel_rfl) (fun _ _ _ h => h) (Or.inl ⟨by rfl, ?_⟩) hHeld ?_
  · intro w hSw
    obtain ⟨hs1, hs2, hs3⟩ := hSw
    go_simp
  simp only [Act.put, List.setIfInBounds_toArray, List.set_cons_zero, List.set_cons_succ]
  refine wpAnyH_take (i := 8) (oi := ⟨some 31, _, _, _, _, _⟩) (v := .pointer (some ⟨bb, 0, none⟩)) rfl (by kernel_rfl) (by kernel_rfl) (by kernel_rfl) (fun _ _ _ h => h) (Or.inl ⟨by rfl, ?_⟩) hHeld ?_
  · intro w hSw
    obtain ⟨hs1, hs2, hs3⟩ := hSw
    go_simp
  simp only [Act.put, List.setIfInBounds_toArray, List.set_cons_zero, List.set_cons_succ]
  refine wpAnyH_take (i := 9) (oi := ⟨some 32, _, _, _, _, _⟩) (v := .pointer (some ⟨bb, 7, none⟩)) rfl (by kernel_rfl) (by kernel_rfl) (by kernel_rfl) (fun _ _ _ h => h) (Or.inl ⟨by rfl, ?_⟩) hHeld ?_
  · intro w hSw
    obtain ⟨hs1, hs2, hs3⟩ := hSw
    go_simp
  simp only [Act.put, List.setIfInBounds_toArray, List.set_cons_zero, List.set_cons_succ]
  refine wpAnyH_take (i := 11) (oi := ⟨some 34, _, _, _, _, _⟩) (v := .pointer (some ⟨W.heap.size, 4, none⟩)) rfl (by kernel_rfl) (by kernel_rfl) (by kernel_rfl) (fun _ _ _ h => h) (Or.inl ⟨by rfl, ?_⟩) hHeld ?_
  · intro w hSw
    obtain ⟨hs1, hs2, hs3⟩ := hSw
    go_simp
  simp only [Act.put, List.setIfInBounds_toArray, List.set_cons_zero, List.set_cons_succ]
  refine wpAnyH_take (i := 12) (oi := ⟨some 35, _, _, _, _, _⟩) (v := .string xs) rfl (by kernel_rfl) (by kernel_rfl) (by kernel_rfl) (fun _ _ _ h => h) (Or.inl ⟨by rfl, ?_⟩) hHeld ?_
  · intro w hSw
    obtain ⟨hs1, hs2, hs3⟩ := hSw
    go_simp
  simp only [Act.put, List.setIfInBounds_toArray, List.set_cons_zero, List.set_cons_succ]
  refine wpAnyH_take (i := 13) (oi := ⟨some 36, _, _, _, _, _⟩) (v := .pointer (some ⟨W.heap.size, 5, none⟩)) rfl (by kernel_rfl) (by kernel_rfl) (by kernel_rfl) (fun _ _ _ h => h) (Or.inl ⟨by rfl, ?_⟩) hHeld ?_
  · intro w hSw
    obtain ⟨hs1, hs2, hs3⟩ := hSw
    go_simp
  simp only [Act.put, List.setIfInBounds_toArray, List.set_cons_zero, List.set_cons_succ]
  refine wpAnyH_take (i := 14) (oi := ⟨some 37, _, _, _, _, _⟩) (v := .string xt) rfl (by kernel_rfl) (by kernel_rfl) (by kernel_rfl) (fun _ _ _ h => h) (Or.inl ⟨by rfl, ?_⟩) hHeld ?_
  · intro w hSw
    obtain ⟨hs1, hs2, hs3⟩ := hSw
    go_simp
  simp only [Act.put, List.setIfInBounds_toArray, List.set_cons_zero, List.set_cons_succ]
  refine wpAnyH_ready (rs := [10]) (by kernel_rfl) (by simp) (AllReadyH.cons (o := ⟨some 33, _, _, _, _, _⟩) rfl (fun K hK => ?_) AllReadyH.nil)
  go_simp
  refine hK.out _ _ hHeld (fun _ => ?_)
  clear hK K
  refine wpAnyH_ready (rs := [15]) (by kernel_rfl) (by simp) (AllReadyH.cons (o := ⟨some 38, _, _, _, _, _⟩) rfl (fun K hK => ?_) AllReadyH.nil)
  go_simp
  refine HQQ.out.mono ?_
  rintro e W3 ⟨ao3, n3, cp3, rfl, H3⟩
  go_wp2_with fail
  have c33 : W3.cell? ⟨pg, po + 3, none⟩ = some (.pointer (some ⟨bb, 0, none⟩)) := (HC2.out W3 H3.out.2).1
  have b43 : W3.cell? ⟨W.heap.size, 4, none⟩ = some (.string xs) := (HC2.out W3 H3.out.2).2.1
  have b53 : W3.cell? ⟨W.heap.size, 5, none⟩ = some (.string xt) := (HC2.out W3 H3.out.2).2.2.2.2
  have c73 : W3.cell? ⟨bb, 7, none⟩ = some (.slice ao n cp) := (HC2.out W3 H3.out.2).2.2.1
  have f73 : W3.frozen? ⟨bb, 7, none⟩ = false := (HC2.out W3 H3.out.2).2.2.2.1
  clear hHeld
  refine hK.out _ _ ⟨c33, b43, b53⟩ (fun hHeld => ?_)
  clear hK K
  refine wpAnyH_take (i := 16) (oi := ⟨some 22, _, _, _, _, _⟩) (v := .tuple #[.slice ao3 n3 cp3, .int .i64 c]) rfl (by kernel_rfl) (by kernel_rfl) (by kernel_rfl) (fun _ _ _ h => h) (Or.inl ⟨by rfl, ?_⟩) hHeld ?_
  · intro w hSw
    obtain ⟨hs1, hs2, hs3⟩ := hSw
    go_simp
  simp only [Act.put, List.setIfInBounds_toArray, List.set_cons_zero, List.set_cons_succ]
  refine wpAnyH_take (i := 17) (oi := ⟨some 39, _, _, _, _, _⟩) (v := .slice ao3 n3 cp3) rfl (by kernel_rfl) (by kernel_rfl) (by kernel_rfl) (fun _ _ _ h => h) (Or.inl ⟨by rfl, ?_⟩) hHeld ?_
  · intro w hSw
    obtain ⟨hs1, hs2, hs3⟩ := hSw
    go_simp
  simp only [Act.put, List.setIfInBounds_toArray, List.set_cons_zero, List.set_cons_succ]
  refine wpAnyH_take (i := 18) (oi := ⟨some 40, _, _, _, _, _⟩) (v := .int .i64 c) rfl (by kernel_rfl) (by kernel_rfl) (by kernel_rfl) (fun _ _ _ h => h) (Or.inl ⟨by rfl, ?_⟩) hHeld ?_
  · intro w hSw
    obtain ⟨hs1, hs2, hs3⟩ := hSw
    go_simp
  simp only [Act.put, List.setIfInBounds_toArray, List.set_cons_zero, List.set_cons_succ]
  refine wpAnyH_take (i := 19) (oi := ⟨some 41, _, _, _, _, _⟩) (v := .pointer (some ⟨bb, 0, none⟩)) rfl (by kernel_rfl) (by kernel_rfl) (by kernel_rfl) (fun _ _ _ h => h) (Or.inl ⟨by rfl, ?_⟩) hHeld ?_
  · intro w hSw
    obtain ⟨hs1, hs2, hs3⟩ := hSw
    go_simp
  simp only [Act.put, List.setIfInBounds_toArray, List.set_cons_zero, List.set_cons_succ]
  refine wpAnyH_take (i := 20) (oi := ⟨some 42, _, _, _, _, _⟩) (v := .pointer (some ⟨bb, 7, none⟩)) rfl (by kernel_rfl) (by kernel_rfl) (by kernel_rfl) (fun _ _ _ h => h) (Or.inl ⟨by rfl, ?_⟩) hHeld ?_
  · intro w hSw
    obtain ⟨hs1, hs2, hs3⟩ := hSw
    go_simp
  simp only [Act.put, List.setIfInBounds_toArray, List.set_cons_zero, List.set_cons_succ]
  refine wpAnyH_ready (rs := [21]) (by kernel_rfl) (by simp) (AllReadyH.cons (o := ⟨none, _, _, _, _, _⟩) rfl (fun K hK => ?_) AllReadyH.nil)
  go_simp
  clear hHeld
  refine hK.out _ _ ⟨by rw [World.cell?_setCell_far _ _ _ _ HNE.out.1]; exact c33, by rw [World.cell?_setCell_far _ _ _ _ HNE.out.2]; exact b43, by rw [World.cell?_setCell_far _ _ _ _ HNE.out.2]; exact b53⟩ (fun hHeld => ?_)
  clear hK K
  refine wpAnyH_take (i := 22) (oi := ⟨some 8, _, _, _, _, _⟩) (v := .int .i64 c) rfl (by kernel_rfl) (by kernel_rfl) (by kernel_rfl) (fun _ _ _ h => h) (Or.inl ⟨by rfl, ?_⟩) hHeld ?_
  · intro w hSw
    obtain ⟨hs1, hs2, hs3⟩ := hSw
    go_simp
  simp only [Act.put, List.setIfInBounds_toArray, List.set_cons_zero, List.set_cons_succ]
  refine wpAnyH_done (by kernel_rfl) ?_ _
  go_wp2
  go_ret
  exact ⟨rfl, HE.out W2 W3 _ H2.out.1 H2.out.2 H3.out.1 H3.out.2⟩
end Go.Proofs.YtapijhhmjjplmaaGreatDoor
namespace Go.Proofs.YtapijhhmjjplmaaGreatDoor
open Go.RowKit Go.Maps
theorem ltree_any {w W : World} {a : Nat → Addr} {mx : Int} (V0 : Vars w a mx) {i b k : Nat} {av : Value} {l : List PairT} {left : Int} {o : Nat → Nat} (h : TInvV w i W b av l left o) (hk : k < l.length)
    (x : Stp) (hx : x.kind = 14 ∨ x.kind = 15 ∨ x.kind = 16) (hxs : x.s.size ≤ 262144) (hxt : x.t.size ≤ 262144) (y : ArcD) (hy : l[k].arc = some y) (g : Nat) (cap : Nat) (hav : av = .slice (some ⟨g, 0, none⟩) l.length cap) :
    Calls Tryz.prog 74 #[.pointer (some ⟨w.heap.size, 0, none⟩), .pointer (some ⟨g, k * 4, none⟩), stpV x] W fun e W' => e = .returned (.bool true) ∧ TInv w (i + 1) W' := by
  have A := h.arcs hk hy hav
  have hg : ownQ w W o 1 g := h.all.2 g (by rw [hav]; rfl)
  have hlt := lt_of_heap' h.row
  have h1 := h.each k hk
  have hlo : ∀ g, ownQ w W o (4 * k + 4) g ∨ ownQ w W o (4 * k + 5) g → w.heap.size ≤ g := by
    rintro g (h | h) <;> exact Nat.le_of_lt h.2.1
  have hhi : ∀ g, ownQ w W o (4 * k + 4) g ∨ ownQ w W o (4 * k + 5) g → g < W.heap.size := by
    rintro g (h | h) <;> exact h.2.2
  have hdj : ∀ g, ownQ w W o (4 * k + 4) g → ¬ ownQ w W o (4 * k + 5) g := fun g h h' => by
    have := h.1; have := h'.1; omega
  have hpg : ¬ ownQ w W o (4 * k + 4) g ∧ ¬ ownQ w W o (4 * k + 5) g := ⟨fun h => by have := h.1; have := hg.1; omega, fun h => by have := h.1; have := hg.1; omega⟩
  have fin : ∀ T' W', TreeL W g (k * 4) y.ba y.bb l[k].bd (ownQ w W o (4 * k + 4)) (ownQ w W o (4 * k + 5)) T' W' → TInv w (i + 1) W' := by
    rintro T' W' ⟨N1, tv', hN, hN', A', hs⟩
    have hz := hs.size
    have far : ∀ q g, ownQ w W o q g → q ≠ 4 * k + 4 → q ≠ 4 * k + 5 → ¬ (ownQ w W o (4 * k + 4) g ∨ ownQ w W o (4 * k + 5) g) := by
      rintro q g ⟨h1, h2, h3⟩ n1 n2 (⟨e, -⟩ | ⟨e, -⟩) <;> omega
    refine h.turn (left' := left) hk ⟨l[k].bd, l[k].be, l[k].m, l[k].n, l[k].b, l[k].r, some ⟨y.ba, y.bb, tv', T'⟩⟩ (ownQ w W o (4 * k + 2)) (ownQ w W o (4 * k + 3)) (fun g => (ownQ w W o (4 * k + 4) g ∨ W.heap.size ≤ g) ∧ g < N1) (fun g => (ownQ w W o (4 * k + 5) g ∨ N1 ≤ g) ∧ g < W'.heap.size)
      ⟨fun g hg => ⟨fun h => ⟨h.1, h.2.1⟩, fun h => ⟨h.1, h.2.1⟩, ?_, ?_⟩, ?_, fun g => ⟨fun hd => ⟨fun he => ?_, ?_, ?_⟩, fun hd => ⟨?_, ?_⟩, ?_⟩, h1.dsk.on hs (fun g hg => far _ g hg (by omega) (by omega)), h1.ref.on hs (fun g hg => far _ g hg (by omega) (by omega)), h1.rel, h1.pos, ?_, ?_⟩ (hs.weak ?_) ?_ ?_ (Int.le_refl _) h.lo
    · rintro ⟨h | h, -⟩
      · exact ⟨h.1, h.2.1⟩
      · omega
    · rintro ⟨h | h, -⟩
      · exact ⟨h.1, h.2.1⟩
      · omega
    · rintro g (h | h | h | h)
      · have := h.2.2; omega
      · have := h.2.2; omega
      · omega
      · exact h.2
    · have := hd.1; have := he.1; omega
    · rintro ⟨h | h, -⟩
      · have := hd.1; have := h.1; omega
      · have := hd.2.2; omega
    · rintro ⟨h | h, -⟩
      · have := hd.1; have := h.1; omega
      · have := hd.2.2; omega
    · rintro ⟨h | h, -⟩
      · have := hd.1; have := h.1; omega
      · have := hd.2.2; omega
    · rintro ⟨h | h, -⟩
      · have := hd.1; have := h.1; omega
      · have := hd.2.2; omega
    · rintro ⟨h | h, h2⟩ ⟨h' | h', -⟩
      · have := h.1; have := h'.1; omega
      · omega
      · have := h'.2.2; omega
      · omega
    · have := h1.ml
      show l[k].m ≤ _
      unfold most at this ⊢
      omega
    · intro x hx
      cases hx
      exact A'.inn
    · rintro q (⟨h1, h2, h3⟩ | ⟨h1, h2, h3⟩)
      · exact .inl ⟨by omega, by omega, h2, h3⟩
      · exact .inl ⟨by omega, by omega, h2, h3⟩
    · rw [hs.block _ hlt (by rintro (h | h); have := h.2.1; omega; have := h.2.1; omega)]
      exact h.row
    · rw [pairsTV_same l k hk ⟨l[k].bd, l[k].be, l[k].m, l[k].n, l[k].b, l[k].r, some ⟨y.ba, y.bb, tv', T'⟩⟩ (by simp only [pairTV, hy, pA, pB])]
      exact (h.all.on hs (fun g hg => far _ g (h.all.2 g hg) (by omega) (by omega))).1
  rcases hx with hx | hx | hx
  · refine (ltree_put w W a mx V0 w.heap.size g (k * 4) _ _ _ _ _ _ _ x hx hxs hxt A h.below hlo hhi hdj hpg).mono ?_
    rintro e W' ⟨rfl, hL⟩
    exact ⟨rfl, fin _ _ hL⟩
  · refine (ltree_mkdir w W a mx V0 w.heap.size g (k * 4) _ _ _ _ _ _ _ x hx hxs A h.below hlo hhi hdj hpg).mono ?_
    rintro e W' ⟨rfl, hL⟩
    exact ⟨rfl, fin _ _ hL⟩
  · refine (ltree_remove w W a mx V0 w.heap.size g (k * 4) _ _ _ _ _ _ _ x hx hxs A h.below hlo hhi hdj hpg).mono ?_
    rintro e W' ⟨rfl, hL⟩
    exact ⟨rfl, fin _ _ hL⟩
end Go.Proofs.YtapijhhmjjplmaaGreatDoor
namespace Go.Proofs.YtapijhhmjjplmaaGreatDoor
open Go.RowKit Go.Maps
/-- The cells of a pair's archives. -/
theorem TInvV.pab {w W : World} {i b k : Nat} {av : Value} {l : List PairT} {left : Int} {o : Nat → Nat} (h : TInvV w i W b av l left o) (hk : k < l.length) {g cap : Nat} (hv : av = .slice (some ⟨g, 0, none⟩) l.length cap) :
    W.cell? ⟨g, k * 4 + 2, none⟩ = some (pA l[k].arc) ∧ W.cell? ⟨g, k * 4 + 3, none⟩ = some (pB l[k].arc) := by
  obtain ⟨g', cap', cur, hv', hg, hh, h2, h3, -⟩ := h.duo hk
  rw [hv] at hv'
  cases hv'
  exact ⟨by rw [cell_of_row _ _ _ _ _ _ hh]; exact h2, by rw [cell_of_row _ _ _ _ _ _ hh]; exact h3⟩
set_option maxRecDepth 100000 in
set_option maxHeartbeats 4000000 in
/-- No pair: nothing is done. -/
theorem step_noneT (w W : World) (i : Nat) (x : Stp) (hx : x.kind = 12 ∨ x.kind = 13 ∨ x.kind = 14 ∨ x.kind = 15 ∨ x.kind = 16 ∨ x.kind = 19 ∨ x.kind = 20) (b : Nat) (av : Value) (l : List PairT) (left : Int) (o : Nat → Nat) (I : TInvV w i W b av l left o) (h0 : l.length = 0) :
    Calls Tryz.prog 41 #[.pointer (some ⟨w.heap.size, 0, none⟩), stpV x] W fun e W' => e = .returned (.bool true) ∧ TInv w (i + 1) W' := by
  obtain ⟨kd, xa, xb, xd, xs, xt⟩ := x
  simp only at hx
  obtain ⟨W1, hW1⟩ : ∃ W1, W1 = W.alloc (.cells #[.int .i64 kd, .int .i64 xa, .int .i64 xb, .int .i64 xd, .string xs, .string xt] 67) := ⟨_, rfl⟩
  have hb1 : Below W.heap.size W W1 := by rw [hW1]; exact (Below.refl _ _).alloc (Nat.le_refl _) _
  have I1 := I.mono hb1
  have c2 : W1.cell? ⟨w.heap.size, 2, none⟩ = some av := by rw [cell_of_row _ _ _ _ _ _ I1.row]; rfl
  obtain ⟨ao, c, rfl⟩ := own_shape I1.all
  rw [h0] at c2
  have HF : Hid (TInv w (i + 1) W1) := ⟨b, _, l, left, o, I1.succ⟩
  clear I1 I hb1 h0
  rw [hW1] at c2 HF
  clear hW1
  rcases hx with rfl | rfl | rfl | rfl | rfl | rfl | rfl
  all_goals
    go_enter Tryz.func41, Tryz.ntmps41
    go_wp2
    go_ret
    exact ⟨rfl, HF.out⟩
set_option maxRecDepth 100000 in
set_option maxHeartbeats 4000000 in
theorem step_diskT (w W : World) (a : Nat → Addr) (S0 : Sent w a) (i : Nat) (hi : i ≤ 300000) (x : Stp) (hx : x.kind = 12 ∨ x.kind = 13) (hrd : inR x.d) (b : Nat) (av : Value) (l : List PairT) (left : Int) (o : Nat → Nat) (I : TInvV w i W b av l left o) (h0 : l.length ≠ 0) (hl0 : 0 < left) :
    Calls Tryz.prog 41 #[.pointer (some ⟨w.heap.size, 0, none⟩), stpV x] W fun e W' => e = .returned (.bool true) ∧ TInv w (i + 1) W' := by
  have HD : Hid (∀ V, Below W.heap.size W V → x.kind = 12 → ∀ k, k < l.length → ∀ g cap, av = .slice (some ⟨g, 0, none⟩) l.length cap → Calls Tryz.prog 72 #[.pointer (some ⟨w.heap.size, 0, none⟩), .pointer (some ⟨g, k * 4, none⟩), stpV x] V fun e W' => e = .returned (.bool true) ∧ Hid (TInv w (i + 1) W')) := fun V hV hx k hk g cap hav => lformat_any S0 (I.mono hV) hk hi hl0 x hx g cap hav
  have HM : Hid (∀ V, Below W.heap.size W V → ∀ k, k < l.length → ∀ g cap, av = .slice (some ⟨g, 0, none⟩) l.length cap → Calls Tryz.prog 73 #[.pointer (some ⟨w.heap.size, 0, none⟩), .pointer (some ⟨g, k * 4, none⟩)] V fun e W' => e = .returned (.bool true) ∧ Hid (TInv w (i + 1) W')) := fun V hV k hk g cap hav => lmount_any S0 (I.mono hV) hk hi hl0 g cap hav
  obtain ⟨kd, xa, xb, xd, xs, xt⟩ := x
  simp only at hx hrd HD
  obtain ⟨W1, hW1⟩ : ∃ W1, W1 = W.alloc (.cells #[.int .i64 kd, .int .i64 xa, .int .i64 xb, .int .i64 xd, .string xs, .string xt] 67) := ⟨_, rfl⟩
  have hb1 : Below W.heap.size W W1 := by rw [hW1]; exact (Below.refl _ _).alloc (Nat.le_refl _) _
  have I1 := I.mono hb1
  have c2 : W1.cell? ⟨w.heap.size, 2, none⟩ = some av := by rw [cell_of_row _ _ _ _ _ _ I1.row]; rfl
  have d3 : W1.cell? ⟨W.heap.size, 3, none⟩ = some (.int .i64 xd) := by rw [hW1]; simp
  have d0 : W1.cell? ⟨W.heap.size, 0, none⟩ = some (.int .i64 kd) := by rw [hW1]; simp
  have d1 : W1.cell? ⟨W.heap.size, 1, none⟩ = some (.int .i64 xa) := by rw [hW1]; simp
  have d2 : W1.cell? ⟨W.heap.size, 2, none⟩ = some (.int .i64 xb) := by rw [hW1]; simp
  have d4 : W1.cell? ⟨W.heap.size, 4, none⟩ = some (.string xs) := by rw [hW1]; simp
  have d5 : W1.cell? ⟨W.heap.size, 5, none⟩ = some (.string xt) := by rw [hW1]; simp
  obtain ⟨g, cap, cur, hav, -⟩ := I1.duo (k := 0) (by omega)
  have hn := I.al
  obtain ⟨n, hn'⟩ : ∃ n, n = l.length := ⟨_, rfl⟩
  have HP : Hid (∀ V, Calls Tryz.prog 71 #[.int .i64 xd, .int .i64 (n : Int)] V fun e w' => (∃ k : Nat, k < n ∧ e = .returned (.int .i64 (k : Int))) ∧ V = w') := fun V => pick_any xd n V hrd (by omega) (by omega)
  have HE : Hid (kd = 12 → ∀ k, k < n → Calls Tryz.prog 72 #[.pointer (some ⟨w.heap.size, 0, none⟩), .pointer (some ⟨g, k * 4, none⟩), .agg #[.int .i64 kd, .int .i64 xa, .int .i64 xb, .int .i64 xd, .string xs, .string xt]] W1.drew fun e W' => e = .returned (.bool true) ∧ Hid (TInv w (i + 1) W')) := fun hk12 k hk => HD.out W1.drew hb1.drew hk12 k (by omega) g cap hav
  have HE2 : Hid (∀ k, k < n → Calls Tryz.prog 73 #[.pointer (some ⟨w.heap.size, 0, none⟩), .pointer (some ⟨g, k * 4, none⟩)] W1.drew fun e W' => e = .returned (.bool true) ∧ Hid (TInv w (i + 1) W')) := fun k hk => HM.out W1.drew hb1.drew k (by omega) g cap hav
  rw [hav, ← hn'] at c2
  have hn0 : ((n : Int) == 0) = false := by simp; omega
  have hnb : (n : Int) ≤ 300000 := by omega
  clear I1 I HD HM hb1 hrd hav hn' h0 hn
  rcases hx with rfl | rfl
  · have HE1 : Hid (∀ k, k < n → Calls Tryz.prog 72 #[.pointer (some ⟨w.heap.size, 0, none⟩), .pointer (some ⟨g, k * 4, none⟩), .agg #[.int .i64 12, .int .i64 xa, .int .i64 xb, .int .i64 xd, .string xs, .string xt]] W1.drew fun e W' => e = .returned (.bool true) ∧ Hid (TInv w (i + 1) W')) := fun k hk => HE.out rfl k hk
    clear HE HE2
    go_enter Tryz.func41, Tryz.ntmps41
    rw [hW1] at c2
    go_wp2
    rw [← hW1] at c2 ⊢
    clear hW1
    go_region_held3 (fun w' => w'.cell? ⟨w.heap.size, 2, none⟩ = some (.slice (some ⟨g, 0, none⟩) n cap) ∧ w'.cell? ⟨W.heap.size, 3, none⟩ = some (.int .i64 xd)) (((repeat' constructor) <;> first | assumption | (rw [World.cell?_drew]; assumption))) (first | (go_at_call 71; refine (HP.out _).mono ?_; rintro e w' ⟨⟨k, hk, rfl⟩, rfl⟩; have hk0 : (0 : Int) ≤ k := Int.natCast_nonneg k; have hk1 : (k : Int) < n := Int.ofNat_lt.2 hk))
    go_wp2_with fail
    refine (HE1.out k hk).mono ?_
    rintro e W3 ⟨rfl, H3⟩
    go_wp2
    go_ret
    exact ⟨rfl, H3.out⟩
  · clear HE
    go_enter Tryz.func41, Tryz.ntmps41
    rw [hW1] at c2
    go_wp2
    rw [← hW1] at c2 ⊢
    clear hW1
    go_region_held3 (fun w' => w'.cell? ⟨w.heap.size, 2, none⟩ = some (.slice (some ⟨g, 0, none⟩) n cap) ∧ w'.cell? ⟨W.heap.size, 3, none⟩ = some (.int .i64 xd)) (((repeat' constructor) <;> first | assumption | (rw [World.cell?_drew]; assumption))) (first | (go_at_call 71; refine (HP.out _).mono ?_; rintro e w' ⟨⟨k, hk, rfl⟩, rfl⟩; have hk0 : (0 : Int) ≤ k := Int.natCast_nonneg k; have hk1 : (k : Int) < n := Int.ofNat_lt.2 hk))
    go_wp2_with fail
    refine (HE2.out k hk).mono ?_
    rintro e W3 ⟨rfl, H3⟩
    go_wp2
    go_ret
    exact ⟨rfl, H3.out⟩
end Go.Proofs.YtapijhhmjjplmaaGreatDoor
namespace Go.Proofs.YtapijhhmjjplmaaGreatDoor
open Go.RowKit Go.Maps Go.Sort Go.Shelf
theorem sortsN (m : Nat) : AnyZ.SortsIn Tryz.prog Tryz.sortedN_ren Fence.wide m :=
  ⟨fun blk off cap ss W hH hblk hsz => callsIn_wide.2 (AnyM.slices_Sort_string Tryz.sortN blk off cap ss W hH hblk hsz),
   fun p cap W => callsIn_wide.2 (AnyM.slices_Sort_string_none Tryz.sortN p cap W)⟩
theorem mapsKeys (mb : Option Nat) (W : World) : Calls Tryz.prog 234 #[.map mb] W fun e w' => e = .returned (.func (.func 275) #[] #[.pointer (some ⟨W.heap.size, 0, none⟩)]) ∧ w' = W.alloc (.cells #[.map mb] 272) :=
  (callsIn_wide (n := 5)).1 (AnyZ.keys_in Tryz.keysN Fence.wide 5 trivial rfl mb W)
set_option maxHeartbeats 1000000 in
theorem sortedKeys {H : Type} (b nn : Nat) (D0 : DataW H) (R : Value → Option (DataW H × List MemPlace)) (w : World) (hown : w.ownsMap Tryz.prog 9 R b nn D0) (hmax : Maps.size D0 ≤ maxLen) (hbytes : Maps.size D0 * 16 ≤ 140737488355328) :
    Calls Tryz.prog 233 #[.func (.func 275) #[] #[.pointer (some ⟨w.heap.size, 0, none⟩)]] (w.alloc (.cells #[.map (some b)] 272)) fun e w' => ∃ (v : Value) (ss : List (List UInt8)), e = .returned v ∧ ss.Perm (strKeys D0) ∧
      w'.ownsRow (w.alloc (.cells #[.map (some b)] 272)).heap.size 9 1 v ss.length ((ss.mergeSort (fun x y => decide (x ≤ y))).map encStr) ∧ Below (w.alloc (.cells #[.map (some b)] 272)).heap.size (w.alloc (.cells #[.map (some b)] 272)) w' := by
  have hbl := hown.lt
  have hseq : SeqGives Fence.wide 2 Tryz.prog 275 #[.pointer (some ⟨w.heap.size, 0, none⟩)] encStr (fun ss => ss.Perm (strKeys D0)) (Maps.size D0) (w.alloc (.cells #[.map (some b)] 272)) :=
    AnyZ.keys_gives (ρ := Tryz.keysN_ren) { Tryz.keysN with } Fence.wide _ trivial rfl (by omega) w.heap.size b nn D0 _ (by simp) (by simp) (by
      obtain ⟨es, clock, hb, Ft, hs, hD⟩ := hown
      exact ⟨es, clock, (Below.heap_alloc _ _ b hbl).trans hb, Ft, hs, hD⟩)
  have h := AnyZ.sorted_in Tryz.sortedN Fence.wide 5 trivial trivial trivial trivial rfl (by omega) (sortsN _) (enters_of Tryz.func274 (by kernel_rfl) rfl) 275 #[.pointer (some ⟨w.heap.size, 0, none⟩)] trivial (enters_of Tryz.func275 (by kernel_rfl) rfl) _ _ hmax hbytes _ hseq
  refine ((callsIn_wide (n := 5)).1 h).mono ?_
  rintro e w' ⟨v, ss, h1, h2, h3, -, h4⟩
  exact ⟨v, ss, h1, h2, h3, h4⟩
end Go.Proofs.YtapijhhmjjplmaaGreatDoor
namespace Go.Proofs.YtapijhhmjjplmaaGreatDoor
open Go.RowKit
def listE (T : Tre) (l : List ByteArray) : Nat := if findE T [] l ≠ 0 then findE T [] l else if isF T l then 7 else 0
def listC (T : Tre) (s : ByteArray) : Nat := match pathOf s with
  | none => 5
  | some l => listE T l
/-- What stands in a directory, in order. -/
def entOf (T : Tre) (p : List ByteArray) (n : ByteArray) : ByteArray × Bool × Nat := match lookT T (p ++ [n]) with
  | some x => (n, x.dir, x.data.size)
  | none => (n, false, 0)
def entsT (T : Tre) (p : List ByteArray) : List (ByteArray × Bool × Nat) := (kidsT T p).map (entOf T p)
def entV (e : ByteArray × Bool × Nat) : List Value := [.string e.1, .bool e.2.1, .int .i64 (e.2.2 : Int)]
def entsV (l : List (ByteArray × Bool × Nat)) : List Value := l.flatMap entV
theorem infoEntR : (Tryz.prog.info? 238).map (fun i => (i.zero, i.size, i.bytes)) = some (some (.agg #[.string ⟨#[]⟩, .bool false, .int .i64 0]), 3, 32) := by kernel_rfl
def ListPost (w : World) (T : Tre) (s : ByteArray) (e : Ending) (w' : World) : Prop := ∃ v, e = .returned (.tuple #[v, .int .i64 (listC T s : Nat), .int .i64 (-1)]) ∧ Below w.heap.size w w' ∧ (listC T s ≠ 0 → v = .slice none 0 0) ∧ (∀ l, pathOf s = some l → listC T s = 0 → w'.ownsRow w.heap.size 238 3 v (entsT T l).length (entsV (entsT T l)))
theorem ListPost.bad {w w' : World} {T : Tre} {s : ByteArray} {c : Nat} (hc : listC T s = c) (h0 : c ≠ 0) (hb : Below w.heap.size w w') : ListPost w T s (.returned (.tuple #[.slice none 0 0, .int .i64 (c : Int), .int .i64 (-1)])) w' :=
  ⟨_, by rw [hc], hb, fun _ => rfl, fun l _ h => absurd (hc.symm.trans h) h0⟩
theorem list_none {T : Tre} {s : ByteArray} (h : pathOf s = none) : listC T s = 5 := by unfold listC; rw [h]
theorem list_some {T : Tre} {s : ByteArray} {l : List ByteArray} (h : pathOf s = some l) : listC T s = if findE T [] l ≠ 0 then findE T [] l else if isF T l then 7 else 0 := by unfold listC; rw [h]; rfl
theorem own_ent {w : World} {B : Nat} {t : TypeId} {v : Value} {R : List (ByteArray × Bool × Nat)} {x : ByteArray × Bool × Nat} (h : w.ownsRow B t 3 v (R.length + 1) (entsV R ++ entV x)) : Hid (w.ownsRow B t 3 v (R ++ [x]).length (entsV (R ++ [x]))) := by
  have e1 : (R ++ [x]).length = R.length + 1 := by simp
  have e2 : entsV (R ++ [x]) = entsV R ++ entV x := by simp [entsV]
  show World.ownsRow _ _ _ _ _ _ _
  rw [e1, e2]
  exact h
set_option maxRecDepth 100000 in
set_option maxHeartbeats 4000000 in
theorem ref_list (ba : Nat) (S : Nat → Prop) (tv : Value) (T : Tre) (s : ByteArray) (w : World) (hA : w.cell? ⟨ba, 7, none⟩ = some tv) (h : TreeR w S tv T) (hT : WFT T) (hs : s.size ≤ 262144) :
    Calls Tryz.prog 131 #[.pointer (some ⟨ba, 0, none⟩), .int .i64 0, .string s] w fun e w' => ListPost w T s e w' := by
  have hnot : ∀ (x : Bool) (w : World), (Op.unary .not (.bool x)).run Tryz.prog w = .ok (.bool (!x)) w := fun _ _ => rfl
  have HH : Hid (TreeR w S tv T) := h
  have HT : Hid (WFT T) := hT
  have HN : Hid (Calls Tryz.prog 191 #[.string s] w fun e w' => NamesPost w s e w') := ref_names s w hs
  have hAl := block_lt_of_cell hA
  obtain ⟨i0, hi0, hz0, hz1, hz2⟩ := info_parts infoEntR
  obtain ⟨at0, cp, rfl⟩ := own_sh h.1
  have hTl := hT.len
  clear h hT
  go_enter Tryz.func131, Tryz.ntmps131
  go_wp2_with fail
  refine HN.out.mono ?_
  rintro e w1 ⟨v, b, rfl, hb1, ⟨l, hl, rfl, hown⟩ | ⟨hl, rfl⟩⟩
  · have HB1 : Hid (Below w.heap.size w w1) := hb1
    have hsa := StrsAt.of_own hown
    have hv := pathOf_valid hl
    have hA1 : w1.cell? ⟨ba, 7, none⟩ = some (.slice at0 T.length cp) := by rw [hb1.cell hAl]; exact hA
    have HFI : Hid (Calls Tryz.prog 200 #[.slice at0 T.length cp, v] w1 fun e w' => e = .returned (.tuple #[.int .i64 (findAt T l), .int .i64 (findE T [] l : Nat)]) ∧ w1 = w') := ref_Find S _ v T l w1 (HH.out.on hb1) HT.out hv.1 hv.2 hsa
    have HR1 : Hid (TreeR w1 S (.slice at0 T.length cp) T) := HH.out.on hb1
    have HL : Hid (pathOf s = some l) := hl
    have hls := list_some (T := T) hl
    clear hb1 hl hown hsa hv
    rcases findE_cases T l [] with hz | hz | hz
    · rw [hz, if_neg (by simp)] at hls
      rw [hz] at HFI
      have hat : Hid (findAt T l = -1 ∧ isF T l = false ∨ ∃ (gi : Nat) (d : Bool) (m : Nat), at0 = some ⟨gi, 0, none⟩ ∧ findAt T l = (m : Int) ∧ m < T.length ∧ w1.cell? ⟨gi, m * 3 + 1, none⟩ = some (.bool d) ∧ isF T l = !d) := by
        unfold findAt
        rw [hz, if_neg (by simp)]
        by_cases hq : l = []
        · subst hq
          exact .inl ⟨rfl, by unfold isF; rw [look_root HT.out]⟩
        · rw [if_neg hq]
          have hs := findE_ok hz hq
          rw [List.nil_append] at hs
          obtain ⟨y, hy⟩ := Option.isSome_iff_exists.1 hs
          obtain ⟨hil, hiy⟩ := idx_some hy
          obtain ⟨gi, ci, hvi, -, -, hci, -⟩ := HR1.out.open (by omega)
          cases hvi
          refine .inr ⟨gi, y.dir, idxT T l, rfl, rfl, hil, ?_, ?_⟩
          · rw [(hci _ hil).2.1, hiy]
          · unfold isF; rw [hy]
      cases hf : isF T l
      · rw [hf] at hls hat
        have HLS : Hid (listC T s = 0) := hls
        obtain ⟨a, ha⟩ : ∃ a, a = findAt T l := ⟨_, rfl⟩
        rw [← ha] at hat HFI
        have HKD : Hid (Calls Tryz.prog 195 #[.slice at0 T.length cp, .string s] w1 fun e w' => KidsPost w1 (kidsT T l) e w') := by
          have := ref_kids S (.slice at0 T.length cp) T l w1 HR1.out HT.out (pathOf_valid HL.out).1
          rw [joinB_path HL.out] at this
          exact this
        have hgo : (a = -1) ∨ ∃ (gi : Nat) (m : Nat), at0 = some ⟨gi, 0, none⟩ ∧ a = (m : Int) ∧ m < T.length ∧ w1.cell? ⟨gi, m * 3 + 1, none⟩ = some (.bool true) := by
          rcases hat.out with ⟨e, -⟩ | ⟨gi, d, m, h1, h2, h3, h4, h5⟩
          · exact .inl e
          · have : d = true := by cases d; cases h5; rfl
            subst this
            exact .inr ⟨gi, m, h1, h2, h3, h4⟩
        have HLP : Hid (∀ w3, Below w1.heap.size w1 w3 → ∀ v3, w3.ownsRow w1.heap.size 9 1 v3 (kidsT T l).length (strs (kidsT T l)) → True) := fun _ _ _ _ => trivial
        clear hls hf hz ha hat HLP
        go_upto_region 9 with (go_at_call 200; refine HFI.out.mono ?_; rintro e w2 ⟨rfl, rfl⟩)
        go_cut [62] (fun s62 wx => s62 = .bool false ∧ wx = w1)
        case first =>
          rcases hgo with rfl | ⟨gi, m, rfl, rfl, hmT, cm⟩
          all_goals
            go_wp2
            go_meet
            exact ⟨rfl, rfl⟩
        case rest =>
        obtain ⟨rfl, rfl⟩ := hcut
        go_wp2_with fail
        refine HKD.out.mono ?_
        rintro e w3 ⟨v3, rfl, hown3, hb3⟩
        have HB3 : Hid (Below w.heap.size w w3) := HB1.out.trans (hb3.mono HB1.out.size)
        have hsa3 := StrsAt.of_own hown3
        have HSA3 : Hid (StrsAt w3 v3 (kidsT T l)) := hsa3
        obtain ⟨ao3, c3, rfl⟩ := own_sh hown3
        have hLn : (kidsT T l).length ≤ 256 := by rw [(kidsT_perm T l).length_eq]; exact Nat.le_trans (kids_len _ _) HT.out.len
        have HKM : Hid (∀ nm ∈ kidsT T l, nmB nm = true ∧ ∃ x, lookT T (l ++ [nm]) = some x) := fun nm hm => by
          have h1 := (kidsT_perm T l).mem_iff.1 hm
          rw [mem_kidsU HT.out] at h1
          obtain ⟨x, hx⟩ := Option.isSome_iff_exists.1 h1
          refine ⟨?_, x, hx⟩
          obtain ⟨h2, h3⟩ := look_some hx
          have h4 := (HT.out.val x h2).2.2
          rw [h3] at h4
          exact h4 nm (by simp)
        obtain ⟨L, hL⟩ : ∃ L, L = kidsT T l := ⟨_, rfl⟩
        have HEN : Hid (entsT T l = L.map (entOf T l)) := by show _ = _; rw [hL]; rfl
        rw [← hL] at HSA3 hLn HKM ⊢
        obtain ⟨n, hn⟩ : ∃ n, n = L.length := ⟨_, rfl⟩
        have HNL : Hid (n = L.length) := hn
        rw [← hn] at HSA3 hLn ⊢
        clear hown3 hb3 hsa3 hL hn HKD HFI hA1 HR1
        go_wp2
        go_loopw [9, 15] (fun v iv wr => ∃ k : Nat, k ≤ n ∧ iv = .int .i64 (k : Int) ∧ Hid (wr.ownsRow w3.heap.size 238 3 v ((L.take k).map (entOf T l)).length (entsV ((L.take k).map (entOf T l)))) ∧ Hid (Below w3.heap.size w3 wr)) (fun _ i _ => n - (intOf i).toNat)
        case atStart => exact ⟨0, by omega, rfl, World.ownsRow_nil _ _ _ _, Below.refl _ _⟩
        case round =>
          obtain ⟨k, hk, rfl, HO, HB⟩ := hrel
          by_cases hlt : k < n
          · have hkl : k < L.length := by rw [← HNL.out]; exact hlt
            obtain ⟨nm, hnm⟩ : ∃ nm, nm = L[k] := ⟨_, rfl⟩
            obtain ⟨hok, x, hx⟩ := HKM.out nm (by rw [hnm]; exact List.getElem_mem _)
            obtain ⟨hil, hix⟩ := idx_some hx
            obtain ⟨gi, ci, hvi, -, hgil, hci, -⟩ := HH.out.open (by omega)
            cases hvi
            have HBW : Hid (Below w.heap.size w wr) := HB3.out.trans (HB.out.mono HB3.out.size)
            obtain ⟨c0, c1, c2⟩ := hci _ hil
            rw [hix] at c0 c1 c2
            have hfr : findR T (l ++ [nm]) = (idxT T (l ++ [nm]) : Int) := by unfold findR; rw [hx]; rfl
            obtain ⟨g3, hg3, hcl⟩ : ∃ g3, ao3 = some ⟨g3, 0, none⟩ ∧ wr.cell? ⟨g3, k, none⟩ = some (.string nm) := by
              rcases HSA3.out with ⟨h, -⟩ | ⟨g3, c, hv3, hg3, hc3⟩
              · rw [h] at hkl; cases hkl
              · cases hv3
                exact ⟨g3, rfl, by rw [HB.out.cell hg3, hc3 k hkl, hnm]⟩
            subst hg3
            have hA2 : wr.cell? ⟨ba, 7, none⟩ = some (.slice (some ⟨gi, 0, none⟩) T.length cp) := by rw [HBW.out.cell hAl]; exact hA
            have d1 : wr.cell? ⟨gi, idxT T (l ++ [nm]) * 3, none⟩ = some (.string (joinB x.names)) := by rw [HBW.out.cell hgil]; exact c0
            have d2 : wr.cell? ⟨gi, idxT T (l ++ [nm]) * 3 + 1, none⟩ = some (.bool x.dir) := by rw [HBW.out.cell hgil]; exact c1
            have d3 : wr.cell? ⟨gi, idxT T (l ++ [nm]) * 3 + 2, none⟩ = some (.string x.data) := by rw [HBW.out.cell hgil]; exact c2
            have hlv := pathOf_valid HL.out
            have hjs : jn s nm = joinB (l ++ [nm]) := by rw [joinB_snoc, joinB_path HL.out]
            have hss : s.size + nm.size ≤ 1000000 := by
              have := nmB_size hok
              omega
            have HJ : Hid (Calls Tryz.prog 197 #[.string s, .string nm] wr fun e w' => e = .returned (.string (joinB (l ++ [nm]))) ∧ wr = w') := by
              have := ref_join s nm wr hss
              rw [hjs] at this
              exact this
            have HVN : Valid (l ++ [nm]) := fun z hz => by
              rcases List.mem_append.1 hz with h | h
              · exact hlv.1 z h
              · simp at h
                rw [h]; exact hok
            have HF : Hid (∀ V, Below w.heap.size w V → Calls Tryz.prog 193 #[.slice (some ⟨gi, 0, none⟩) T.length cp, .string (joinB (l ++ [nm]))] V fun e w' => e = .returned (.int .i64 (idxT T (l ++ [nm]) : Int)) ∧ V = w') := fun V hV => by
              have := ref_find S (.slice (some ⟨gi, 0, none⟩) T.length cp) T (l ++ [nm]) V (HH.out.on hV) HT.out HVN
              rw [hfr] at this
              exact this
            have HTK : Hid ((L.take (k + 1)).map (entOf T l) = (L.take k).map (entOf T l) ++ [(nm, x.dir, x.data.size)]) := by
              show _ = _
              rw [List.take_succ_eq_append_getElem hkl, List.map_append, ← hnm]
              simp [entOf, hx]
            have hxs : x.data.size ≤ 1536 := HT.out.big x (look_some hx).1
            obtain ⟨q, hq⟩ : ∃ q, q = joinB (l ++ [nm]) := ⟨_, rfl⟩
            rw [← hq] at HJ HF
            obtain ⟨m, hm⟩ : ∃ m, m = idxT T (l ++ [nm]) := ⟨_, rfl⟩
            rw [← hm] at HF d1 d2 d3 hil
            obtain ⟨xp, hxp⟩ : ∃ xp, xp = joinB x.names := ⟨_, rfl⟩
            rw [← hxp] at d1
            obtain ⟨nT, hnT⟩ : ∃ nT, nT = T.length := ⟨_, rfl⟩
            rw [← hnT] at hil hA2 HF hTl
            have hRl : ((L.take k).map (entOf T l)).length ≤ 256 := by rw [List.length_map, List.length_take]; omega
            obtain ⟨R, hR⟩ : ∃ R, R = (L.take k).map (entOf T l) := ⟨_, rfl⟩
            rw [← hR] at HO HTK hRl
            clear hq hm hxp hnT hR hlv hjs hss HVN hfr hci c0 c1 c2 hix hnm hok hx
            go_upto_region 16 with (go_at_call 197; refine HJ.out.mono ?_; rintro e w4 ⟨rfl, rfl⟩)
            have hn1 := World.new_ne wr ⟨ba, 7, none⟩ hA2
            have hn2 := World.new_ne wr ⟨gi, m * 3, none⟩ d1
            have hn3 := World.new_ne wr ⟨gi, m * 3 + 1, none⟩ d2
            have hn4 := World.new_ne wr ⟨gi, m * 3 + 2, none⟩ d3
            go_cut [17] (fun s17 wx => s17 = .pointer (some ⟨wr.heap.size, 0, none⟩) ∧ wx = (wr.alloc (.cells #[.string xp, .bool x.dir, .string x.data] 316)).drew)
            case first =>
              go_region_held3 (fun w' => w'.cell? ⟨ba, 7, none⟩ = some (.slice (some ⟨gi, 0, none⟩) nT cp) ∧ w'.cell? ⟨gi, m * 3, none⟩ = some (.string xp) ∧ w'.cell? ⟨gi, m * 3 + 1, none⟩ = some (.bool x.dir) ∧ w'.cell? ⟨gi, m * 3 + 2, none⟩ = some (.string x.data)) (go_keep) (first | (go_at_call 193; refine (HF.out _ (by first | exact HBW.out.drew | exact (HBW.out.alloc HBW.out.size _).drew)).mono ?_; rintro e w5 ⟨rfl, rfl⟩))
              all_goals (go_wp2_with fail; go_meet; exact ⟨rfl, rfl⟩)
            case rest =>
            obtain ⟨rfl, hW4⟩ := hcut
            have hB4 : Below w3.heap.size w3 wc := by rw [hW4]; exact (HB.out.alloc HB.out.size _).drew
            have hO4 : wc.ownsRow w3.heap.size 238 3 u9 R.length (entsV R) := by rw [hW4]; exact World.ownsRow.alloc HO.out _
            have hX4 : wc.heap[wr.heap.size]? = some (.cells #[.string xp, .bool x.dir, .string x.data] 316 (0, 0)) := by rw [hW4]; exact heap_alloc_new wr _
            have f1 : wc.cell? ⟨wr.heap.size, 1, none⟩ = some (.bool x.dir) := by rw [cell_of_row _ _ _ _ _ _ hX4]; rfl
            have f2 : wc.cell? ⟨wr.heap.size, 2, none⟩ = some (.string x.data) := by rw [cell_of_row _ _ _ _ _ _ hX4]; rfl
            have f3 : wc.cell? ⟨g3, k, none⟩ = some (.string nm) := by rw [hW4, World.cell?_drew, World.cell?_alloc_some _ _ _ (by rw [hcl]; rfl)]; exact hcl
            have HB4 : Hid (Below w3.heap.size w3 wc) := hB4
            have HO4 : Hid (wc.ownsRow w3.heap.size 238 3 u9 R.length (entsV R)) := hO4
            have HFIN : Hid (∀ g cap W5, W5.ownsRow w3.heap.size 238 3 (.slice (some ⟨g, 0, none⟩) (R.length + 1) cap) (R.length + 1) (entsV R ++ [.string nm, .bool x.dir, .int .i64 (x.data.size : Int)]) → (wc.alloc (.cells #[.string nm, .bool x.dir, .int .i64 (x.data.size : Int)] 238)).drew.grownBy W5 (Value.ownBlock u9) → Hid (W5.ownsRow w3.heap.size 238 3 (.slice (some ⟨g, 0, none⟩) (R.length + 1) cap) ((L.take (k + 1)).map (entOf T l)).length (entsV ((L.take (k + 1)).map (entOf T l)))) ∧ Hid (Below w3.heap.size w3 W5)) := fun g cap W5 ho hg => by
              refine ⟨?_, ?_⟩
              · rw [HTK.out]
                exact own_ent (x := (nm, x.dir, x.data.size)) ho
              · exact ((HB4.out.alloc HB4.out.size _).drew).grown hg (by have := HB4.out.size; simp; omega) (fun k hk => own_base_of HO4.out k hk)
            clear hW4 hB4 hO4 hX4 hcl hA2 d1 d2 d3 hn1 hn2 hn3 hn4 HJ HF HB HO HTK HBW
            go_wp2
            go_region_law (first | (refine step_append_lies _ rfl _ _ 235 rfl w3.heap.size 238 i0 (.agg #[.string ⟨#[]⟩, .bool false, .int .i64 0]) 3 32 Tryz.underlying235 hi0 hz0 hz1 hz2 rfl (by decide) u9 R.length (entsV R) rfl (World.ownsRow.alloc (w := wc) HO4.out _) ⟨wc.heap.size, 0, none⟩ 1 1 [.string nm, .bool x.dir, .int .i64 (x.data.size : Int)] rfl rfl (fun j u hj => cells_three wc _ _ _ _ j u hj) (by intro u hu; simp at hu; rcases hu with rfl | rfl | rfl <;> rfl) (by decide) (by unfold maxLen; omega) (by omega) (by have := HB4.out.size; simp; omega) (wc.heap.size + 1) (by simp) ?_; intro g cap W5 hown hgrow hat hlt; obtain ⟨HF1, HF2⟩ := HFIN.out g cap W5 hown hgrow; clear hown hgrow hat hlt))
            all_goals
              go_wp2
              go_roundw
              case rel => exact ⟨k + 1, by omega, by go_num, HF1, HF2⟩
              case measure => (simp [intOf]; try omega)
          · have hkn : k = n := by omega
            subst hkn
            rw [List.take_of_length_le (by rw [← HNL.out]; exact Nat.le_refl _), ← HEN.out] at HO
            go_wp2
            refine bodyPost_ret (results_tmp3 rfl _ _ _) rfl ?_
            refine ⟨_, by rw [HLS.out]; rfl, HB3.out.trans (HB.out.mono HB3.out.size), fun h => absurd HLS.out h, fun l' hl' _ => ?_⟩
            rw [HL.out] at hl'
            cases hl'
            exact own_base HO.out HB3.out.size
      · rw [hf] at hls hat
        have HLS : Hid (listC T s = 7) := hls
        obtain ⟨a, ha⟩ : ∃ a, a = findAt T l := ⟨_, rfl⟩
        rw [← ha] at hat HFI
        obtain ⟨gi, m, rfl, rfl, hmT, cm⟩ : ∃ (gi : Nat) (m : Nat), at0 = some ⟨gi, 0, none⟩ ∧ a = (m : Int) ∧ m < T.length ∧ w1.cell? ⟨gi, m * 3 + 1, none⟩ = some (.bool false) := by
          rcases hat.out with ⟨e, h⟩ | ⟨gi, d, m, h1, h2, h3, h4, h5⟩
          · cases h
          · have : d = false := by cases d; rfl; cases h5
            subst this
            exact ⟨gi, m, h1, h2, h3, h4⟩
        clear hls hf hz ha hat
        go_wp2_with (go_at_call 200; refine HFI.out.mono ?_; rintro e w2 ⟨rfl, rfl⟩)
        refine bodyPost_ret (results_tmp3 rfl _ _ _) rfl ?_
        exact ListPost.bad HLS.out (by decide) HB1.out
    all_goals
      rw [hz, if_pos (by decide)] at hls
      rw [hz] at HFI
      obtain ⟨c, hc⟩ : ∃ c, c = listC T s := ⟨_, rfl⟩
      have HLS : Hid (listC T s = _) := hls
      obtain ⟨a, ha⟩ : ∃ a, a = findAt T l := ⟨_, rfl⟩
      rw [← ha] at HFI
      clear hls hz ha hc
      go_wp2_with (go_at_call 200; refine HFI.out.mono ?_; rintro e w2 ⟨rfl, rfl⟩)
      refine bodyPost_ret (results_tmp3 rfl _ _ _) rfl ?_
      exact ListPost.bad HLS.out (by decide) HB1.out
  · have HB1 : Hid (Below w.heap.size w w1) := hb1
    have HLS : Hid (listC T s = 5) := list_none hl
    clear hb1 hl
    go_wp2
    refine bodyPost_ret (results_tmp3 rfl _ _ _) rfl ?_
    exact ListPost.bad HLS.out (by decide) HB1.out
end Go.Proofs.YtapijhhmjjplmaaGreatDoor
namespace Go.Proofs.YtapijhhmjjplmaaGreatDoor
open Go.RowKit Go.Maps
theorem infoEnt : (Tryz.prog.info? 52).map (fun i => (i.zero, i.size, i.bytes)) = some (some (.agg #[.string ⟨#[]⟩, .bool false, .int .i64 0]), 3, 32) := by kernel_rfl
theorem sorted_bl {T : Tre} {p : List ByteArray} {ss : List (List UInt8)} (h : ss.Perm ((kidsU T p).map bl)) : ss.mergeSort (fun x y => decide (x ≤ y)) = (kidsT T p).map bl := by
  have h1 : (ss.mergeSort (fun x y => decide (x ≤ y))).Pairwise (fun a b => decide (a ≤ b) = true) := List.pairwise_mergeSort (fun a b c h1 h2 => by simp at *; exact List.le_trans h1 h2) (fun a b => by simp; exact List.le_total a b) _
  have h2 : ((kidsT T p).map bl).Pairwise (fun a b => decide (a ≤ b) = true) := by rw [List.pairwise_map]; exact kidsT_sorted T p
  have hp : (ss.mergeSort (fun x y => decide (x ≤ y))).Perm ((kidsT T p).map bl) := (List.mergeSort_perm _ _).trans (h.trans ((kidsT_perm T p).symm.map bl))
  exact hp.eq_of_pairwise (fun _ _ _ _ h1 h2 => by simp at h1 h2; exact List.le_antisymm h1 h2) h1 h2
theorem enc_strs (l : List ByteArray) : (l.map bl).map encStr = strs l := by
  unfold strs
  rw [List.map_map]
  apply List.map_congr_left
  intro x _
  show Value.string _ = Value.string x
  congr 1
/-- A call of a Go function that leaves the world as it was, as one step of a region that draws. -/
theorem step_call {ops : Array Oper} {o : Oper} {a : Act} {w : World} {K : Act → World → Prop} {Q : Exit → Act → World → Prop} {E : Prop} {f : Nat} (hg : o.guard = none) (x : Operand) (ts : Array TypeId)
    (hop : o.op = Op.call { callee := Callee.value (Operand.func f), args := #[x], argTypes := ts }) (vx : Value) (hx : a.eval x = vx) (hen : ∀ args w, (callFunc f args).run Tryz.prog w = .ok (.enter f args) w) (v : Value)
    (hc : Calls Tryz.prog f #[vx] w fun e w' => e = .returned v ∧ w = w') (hK : K (a.put o.dst v) w) : if Region.wanted o (yielded ops a.tmps) = true then Oper.wp Tryz.prog o a w K Q else E := by
  have hw : Region.wanted o (yielded ops a.tmps) = true := by simp [Region.wanted, hg]
  rw [if_pos hw]
  unfold Oper.wp
  have e1 : a.eval (Operand.func f) = .func (.func f) #[] #[] := rfl
  simp only [execOp, hop, resolve, invoke, e1]
  simp [Deferred.ofValue, hx]
  rw [hen]
  exact hc.mono (by rintro e w' ⟨rfl, rfl⟩; exact hK)
set_option maxRecDepth 100000 in
set_option maxHeartbeats 4000000 in
theorem prog_entries (S : Nat → Prop) (rb : Nat) (T : Tre) (nb mb : List ByteArray → Nat) (p : List ByteArray) (w : World) (h : TreeM w S rb T nb mb) (hT : WFT T) (hp : isNode T p) (hf : isF T p = false) :
    Calls Tryz.prog 230 #[ptrV (nb p)] w fun e w' => ∃ v, e = .returned v ∧ w'.ownsRow w.heap.size 52 3 v (entsT T p).length (entsV (entsT T p)) ∧ Below w.heap.size w w' := by
  have HH : Hid (TreeM w S rb T nb mb) := h
  have HT : Hid (WFT T) := hT
  obtain ⟨i0, hi0, hz0, hz1, hz2⟩ := info_parts infoEnt
  obtain ⟨D, hD, hK⟩ := h.map p hp hf
  have hrow := h.node p hp
  rw [rowN_dir hf] at hrow
  have c1 : w.cell? ⟨nb p, 1, none⟩ = some (.map (some (mb p))) := cell_of_row _ _ _ _ _ _ hrow
  obtain ⟨hkeys, hsize⟩ := hK.keys hT
  have hs256 := kidsLe hT hK
  have HMK : Hid (Calls Tryz.prog 234 #[.map (some (mb p))] w fun e w' => e = .returned (.func (.func 275) #[] #[.pointer (some ⟨w.heap.size, 0, none⟩)]) ∧ w' = w.alloc (.cells #[.map (some (mb p))] 272)) := mapsKeys (some (mb p)) w
  have HSK := sortedKeys (mb p) 256 D heldR w hD (by unfold maxLen; omega) (by omega)
  obtain ⟨W1, hW1⟩ : ∃ W1, W1 = w.alloc (.cells #[.map (some (mb p))] 272) := ⟨_, rfl⟩
  rw [← hW1] at HMK HSK
  have hB1 : Below w.heap.size w W1 := by rw [hW1]; exact (Below.refl _ _).alloc (Nat.le_refl _) _
  have HB1 : Hid (Below w.heap.size w W1) := hB1
  have HSS : Hid (Calls Tryz.prog 233 #[.func (.func 275) #[] #[.pointer (some ⟨w.heap.size, 0, none⟩)]] W1 fun e w' => ∃ v, e = .returned v ∧ w'.ownsRow W1.heap.size 9 1 v (kidsT T p).length (strs (kidsT T p)) ∧ Below W1.heap.size W1 w') := by
    refine Calls.mono HSK ?_
    rintro e w' ⟨v, ss, rfl, h1, h2, h3⟩
    have hpp := h1.trans hkeys
    rw [sorted_bl hpp, enc_strs] at h2
    have hl : ss.length = (kidsT T p).length := by rw [hpp.length_eq, List.length_map, (kidsT_perm T p).length_eq]
    rw [hl] at h2
    exact ⟨v, rfl, h2, h3⟩
  have hLn : (kidsT T p).length ≤ 256 := by rw [(kidsT_perm T p).length_eq]; exact Nat.le_trans (kids_len _ _) hT.len
  have HKM : Hid (∀ nm ∈ kidsT T p, nm.size ≤ 16 ∧ ∃ x, lookT T (p ++ [nm]) = some x) := fun nm hm => by
    have h1 := (kidsT_perm T p).mem_iff.1 hm
    rw [mem_kidsU hT] at h1
    obtain ⟨x, hx⟩ := Option.isSome_iff_exists.1 h1
    refine ⟨?_, x, hx⟩
    obtain ⟨h2, h3⟩ := look_some hx
    have h4 := (hT.val x h2).2.2
    rw [h3] at h4
    exact (nmB_size (h4 nm (by simp))).2
  have HD : Hid (w.ownsMap Tryz.prog 9 heldR (mb p) 256 D) := hD
  have HK : Hid (Kids T nb p D) := hK
  obtain ⟨L, hL⟩ : ∃ L, L = kidsT T p := ⟨_, rfl⟩
  have HEN : Hid (entsT T p = L.map (entOf T p)) := by show _ = _; rw [hL]; rfl
  rw [← hL] at HSS hLn HKM
  obtain ⟨n, hn⟩ : ∃ n, n = L.length := ⟨_, rfl⟩
  have HNL : Hid (n = L.length) := hn
  rw [← hn] at hLn
  obtain ⟨bq, hbq⟩ : ∃ bq, bq = nb p := ⟨_, rfl⟩
  have hpq : ptrV (nb p) = .pointer (some ⟨bq, 0, none⟩) := by rw [hbq]; rfl
  rw [hpq]
  rw [← hbq] at c1
  have hbql := block_lt_of_cell c1
  obtain ⟨bm, hbm⟩ : ∃ bm, bm = mb p := ⟨_, rfl⟩
  rw [← hbm] at c1 HMK HD
  clear h hT hD hK hrow hkeys hsize hs256 HSK hW1 hB1 hL hn hbq hpq hbm
  go_enter Tryz.func230, Tryz.ntmps230
  go_wp2_with (first | (go_at_call 234; refine HMK.out.mono ?_; rintro e w1 ⟨rfl, rfl⟩) | (go_at_call 233; refine HSS.out.mono ?_; rintro e w3 ⟨v3, rfl, hown3, hb3⟩; have HB3 : Hid (Below w.heap.size w w3) := HB1.out.trans (hb3.mono HB1.out.size); have HSA3 : Hid (StrsAt w3 v3 L) := StrsAt.of_own hown3; obtain ⟨ao3, c3, rfl⟩ := own_sh hown3; rw [← HNL.out]; rw [← HNL.out] at HSA3; clear hown3 hb3))
  go_loopw [3, 14] (fun v iv wr => ∃ k : Nat, k ≤ n ∧ iv = .int .i64 (k : Int) ∧ Hid (wr.ownsRow w3.heap.size 52 3 v ((L.take k).map (entOf T p)).length (entsV ((L.take k).map (entOf T p)))) ∧ Hid (Below w3.heap.size w3 wr)) (fun _ i _ => n - (intOf i).toNat)
  case atStart => exact ⟨0, by omega, rfl, World.ownsRow_nil _ _ _ _, Below.refl _ _⟩
  case round =>
    obtain ⟨k, hk, rfl, HO, HB⟩ := hrel
    by_cases hlt : k < n
    · have hkl : k < L.length := by rw [← HNL.out]; exact hlt
      obtain ⟨nm, hnm⟩ : ∃ nm, nm = L[k] := ⟨_, rfl⟩
      obtain ⟨hns, x, hx⟩ := HKM.out nm (by rw [hnm]; exact List.getElem_mem _)
      have HBW : Hid (Below w.heap.size w wr) := HB3.out.trans (HB.out.mono HB3.out.size)
      obtain ⟨g3, hg3, hcl⟩ : ∃ g3, ao3 = some ⟨g3, 0, none⟩ ∧ wr.cell? ⟨g3, k, none⟩ = some (.string nm) := by
        rcases HSA3.out with ⟨h, -⟩ | ⟨g3, c, hv3, hg3, hc3⟩
        · rw [h] at hkl; cases hkl
        · cases (show ao3 = some ⟨g3, 0, none⟩ from by injection hv3)
          exact ⟨g3, rfl, by rw [HB.out.cell hg3, hc3 k hkl, hnm]⟩
      subst hg3
      have c1r : wr.cell? ⟨bq, 1, none⟩ = some (.map (some bm)) := by rw [HBW.out.cell hbql]; exact c1
      have hxn : isNode T (p ++ [nm]) := .inr (by rw [hx]; rfl)
      have hor : wr.ownsMap Tryz.prog 9 heldR bm 256 D := ownsMap_heap HD.out (HBW.out.block _ (ownsMap_lt HD.out))
      obtain ⟨cv, ps, hrun, hcv⟩ := hor.lookup strKey Tryz.underlying272 (zero_node wr) (zd := .held (.pointer none)) (zp := []) rfl (key := .string nm) (kl := .string (bl nm)) (WideMaps.keyOf_string_mk Tryz.underlying9 (by unfold maxLen; omega))
      have hcv2 : cv = .pointer (some ⟨nb (p ++ [nm]), 0, none⟩) := by
        have h1 := HK.out.at nm (.held (.pointer none))
        rw [hx] at h1
        rw [h1] at hcv
        unfold heldR at hcv
        exact DataW.held.inj (Prod.mk.inj (Option.some.inj hcv)).1
      subst hcv2
      have hmr : TreeM wr S rb T nb mb := HH.out.on (U := fun _ => False) (below_sameT HBW.out) (fun _ _ h => h)
      have hrx := hmr.node _ hxn
      have d0 : wr.cell? ⟨nb (p ++ [nm]), 0, none⟩ = some (.string x.data) := by
        rw [cell_of_row _ _ _ _ _ _ hrx]
        have : datT T (p ++ [nm]) = x.data := by unfold datT; rw [hx]
        rw [← this]
        rfl
      have HIS : Hid (∀ V, Below w.heap.size w V → Calls Tryz.prog 226 #[.pointer (some ⟨nb (p ++ [nm]), 0, none⟩)] V fun e w' => e = .returned (.bool x.dir) ∧ V = w') := fun V hV => by
        have h1 : TreeM V S rb T nb mb := HH.out.on (U := fun _ => False) (below_sameT hV) (fun _ _ h => h)
        have h2 := h1.isDir _ hxn
        have e : isF T (p ++ [nm]) = !x.dir := by unfold isF; rw [hx]
        rw [e, Bool.not_not] at h2
        exact h2
      have hxs : x.data.size ≤ 1536 := HT.out.big x (look_some hx).1
      have HTK : Hid ((L.take (k + 1)).map (entOf T p) = (L.take k).map (entOf T p) ++ [(nm, x.dir, x.data.size)]) := by
        show _ = _
        rw [List.take_succ_eq_append_getElem hkl, List.map_append, ← hnm]
        simp [entOf, hx]
      have hRl : ((L.take k).map (entOf T p)).length ≤ 256 := by rw [List.length_map, List.length_take]; omega
      obtain ⟨R, hR⟩ : ∃ R, R = (L.take k).map (entOf T p) := ⟨_, rfl⟩
      rw [← hR] at HO HTK hRl
      obtain ⟨bx, hbx⟩ : ∃ bx, bx = nb (p ++ [nm]) := ⟨_, rfl⟩
      rw [← hbx] at hrun d0 HIS
      have HFIN : Hid (∀ g cap W5, W5.ownsRow w3.heap.size 52 3 (.slice (some ⟨g, 0, none⟩) (R.length + 1) cap) (R.length + 1) (entsV R ++ [.string nm, .bool x.dir, .int .i64 (x.data.size : Int)]) → (wr.alloc (.cells #[.string nm, .bool x.dir, .int .i64 (x.data.size : Int)] 52)).drew.grownBy W5 (Value.ownBlock u3) → Hid (W5.ownsRow w3.heap.size 52 3 (.slice (some ⟨g, 0, none⟩) (R.length + 1) cap) ((L.take (k + 1)).map (entOf T p)).length (entsV ((L.take (k + 1)).map (entOf T p)))) ∧ Hid (Below w3.heap.size w3 W5)) := fun g cap W5 ho hg => by
        refine ⟨?_, ?_⟩
        · rw [HTK.out]
          exact own_ent (x := (nm, x.dir, x.data.size)) ho
        · exact ((HB.out.alloc HB.out.size _).drew).grown hg (by have := HB.out.size; simp; omega) (fun k hk => own_base_of HO.out k hk)
      clear hR hbx hnm hns hx hxn hor hcv hmr hrx HTK
      go_wp2
      go_region_law (first | (refine step_append_lies _ rfl _ _ 48 rfl w3.heap.size 52 i0 (.agg #[.string ⟨#[]⟩, .bool false, .int .i64 0]) 3 32 Tryz.underlying48 hi0 hz0 hz1 hz2 rfl (by decide) u3 R.length (entsV R) rfl (World.ownsRow.alloc (w := wr) HO.out _) ⟨wr.heap.size, 0, none⟩ 1 1 [.string nm, .bool x.dir, .int .i64 (x.data.size : Int)] rfl rfl (fun j u hj => cells_three wr _ _ _ _ j u hj) (by intro u hu; simp at hu; rcases hu with rfl | rfl | rfl <;> rfl) (by decide) (by unfold maxLen; omega) (by omega) (by have := HB.out.size; simp; omega) (wr.heap.size + 1) (by simp) ?_; intro g cap W5 hown hgrow hat hlt; obtain ⟨HF1, HF2⟩ := HFIN.out g cap W5 hown hgrow; clear hown hgrow hat hlt) | (refine step_call (f := 226) rfl _ _ rfl (.pointer (some ⟨bx, 0, none⟩)) rfl (enters_of Tryz.func226 (by kernel_rfl) rfl) (.bool x.dir) (HIS.out _ HBW.out.drew) ?_))
      all_goals
        go_wp2
        go_roundw
        case rel => exact ⟨k + 1, by omega, by go_num, HF1, HF2⟩
        case measure => (simp [intOf]; try omega)
    · have hkn : k = n := by omega
      subst hkn
      rw [List.take_of_length_le (by rw [← HNL.out]; exact Nat.le_refl _), ← HEN.out] at HO
      go_wp2
      go_ret
      exact ⟨_, rfl, own_base HO.out HB3.out.size, HB3.out.trans (HB.out.mono HB3.out.size)⟩
end Go.Proofs.YtapijhhmjjplmaaGreatDoor
namespace Go.Proofs.YtapijhhmjjplmaaGreatDoor
open Go.RowKit Go.Maps
/-- What list leaves. -/
def LPost (w : World) (a : Nat → Addr) (T : Tre) (l : List ByteArray) (e : Ending) (w' : World) : Prop := ∃ v, e = .returned (.tuple #[v, errV a (listE T l)]) ∧ Below w.heap.size w w' ∧ (listE T l ≠ 0 → v = .slice none 0 0) ∧ (listE T l = 0 → w'.ownsRow w.heap.size 52 3 v (entsT T l).length (entsV (entsT T l)))
theorem LPost.bad {w w' : World} {a : Nat → Addr} {T : Tre} {l : List ByteArray} {c : Nat} (hc : listE T l = c) (h0 : c ≠ 0) (hb : Below w.heap.size w w') : LPost w a T l (.returned (.tuple #[.slice none 0 0, rv (a (c - 1))])) w' :=
  ⟨_, by rw [hc]; unfold errV; rw [if_neg h0], hb, fun _ => rfl, fun h => absurd (hc.symm.trans h) h0⟩
set_option maxRecDepth 100000 in
set_option maxHeartbeats 2000000 in
theorem prog_list (ba : Nat) (S : Nat → Prop) (rb : Nat) (T : Tre) (nb mb : List ByteArray → Nat) (a : Nat → Addr) (m : Int) (nv : Value) (l : List ByteArray) (w : World) (h : TreeM w S rb T nb mb) (hT : WFT T) (hv : Valid l) (h8 : l.length ≤ 8) (hn : StrsAt w nv l) (hr : w.cell? ⟨ba, 1, none⟩ = some (ptrV rb)) (hV : Vars w a m) :
    Calls Tryz.prog 159 #[.pointer (some ⟨ba, 1, none⟩), nv] w fun e w' => LPost w a T l e w' := by
  have hnot : ∀ (x : Bool) (w : World), (Op.unary .not (.bool x)).run Tryz.prog w = .ok (.bool (!x)) w := fun _ _ => rfl
  have HF : Hid (Calls Tryz.prog 225 #[.pointer (some ⟨ba, 1, none⟩), nv] w fun e w' => e = .returned (.tuple #[foundV T nb l, errV a (findE T [] l)]) ∧ Below w.heap.size w w') := prog_find ba S rb T nb mb a nv l w h hT hv h8 hn hr hV.sent.v5 hV.sent.v6
  have HON : Hid (∀ w', Below w.heap.size w w' → Vars w' a m ∧ TreeM w' S rb T nb mb) := fun w' hb => ⟨hV.on hb, h.on (U := fun _ => False) (below_sameT hb) (fun _ _ h => h)⟩
  have HT : Hid (WFT T) := hT
  have hle : listE T l = if findE T [] l ≠ 0 then findE T [] l else if isF T l then 7 else 0 := rfl
  clear h hT hn hr hV
  rcases findE_cases T l [] with hz | hz | hz
  · have hnd := found_node hz
    have hfv : foundV T nb l = .pointer (some ⟨nb l, 0, none⟩) := by unfold foundV; rw [if_pos hz]; rfl
    rw [hz, if_neg (by simp)] at hle
    rw [hz, hfv, show errV a 0 = .nilIface from rfl] at HF
    obtain ⟨bq, hbq⟩ : ∃ bq, bq = nb l := ⟨_, rfl⟩
    have hpq : ptrV (nb l) = .pointer (some ⟨bq, 0, none⟩) := by rw [hbq]; rfl
    rw [← hbq] at HF
    cases hf : isF T l
    · rw [hf] at hle
      have HLE : Hid (listE T l = 0) := hle
      have HN : Hid (∀ w1, Below w.heap.size w w1 → (Calls Tryz.prog 226 #[.pointer (some ⟨bq, 0, none⟩)] w1 fun e w' => e = .returned (.bool true) ∧ w1 = w') ∧ Calls Tryz.prog 230 #[.pointer (some ⟨bq, 0, none⟩)] w1 fun e w' => ∃ v, e = .returned v ∧ w'.ownsRow w1.heap.size 52 3 v (entsT T l).length (entsV (entsT T l)) ∧ Below w1.heap.size w1 w') := fun w1 hb => by
        obtain ⟨hV1, hM1⟩ := HON.out w1 hb
        have h1 := hM1.isDir l hnd
        have h2 := prog_entries S rb T nb mb l w1 hM1 HT.out hnd hf
        rw [hf] at h1
        rw [hpq] at h1 h2
        exact ⟨h1, h2⟩
      clear hz hnd hfv hf hle hbq hpq
      go_enter Tryz.func159, Tryz.ntmps159
      go_wp2_with (first | (go_at_call 225; refine HF.out.mono ?_; rintro e w1 ⟨rfl, hb1⟩; have HB1 : Hid (Below w.heap.size w w1) := hb1; clear hb1) | (go_at_call 226; refine (HN.out w1 HB1.out).1.mono ?_; rintro e w2 ⟨rfl, rfl⟩) | (go_at_call 230; refine (HN.out w1 HB1.out).2.mono ?_; rintro e w3 ⟨v, rfl, ho, hb3⟩; have HP : Hid (LPost w a T l (.returned (.tuple #[v, .nilIface])) w3) := (⟨v, by rw [HLE.out]; rfl, HB1.out.trans (hb3.mono HB1.out.size), fun h => absurd HLE.out h, fun _ => own_base ho HB1.out.size⟩); clear ho hb3))
      refine bodyPost_ret (results_tmp2 rfl _ _ _) rfl ?_
      exact HP.out
    · rw [hf] at hle
      have HLE : Hid (listE T l = 7) := hle
      have HN : Hid (∀ w1, Below w.heap.size w w1 → w1.cell? ⟨6, 0, none⟩ = some (rv (a 6)) ∧ Calls Tryz.prog 226 #[.pointer (some ⟨bq, 0, none⟩)] w1 fun e w' => e = .returned (.bool false) ∧ w1 = w') := fun w1 hb => by
        obtain ⟨hV1, hM1⟩ := HON.out w1 hb
        have h1 := hM1.isDir l hnd
        rw [hf] at h1
        rw [hpq] at h1
        exact ⟨hV1.sent.v6, h1⟩
      clear hz hnd hfv hf hle hbq hpq
      go_enter Tryz.func159, Tryz.ntmps159
      go_wp2_with (first | (go_at_call 225; refine HF.out.mono ?_; rintro e w1 ⟨rfl, hb1⟩; have HB1 : Hid (Below w.heap.size w w1) := hb1; have hE1 := (HN.out w1 hb1).1; clear hb1) | (go_at_call 226; refine (HN.out w1 HB1.out).2.mono ?_; rintro e w2 ⟨rfl, rfl⟩))
      go_quiet (fail)
      go_wp2
      refine bodyPost_ret (results_tmp2 rfl _ _ _) rfl ?_
      exact LPost.bad HLE.out (by decide) (below_drewN' HB1.out _)
  all_goals
    rw [if_pos (by rw [hz]; decide)] at hle
    have hfv : foundV T nb l = .pointer none := by unfold foundV; rw [if_neg (by rw [hz]; decide)]
    obtain ⟨ad, had⟩ : ∃ ad, ad = a (findE T [] l - 1) := ⟨_, rfl⟩
    have hev : errV a (findE T [] l) = rv ad := by rw [had, hz]; rfl
    rw [hfv, hev] at HF
    rw [hz] at had hle
    have HLE : Hid (listE T l = _) := hle
    have HAD : Hid (ad = a _) := had
    clear hz hfv hev had hle
    go_enter Tryz.func159, Tryz.ntmps159
    go_wp2_with (go_at_call 225; refine HF.out.mono ?_; rintro e w1 ⟨rfl, hb1⟩; have HB1 : Hid (Below w.heap.size w w1) := hb1; clear hb1)
    refine bodyPost_ret (results_tmp2 rfl _ _ _) rfl ?_
    rw [HAD.out]
    exact LPost.bad HLE.out (by decide) HB1.out
set_option maxRecDepth 100000 in
theorem arc_entries (ba bd : Nat) (S : Nat → Prop) (T : Tre) (a : Nat → Addr) (m : Int) (nv : Value) (l : List ByteArray) (w : World) (h : ArcP w S ba bd T) (hT : WFT T) (hv : Valid l) (h8 : l.length ≤ 8) (hn : StrsAt w nv l) (hV : Vars w a m) :
    Calls Tryz.prog 91 #[.pointer (some ⟨ba, 0, none⟩), .int .i64 0, nv] w fun e w' => LPost w a T l e w' := by
  obtain ⟨R, rb, nb, mb, h⟩ := h
  have HL := prog_list ba _ rb T nb mb a m nv l w h.tree hT hv h8 hn h.c1 hV
  have HLL : Hid (Calls Tryz.prog 159 #[.pointer (some ⟨ba, 1, none⟩), nv] w fun e w' => ∃ v ev, e = .returned (.tuple #[v, ev]) ∧ Hid (LPost w a T l (.returned (.tuple #[v, ev])) w')) := by
    refine Calls.mono HL ?_
    rintro e w' ⟨v, rfl, h1⟩
    exact ⟨v, _, rfl, v, rfl, h1⟩
  clear h HL hT hn hV hv h8
  go_enter Tryz.func91, Tryz.ntmps91
  go_wp2_with (go_at_call 159; refine HLL.out.mono ?_; rintro e w1 ⟨v, ev, rfl, HP⟩)
  refine bodyPost_ret (results_tmp2 rfl _ _ _) rfl ?_
  exact HP.out
end Go.Proofs.YtapijhhmjjplmaaGreatDoor
namespace Go.Proofs.YtapijhhmjjplmaaGreatDoor
open Go.RowKit Go.Maps
/-- plain.List's variables: most, l, e, at, over, more. -/
structure LBox (w : World) (H B : Nat) (most : Int) (lv : Value) (R : List (ByteArray × Bool × Nat)) (ec : Int) (ov : Bool) : Prop where
  most : w.heap[H]? = some (.cells #[.int .i64 most] 3 (0, 0))
  l : w.heap[H + 1]? = some (.cells #[lv] 48 (0, 0))
  e : w.heap[H + 2]? = some (.cells #[.int .i64 ec] 3 (0, 0))
  at_ : w.heap[H + 3]? = some (.cells #[.int .i64 (-1)] 3 (0, 0))
  over : w.heap[H + 4]? = some (.cells #[.bool ov] 4 (0, 0))
  more : w.heap[H + 5]? = some (.cells #[.bool false] 4 (0, 0))
  own : w.ownsRow B 52 3 lv R.length (entsV R)
  hB : H + 6 ≤ B ∧ B ≤ w.heap.size
def yArgs (H : Nat) (x ev : Value) : Array Value := #[x, ev, .pointer (some ⟨H + 4, 0, none⟩), .pointer (some ⟨H + 5, 0, none⟩), .pointer (some ⟨H + 2, 0, none⟩), .pointer (some ⟨H + 3, 0, none⟩), .pointer (some ⟨H + 1, 0, none⟩), .pointer (some ⟨H, 0, none⟩)]
def yOver (most : Int) (n : Nat) : Bool := decide (0 < most) && decide ((n : Int) = most)
def ySet (H B : Nat) : Nat → Prop := fun g => g = H + 1 ∨ g = H + 4 ∨ B ≤ g
set_option maxRecDepth 100000 in
set_option maxHeartbeats 2000000 in
theorem yield_ok (H B : Nat) (most : Int) (lv : Value) (R : List (ByteArray × Bool × Nat)) (x : ByteArray × Bool × Nat) (w : World) (h : LBox w H B most lv R 0 false) (hR : R.length ≤ 256) (hm : inR most) :
    Calls Tryz.prog 48 (yArgs H (.agg #[.string x.1, .bool x.2.1, .int .i64 (x.2.2 : Int)]) .nilIface) w fun e w' => e = .returned (.bool (!(yOver most (R.length + 1)))) ∧ (∃ lv', LBox w' H B most lv' (R ++ [x]) 0 (yOver most (R.length + 1))) ∧ Same (ySet H B) w w' := by
  obtain ⟨i0, hi0, hz0, hz1, hz2⟩ := info_parts infoEnt
  have hnot : ∀ (x : Bool) (w : World), (Op.unary .not (.bool x)).run Tryz.prog w = .ok (.bool (!x)) w := fun _ _ => rfl
  have hnl : ∀ w, (binOp BinOp.neq 92 .nilIface .nilIface).run Tryz.prog w = .ok (.bool false) w := fun w => by rfl
  obtain ⟨nm, dr, sz⟩ := x
  have HH : Hid (LBox w H B most lv R 0 false) := h
  obtain ⟨hB1, hB2⟩ := h.hB
  have c4 : w.cell? ⟨H + 4, 0, none⟩ = some (.bool false) := cell_of_row _ _ _ _ _ _ h.over
  have c1 : w.cell? ⟨H + 1, 0, none⟩ = some lv := cell_of_row _ _ _ _ _ _ h.l
  obtain ⟨ao, cp, rfl⟩ := own_sh h.own
  have HO : Hid (w.ownsRow B 52 3 (.slice ao R.length cp) R.length (entsV R)) := h.own
  have l1 : H + 1 < w.heap.size := by omega
  have l4 : H + 4 < w.heap.size := by omega
  have HC3 : Hid (∀ j u, [Value.string nm, Value.bool dr, Value.int .i64 (sz : Int)][j]? = some u → ((w.alloc (.cells #[.string nm, .bool dr, .int .i64 (sz : Int)] 52)).alloc (.cells #[.string nm, .bool dr, .int .i64 (sz : Int)] 52)).cell? ((⟨w.heap.size + 1, 0, none⟩ : Addr).add j) = some u) := by
    have hc3 := cells_three (w.alloc (.cells #[.string nm, .bool dr, .int .i64 (sz : Int)] 52)) (.string nm) (.bool dr) (.int .i64 (sz : Int)) 52
    have es : (w.alloc (.cells #[.string nm, .bool dr, .int .i64 (sz : Int)] 52)).heap.size = w.heap.size + 1 := by simp
    rw [es] at hc3
    exact hc3
  obtain ⟨q, hq⟩ : ∃ q, q = yOver most (R.length + 1) := ⟨_, rfl⟩
  rw [← hq]
  have HQ : Hid (q = yOver most (R.length + 1)) := hq
  clear hq
  unfold yArgs
  unfold inR at hm
  obtain ⟨hm1, hm2⟩ := hm
  clear h
  go_enter Tryz.func48, Tryz.ntmps48
  go_wp2_with (at_builtin; refine wpList_append_own_at _ rfl _ _ 48 rfl B 52 i0 (.agg #[.string ⟨#[]⟩, .bool false, .int .i64 0]) 3 32 Tryz.underlying48 hi0 hz0 hz1 hz2 rfl (by decide) _ R.length (entsV R) rfl (World.ownsRow.alloc (World.ownsRow.alloc HO.out _) _) _ 1 1 [.string nm, .bool dr, .int .i64 (sz : Int)] rfl rfl HC3.out (by intro u hu; simp at hu; rcases hu with rfl | rfl | rfl <;> rfl) (by unfold maxLen; omega) (by omega) (by simp; omega) ?_)
  intro v' w4 hown' hgrow _ hat
  obtain ⟨ao', cp', rfl⟩ := own_sh hown'
  have hkeep : ∀ k, k < B → w4.heap[k]? = w.heap[k]? := fun k hk => by
    rw [hgrow.block k (by simp; omega) (fun e => by have := own_base_of HO.out k e.symm; omega), heapOldI _ _ (by simp; omega), heapOldI _ _ (by omega)]
  have hS4 : Same (ySet H B) w w4 := by
    refine ((Same.alloc0 w (.cells #[.string nm, .bool dr, .int .i64 (sz : Int)] 52)).alloc (.cells #[.string nm, .bool dr, .int .i64 (sz : Int)] 52)).trans ?_
    exact ⟨hgrow.os, hgrow.tape, hgrow.output, hgrow.size, fun k hk hn => hgrow.block k hk (fun e => hn (.inr (.inr (own_base_of HO.out k e.symm))))⟩
  have HP4 : Hid (Same (ySet H B) w w4 ∧ w4.ownsRow B 52 3 (.slice ao' (R.length + 1) cp') (R ++ [(nm, dr, sz)]).length (entsV (R ++ [(nm, dr, sz)])) ∧ ∀ k, k < B → w4.heap[k]? = w.heap[k]?) := ⟨hS4, (own_ent (x := (nm, dr, sz)) hown').out, hkeep⟩
  have d1 : w4.heap[H + 1]? = some (.cells #[.slice ao R.length cp] 48 (0, 0)) := by rw [hkeep _ (by omega)]; exact HH.out.l
  have d0 : w4.heap[H]? = some (.cells #[.int .i64 most] 3 (0, 0)) := by rw [hkeep _ (by omega)]; exact HH.out.most
  have d4 : w4.heap[H + 4]? = some (.cells #[.bool false] 4 (0, 0)) := by rw [hkeep _ (by omega)]; exact HH.out.over
  have e1 : w4.cell? ⟨H + 1, 0, none⟩ = some (.slice ao R.length cp) := cell_of_row _ _ _ _ _ _ d1
  have e0 : w4.cell? ⟨H, 0, none⟩ = some (.int .i64 most) := cell_of_row _ _ _ _ _ _ d0
  have e4 : w4.cell? ⟨H + 4, 0, none⟩ = some (.bool false) := cell_of_row _ _ _ _ _ _ d4
  have f1 := frozen_of_row w4 (H + 1) 0 _ _ d1
  have f4 := frozen_of_row w4 (H + 4) 0 _ _ d4
  clear hown' hgrow hat hkeep hS4 d0 d1 d4 c1 c4 HC3 HO
  have HFIN : Hid (∀ b, b = q → (∃ lv', LBox ((w4.setCell ⟨H + 1, 0, none⟩ (.slice ao' (R.length + 1) cp')).setCell ⟨H + 4, 0, none⟩ (.bool b)) H B most lv' (R ++ [(nm, dr, sz)]) 0 q) ∧ Same (ySet H B) w ((w4.setCell ⟨H + 1, 0, none⟩ (.slice ao' (R.length + 1) cp')).setCell ⟨H + 4, 0, none⟩ (.bool b))) := by
    rintro b rfl
    obtain ⟨hS, hO, hk⟩ := HP4.out
    have h := HH.out
    have other : ∀ k, k < B → k ≠ H + 1 → k ≠ H + 4 → ((w4.setCell ⟨H + 1, 0, none⟩ (.slice ao' (R.length + 1) cp')).setCell ⟨H + 4, 0, none⟩ (.bool b)).heap[k]? = w.heap[k]? := fun k hkB h1 h4 => by
      rw [heap_setCell_other _ _ _ _ h4, heap_setCell_other _ _ _ _ h1, hk k hkB]
    refine ⟨⟨.slice ao' (R.length + 1) cp', ?_, ?_, ?_, ?_, ?_, ?_, ?_, ?_⟩, (hS.setCell ⟨H + 1, 0, none⟩ (.inl rfl) _).setCell ⟨H + 4, 0, none⟩ (.inr (.inl rfl)) _⟩
    · rw [other _ (by omega) (by omega) (by omega)]; exact h.most
    · rw [heap_setCell_other _ _ _ _ (by show H + 1 ≠ H + 4; omega), heap_setCell_same _ (H + 1) 0 _ _ _ (by rw [hk _ (by omega)]; exact h.l)]; rfl
    · rw [other _ (by omega) (by omega) (by omega)]; exact h.e
    · rw [other _ (by omega) (by omega) (by omega)]; exact h.at_
    · rw [heap_setCell_same _ (H + 4) 0 _ _ _ (by rw [heap_setCell_other _ _ _ _ (by show H + 4 ≠ H + 1; omega), hk _ (by omega)]; exact h.over)]; rfl
    · rw [other _ (by omega) (by omega) (by omega)]; exact h.more
    · exact own_heap hO fun g hg => by
        have := own_base_of hO g hg
        rw [heap_setCell_other _ _ _ _ (by show g ≠ H + 4; omega), heap_setCell_other _ _ _ _ (by show g ≠ H + 1; omega)]
    · exact ⟨hB1, by have := hS.size; simp [World.setCell]; omega⟩
  have hRi : (R.length : Int) ≤ 256 := by omega
  have hyo : yOver most (R.length + 1) = (decide (0 < most) && decide (((R.length : Int) + 1) = most)) := rfl
  clear HP4 HH
  by_cases hmp : 0 < most
  · by_cases hme : (R.length : Int) + 1 = most
    · have HV : Hid (true = q) := by rw [HQ.out, hyo, decide_eq_true hmp, decide_eq_true hme]; rfl
      have hb : ((R.length : Int) + 1 == most) = true := by rw [hme]; simp
      clear hyo
      go_wp2
      go_ret
      obtain ⟨h1, h2⟩ := HFIN.out true HV.out
      exact ⟨by rw [← HV.out]; rfl, h1, h2⟩
    · have HV : Hid (false = q) := by rw [HQ.out, hyo, decide_eq_true hmp, decide_eq_false hme]; rfl
      have hb : ((R.length : Int) + 1 == most) = false := by rw [beq_eq_false_iff_ne]; exact hme
      clear hyo
      go_wp2
      go_ret
      obtain ⟨h1, h2⟩ := HFIN.out false HV.out
      exact ⟨by rw [← HV.out]; rfl, h1, h2⟩
  · have HV : Hid (false = q) := by rw [HQ.out, hyo, decide_eq_false hmp]; rfl
    clear hyo
    go_wp2
    go_ret
    obtain ⟨h1, h2⟩ := HFIN.out false HV.out
    exact ⟨by rw [← HV.out]; rfl, h1, h2⟩
end Go.Proofs.YtapijhhmjjplmaaGreatDoor
namespace Go.Proofs.YtapijhhmjjplmaaGreatDoor
open Go.RowKit Go.Maps
theorem own_lt {w : World} {B n k : Nat} {e : TypeId} {v : Value} {xs : List Value} (h : w.ownsRow B e k v n xs) {g : Nat} (hg : v.ownBlock = some g) : g < w.heap.size :=
  OwnS.lt (S := fun _ => True) ⟨own_base h (Nat.zero_le _), fun _ _ => trivial⟩ hg
set_option maxRecDepth 100000 in
set_option maxHeartbeats 2000000 in
theorem yield_err (H B : Nat) (most : Int) (lv : Value) (R : List (ByteArray × Bool × Nat)) (a : Nat → Addr) (c : Nat) (hc : 1 ≤ c ∧ c ≤ 12) (w : World) (h : LBox w H B most lv R 0 false) (hS : Sent w a) :
    Calls Tryz.prog 48 (yArgs H (.agg #[.string ⟨#[]⟩, .bool false, .int .i64 0]) (rv (a (c - 1)))) w fun e w' => e = .returned (.bool true) ∧ LBox w' H B most lv R (c : Int) true ∧ Same (fun g => H ≤ g) w w' := by
  obtain ⟨hB1, hB2⟩ := h.hB
  have HN : Hid (∀ w1, Below w.heap.size w w1 → Calls Tryz.prog 43 #[rv (a (c - 1))] w1 fun e w' => e = .returned (.tuple #[.int .i64 (c : Int), .int .i64 (-1)]) ∧ Below w1.heap.size w1 w') := fun w1 hb => by
    have := number_of c hc.2 a w1 (hS.on hb)
    unfold errV at this
    rw [if_neg (by omega)] at this
    exact this
  have hrv := rv_neq (a (c - 1))
  have hnl : ∀ w, (binOp BinOp.neq 92 .nilIface .nilIface).run Tryz.prog w = .ok (.bool false) w := fun w => by rfl
  have c4 : w.cell? ⟨H + 4, 0, none⟩ = some (.bool false) := cell_of_row _ _ _ _ _ _ h.over
  have l4 : H + 4 < w.heap.size := by omega
  obtain ⟨p, hp⟩ : ∃ p, p = a (c - 1) := ⟨_, rfl⟩
  rw [← hp] at HN hrv ⊢
  have HH : Hid (LBox w H B most lv R 0 false) := h
  unfold yArgs
  clear h hS hp hc
  go_enter Tryz.func48, Tryz.ntmps48
  go_wp2_with fail
  refine (HN.out _ ((Below.refl _ _).alloc (Nat.le_refl _) _)).mono ?_
  rintro e w1 ⟨rfl, hb1⟩
  have hb : Below w.heap.size w w1 := ((Below.refl _ _).alloc (Nat.le_refl _) _).trans (hb1.mono (by simp))
  have d2 : w1.heap[H + 2]? = some (.cells #[.int .i64 0] 3 (0, 0)) := by rw [hb.block _ (by omega)]; exact HH.out.e
  have d3 : w1.heap[H + 3]? = some (.cells #[.int .i64 (-1)] 3 (0, 0)) := by rw [hb.block _ (by omega)]; exact HH.out.at_
  have d4 : w1.heap[H + 4]? = some (.cells #[.bool false] 4 (0, 0)) := by rw [hb.block _ (by omega)]; exact HH.out.over
  have e2 : w1.cell? ⟨H + 2, 0, none⟩ = some (.int .i64 0) := cell_of_row _ _ _ _ _ _ d2
  have e3 : w1.cell? ⟨H + 3, 0, none⟩ = some (.int .i64 (-1)) := cell_of_row _ _ _ _ _ _ d3
  have e4 : w1.cell? ⟨H + 4, 0, none⟩ = some (.bool false) := cell_of_row _ _ _ _ _ _ d4
  have f2 := frozen_of_row w1 (H + 2) 0 _ _ d2
  have f3 := frozen_of_row w1 (H + 3) 0 _ _ d3
  have f4 := frozen_of_row w1 (H + 4) 0 _ _ d4
  have HB : Hid (Below w.heap.size w w1) := hb
  clear hb hb1 d2 d3 d4 HN
  go_wp2
  go_ret
  have h := HH.out
  have hb := HB.out
  have other : ∀ k, k < w.heap.size → k ≠ H + 2 → k ≠ H + 3 → k ≠ H + 4 → (((w1.setCell ⟨H + 2, 0, none⟩ (.int .i64 (c : Int))).setCell ⟨H + 3, 0, none⟩ (.int .i64 (-1))).setCell ⟨H + 4, 0, none⟩ (.bool true)).heap[k]? = w.heap[k]? := fun k hk h2 h3 h4 => by
    rw [heap_setCell_other _ _ _ _ h4, heap_setCell_other _ _ _ _ h3, heap_setCell_other _ _ _ _ h2, hb.block k hk]
  refine ⟨rfl, ⟨?_, ?_, ?_, ?_, ?_, ?_, ?_, ⟨hB1, ?_⟩⟩, ?_⟩
  · rw [other _ (by omega) (by omega) (by omega) (by omega)]; exact h.most
  · rw [other _ (by omega) (by omega) (by omega) (by omega)]; exact h.l
  · rw [heap_setCell_other _ _ _ _ (by show H + 2 ≠ H + 4; omega), heap_setCell_other _ _ _ _ (by show H + 2 ≠ H + 3; omega), heap_setCell_same _ (H + 2) 0 _ _ _ (by rw [hb.block _ (by omega)]; exact h.e)]; rfl
  · rw [heap_setCell_other _ _ _ _ (by show H + 3 ≠ H + 4; omega), heap_setCell_same _ (H + 3) 0 _ _ _ (by rw [heap_setCell_other _ _ _ _ (by show H + 3 ≠ H + 2; omega), hb.block _ (by omega)]; exact h.at_)]; rfl
  · rw [heap_setCell_same _ (H + 4) 0 _ _ _ (by rw [heap_setCell_other _ _ _ _ (by show H + 4 ≠ H + 3; omega), heap_setCell_other _ _ _ _ (by show H + 4 ≠ H + 2; omega), hb.block _ (by omega)]; exact h.over)]; rfl
  · rw [other _ (by omega) (by omega) (by omega) (by omega)]; exact h.more
  · refine own_heap h.own fun g hg => ?_
    have h1 := own_base_of h.own g hg
    rw [other g (own_lt h.own hg) (by omega) (by omega) (by omega)]
  · have := hb.size
    simp [World.setCell]
    omega
  · exact (((below_sameT hb).setCell ⟨H + 2, 0, none⟩ (by show H ≤ H + 2; omega) _).setCell ⟨H + 3, 0, none⟩ (by show H ≤ H + 3; omega) _).setCell ⟨H + 4, 0, none⟩ (by show H ≤ H + 4; omega) _
theorem LBox.alloc {w : World} {H B : Nat} {most : Int} {lv : Value} {R : List (ByteArray × Bool × Nat)} {ec : Int} {ov : Bool} (h : LBox w H B most lv R ec ov) (o : Obj) : LBox (w.alloc o) H B most lv R ec ov := by
  obtain ⟨h1, h2⟩ := h.hB
  exact ⟨by rw [heapOldI _ _ (by omega)]; exact h.most, by rw [heapOldI _ _ (by omega)]; exact h.l, by rw [heapOldI _ _ (by omega)]; exact h.e, by rw [heapOldI _ _ (by omega)]; exact h.at_, by rw [heapOldI _ _ (by omega)]; exact h.over, by rw [heapOldI _ _ (by omega)]; exact h.more, World.ownsRow.alloc h.own o, ⟨h1, by simp; omega⟩⟩
/-- As many as may be. -/
def takeM (most : Int) (E : List (ByteArray × Bool × Nat)) : List (ByteArray × Bool × Nat) := if 0 < most then E.take most.toNat else E
theorem takeM_stop (most : Int) (E : List (ByteArray × Bool × Nat)) (k : Nat) (h : yOver most (k + 1) = true) : takeM most E = E.take (k + 1) := by
  unfold yOver at h
  simp at h
  unfold takeM
  rw [if_pos h.1]
  congr 1
  omega
/-- It went through all. -/
theorem takeM_all (most : Int) (E : List (ByteArray × Bool × Nat)) (h : ∀ k, k < E.length → yOver most (k + 1) = false) : takeM most E = E := by
  unfold takeM
  split
  · rename_i hm
    apply List.take_of_length_le
    apply Nat.not_lt.1
    intro hl
    have := h (most.toNat - 1) (by omega)
    unfold yOver at this
    rw [decide_eq_true hm, Bool.true_and, decide_eq_false_iff_not] at this
    omega
  · rfl
/-- What the sequence leaves in plain.List's variables. -/
def SeqPost (H : Nat) (most : Int) (T : Tre) (l : List ByteArray) (w' : World) : Prop := ∃ B lv, (listE T l = 0 → ∃ ov, LBox w' H B most lv (takeM most (entsT T l)) 0 ov) ∧ (listE T l ≠ 0 → lv = .slice none 0 0 ∧ LBox w' H B most lv [] (listE T l) true)
theorem listE_le (T : Tre) (l : List ByteArray) : listE T l ≤ 12 := by
  show (if findE T [] l ≠ 0 then findE T [] l else if isF T l then 7 else 0) ≤ 12
  rcases findE_cases T l [] with h | h | h <;> rw [h] <;> (repeat' split) <;> omega
theorem entsV_length (E : List (ByteArray × Bool × Nat)) : (entsV E).length = E.length * 3 := by
  unfold entsV
  induction E with
  | nil => rfl
  | cons x E ih => rw [List.flatMap_cons, List.length_append, ih, List.length_cons]; show 3 + _ = _; omega
theorem entsV_at : ∀ (E : List (ByteArray × Bool × Nat)) (k : Nat) (hk : k < E.length), (entsV E)[k * 3]? = some (.string E[k].1) ∧ (entsV E)[k * 3 + 1]? = some (.bool E[k].2.1) ∧ (entsV E)[k * 3 + 2]? = some (.int .i64 (E[k].2.2 : Int))
  | x :: E, 0, _ => ⟨rfl, rfl, rfl⟩
  | x :: E, k + 1, hk => by
    obtain ⟨h1, h2, h3⟩ := entsV_at E k (by simpa using hk)
    have e : ∀ j, (entsV (x :: E))[(k + 1) * 3 + j]? = (entsV E)[k * 3 + j]? := fun j => by
      show (entV x ++ entsV E)[(k + 1) * 3 + j]? = _
      rw [List.getElem?_append_right (by show 3 ≤ _; omega)]
      congr 1
      show (k + 1) * 3 + j - 3 = _
      omega
    exact ⟨(e 0).trans h1, (e 1).trans h2, (e 2).trans h3⟩
/-- A list of entries: its cells. -/
theorem ents_cells {w : World} {B : Nat} {t : TypeId} {v : Value} {E : List (ByteArray × Bool × Nat)} (h : w.ownsRow B t 3 v E.length (entsV E)) (hn : 0 < E.length) : ∃ g cap, v = .slice (some ⟨g, 0, none⟩) E.length cap ∧ B ≤ g ∧ g < w.heap.size ∧ ∀ k (hk : k < E.length), w.cell? ⟨g, k * 3, none⟩ = some (.string E[k].1) ∧ w.cell? ⟨g, k * 3 + 1, none⟩ = some (.bool E[k].2.1) ∧ w.cell? ⟨g, k * 3 + 2, none⟩ = some (.int .i64 (E[k].2.2 : Int)) := by
  obtain ⟨g, cap, hv, -, hc, -⟩ := OwnS.open (S := fun _ => True) ⟨own_base h (Nat.zero_le _), fun _ _ => trivial⟩ hn
  have hob : v.ownBlock = some g := by rw [hv]; rfl
  refine ⟨g, cap, hv, own_base_of h g hob, own_lt h hob, fun k hk => ?_⟩
  obtain ⟨h1, h2, h3⟩ := entsV_at E k hk
  have hl := entsV_length E
  have hj : ∀ j, j < 3 → ∀ u, (entsV E)[k * 3 + j]? = some u → w.cell? ⟨g, k * 3 + j, none⟩ = some u := fun j hj u hu => by
    have hlt : k * 3 + j < (entsV E).length := by omega
    rw [hc _ hlt]
    rw [List.getElem?_eq_getElem hlt] at hu
    exact hu
  exact ⟨hj 0 (by omega) _ h1, hj 1 (by omega) _ h2, hj 2 (by omega) _ h3⟩
set_option maxRecDepth 100000 in
set_option maxHeartbeats 4000000 in
/-- The sequence, over plain.List's function. -/
theorem prog_seq (H : Nat) (most : Int) (ba bd : Nat) (S : Nat → Prop) (T : Tre) (a : Nat → Addr) (m : Int) (nv : Value) (l : List ByteArray) (b0 b1 b2 b3 : Nat) (w : World) (hm : inR most)
    (h : ArcP w S ba bd T) (hT : WFT T) (hv : Valid l) (h8 : l.length ≤ 8) (hn : StrsAt w nv l) (hV : Vars w a m) (hL : LBox w H w.heap.size most (.slice none 0 0) [] 0 false)
    (k0 : w.cell? ⟨b0, 0, none⟩ = some (.pointer (some ⟨ba, 0, none⟩))) (k1 : w.cell? ⟨b1, 0, none⟩ = some (.int .i64 0)) (k2 : w.cell? ⟨b2, 0, none⟩ = some nv) (k3 : w.cell? ⟨b3, 0, none⟩ = some .nilIface) :
    Calls Tryz.prog 90 #[.func (.func 48) #[] #[.pointer (some ⟨H + 4, 0, none⟩), .pointer (some ⟨H + 5, 0, none⟩), .pointer (some ⟨H + 2, 0, none⟩), .pointer (some ⟨H + 3, 0, none⟩), .pointer (some ⟨H + 1, 0, none⟩), .pointer (some ⟨H, 0, none⟩)], .pointer (some ⟨b3, 0, none⟩), .pointer (some ⟨b0, 0, none⟩), .pointer (some ⟨b1, 0, none⟩), .pointer (some ⟨b2, 0, none⟩)] w fun e w' => e = .returned (.tuple #[]) ∧ SeqPost H most T l w' ∧ Same (fun g => H ≤ g) w w' := by
  have HE : Hid (∀ w1, Below w.heap.size w w1 → Calls Tryz.prog 91 #[.pointer (some ⟨ba, 0, none⟩), .int .i64 0, nv] w1 fun e w' => ∃ v ev, e = .returned (.tuple #[v, ev]) ∧ Hid (LPost w1 a T l (.returned (.tuple #[v, ev])) w')) := fun w1 hb => by
    refine Calls.mono (arc_entries ba bd S T a m nv l w1 (h.on (U := fun _ => False) (below_sameT hb) (fun _ _ h => h)) hT hv h8 (hn.on hb) (hV.on hb)) ?_
    rintro e w' ⟨v, rfl, h1⟩
    exact ⟨v, _, rfl, v, rfl, h1⟩
  have heq : ∀ (caps : Array Value) (w : World), (binOp BinOp.eql 99 (.func (.func 48) #[] caps) .nilFunc).run Tryz.prog w = .ok (.bool false) w := fun _ _ => by rfl
  have hnot : ∀ (x : Bool) (w : World), (Op.unary .not (.bool x)).run Tryz.prog w = .ok (.bool (!x)) w := fun _ _ => rfl
  have hnl : ∀ w, (binOp BinOp.neq 92 .nilIface .nilIface).run Tryz.prog w = .ok (.bool false) w := fun w => by rfl
  have hel : ∀ w, (binOp BinOp.eql 92 .nilIface .nilIface).run Tryz.prog w = .ok (.bool true) w := fun w => by rfl
  have HP : Hid (WFT T ∧ Vars w a m ∧ LBox w H w.heap.size most (.slice none 0 0) [] 0 false) := ⟨hT, hV, hL⟩
  obtain ⟨lb1, lb2⟩ := hL.hB
  clear h hT hn hV hL
  go_enter Tryz.func90, Tryz.ntmps90
  go_wp2
  go_quiet (fail)
  go_wp2_with fail
  refine Calls.mono (HE.out _ ?hbq) ?_
  case hbq => exact ⟨rfl, rfl, rfl, Nat.le_refl _, fun _ _ => rfl⟩
  rintro e w3 ⟨v, ev, rfl, HL3⟩
  clear HE k0 k1 k2 k3
  obtain ⟨v', he, hb3', hbad, hgood⟩ := HL3.out
  have hb3 : Below w.heap.size w w3 := (show Below w.heap.size w (w.drewN nq) from ⟨rfl, rfl, rfl, Nat.le_refl _, fun _ _ => rfl⟩).trans hb3'
  clear hb3' HL3
  obtain ⟨rfl, rfl⟩ : v = v' ∧ ev = errV a (listE T l) := by
    have h1 := Ending.returned.inj he
    have h2 := Value.tuple.inj h1
    have h3 := congrArg Array.toList h2
    simp at h3
    exact h3
  have hsz3 := hb3.size
  have HB3 : Hid (Below w.heap.size w w3) := hb3
  have HLB : Hid (LBox w3 H w3.heap.size most (.slice none 0 0) [] 0 false) := by
    obtain ⟨-, -, h⟩ := HP.out
    exact ⟨by rw [hb3.block _ (by omega)]; exact h.most, by rw [hb3.block _ (by omega)]; exact h.l, by rw [hb3.block _ (by omega)]; exact h.e, by rw [hb3.block _ (by omega)]; exact h.at_, by rw [hb3.block _ (by omega)]; exact h.over, by rw [hb3.block _ (by omega)]; exact h.more, ⟨rfl, .inl ⟨rfl, rfl⟩⟩, ⟨by omega, Nat.le_refl _⟩⟩
  by_cases hz : listE T l = 0
  · have hown := hgood hz
    rw [hz, show errV a 0 = .nilIface from rfl]
    have hEl : (entsT T l).length ≤ 256 := by
      show ((kidsT T l).map (entOf T l)).length ≤ 256
      rw [List.length_map, (kidsT_perm T l).length_eq]
      exact Nat.le_trans (kids_len _ _) HP.out.1.len
    have HZ : Hid (listE T l = 0) := hz
    obtain ⟨E, hE⟩ : ∃ E, E = entsT T l := ⟨_, rfl⟩
    rw [← hE] at hown hEl
    have HEE : Hid (E = entsT T l) := hE
    obtain ⟨ao, cp, rfl⟩ := own_sh hown
    have HOW : Hid (0 < E.length → ∃ g, ao = some ⟨g, 0, none⟩ ∧ H + 6 ≤ g ∧ g < w3.heap.size ∧ ∀ k (hk : k < E.length), w3.cell? ⟨g, k * 3, none⟩ = some (.string E[k].1) ∧ w3.cell? ⟨g, k * 3 + 1, none⟩ = some (.bool E[k].2.1) ∧ w3.cell? ⟨g, k * 3 + 2, none⟩ = some (.int .i64 (E[k].2.2 : Int))) := by
      intro hn
      obtain ⟨g, cap, hv, h1, h2, h3⟩ := ents_cells hown hn
      refine ⟨g, by injection hv, ?_, h2, h3⟩
      have : w.heap.size ≤ g := h1
      omega
    have HPS : Hid (∀ wr, Same (ySet H w3.heap.size) w3 wr → Same (fun g => H ≤ g) w wr) := fun wr hs => (below_sameT HB3.out).trans (hs.weak (by rintro g (h | h | h) <;> omega))
    obtain ⟨n, hn⟩ : ∃ n, n = E.length := ⟨_, rfl⟩
    rw [← hn] at hEl ⊢
    have HN : Hid (n = E.length) := hn
    obtain ⟨B, hBB⟩ : ∃ B, B = w3.heap.size := ⟨_, rfl⟩
    rw [← hBB] at HLB HPS
    have HBB : Hid (B = w3.heap.size) := hBB
    have hni : (n : Int) ≤ 256 := by omega
    clear he hbad hgood hz hown hE hb3 hn hBB hsz3
    go_wp2
    go_loopw [30] (fun iv_ wr => ∃ k : Nat, k ≤ n ∧ iv_ = .int .i64 (k : Int) ∧ Hid ((∃ lv, LBox wr H B most lv (E.take k) 0 false) ∧ Same (ySet H B) w3 wr ∧ ∀ j, j < k → yOver most (j + 1) = false)) (fun iv_ _ => n - (intOf iv_).toNat)
    case atStart => exact ⟨0, by omega, rfl, ⟨_, HLB.out⟩, Same.refl _ _, fun j hj => absurd hj (by omega)⟩
    case round =>
      clear HLB
      obtain ⟨k, hk, rfl, HI⟩ := hrel
      by_cases hlt : k < n
      · obtain ⟨⟨lv, hlb⟩, hsm, hyo⟩ := HI.out
        have hkE : k < E.length := by rw [← HN.out]; exact hlt
        obtain ⟨g, rfl, hg6, hgl, hcs⟩ := HOW.out (by omega)
        have hng : ¬ ySet H B g := by rintro (h | h | h) <;> (have := HBB.out; omega)
        obtain ⟨q0, q1, q2⟩ := hcs k hkE
        have r0 := hsm.cell (p := ⟨g, k * 3, none⟩) hng q0
        have r1 := hsm.cell (p := ⟨g, k * 3 + 1, none⟩) hng q1
        have r2 := hsm.cell (p := ⟨g, k * 3 + 2, none⟩) hng q2
        have htl : (E.take k).length = k := by rw [List.length_take]; omega
        have hts : E.take k ++ [E[k]] = E.take (k + 1) := (List.take_succ_eq_append_getElem hkE).symm
        have HY := yield_ok H B most lv (E.take k) E[k] (wr.alloc (.cells #[.string E[k].1, .bool E[k].2.1, .int .i64 (E[k].2.2 : Int)] 52)) (hlb.alloc _) (by omega) hm
        rw [htl, hts] at HY
        obtain ⟨⟨nm, dr, sz⟩, hx⟩ : ∃ x, x = E[k] := ⟨_, rfl⟩
        rw [← hx] at r0 r1 r2 HY
        have r0 : wr.cell? ⟨g, k * 3, none⟩ = some (.string nm) := r0
        have r1 : wr.cell? ⟨g, k * 3 + 1, none⟩ = some (.bool dr) := r1
        have r2 : wr.cell? ⟨g, k * 3 + 2, none⟩ = some (.int .i64 (sz : Int)) := r2
        unfold yArgs at HY
        have HYY : Hid (Calls Tryz.prog 48 #[.agg #[.string nm, .bool dr, .int .i64 (sz : Int)], .nilIface, .pointer (some ⟨H + 4, 0, none⟩), .pointer (some ⟨H + 5, 0, none⟩), .pointer (some ⟨H + 2, 0, none⟩), .pointer (some ⟨H + 3, 0, none⟩), .pointer (some ⟨H + 1, 0, none⟩), .pointer (some ⟨H, 0, none⟩)] (wr.alloc (.cells #[.string nm, .bool dr, .int .i64 (sz : Int)] 52)) fun e w' => e = .returned (.bool (!(yOver most (k + 1)))) ∧ (∃ lv', LBox w' H B most lv' (E.take (k + 1)) 0 (yOver most (k + 1))) ∧ Same (ySet H B) (wr.alloc (.cells #[.string nm, .bool dr, .int .i64 (sz : Int)] 52)) w') := HY
        have HSM : Hid (∀ w', Same (ySet H B) (wr.alloc (.cells #[.string nm, .bool dr, .int .i64 (sz : Int)] 52)) w' → Same (ySet H B) w3 w') := fun w' h => (hsm.alloc _).trans h
        have HYO : Hid (∀ j, j < k → yOver most (j + 1) = false) := hyo
        have hki : (k : Int) < n := by omega
        clear HI hlb hsm hyo hcs hng q0 q1 q2 htl hts hx HY hg6 hgl hkE
        cases hyk : yOver most (k + 1)
        · rw [hyk] at HYY
          have HYK : Hid (yOver most (k + 1) = false) := hyk
          clear hyk
          go_wp2_with (go_at_call 48; refine HYY.out.mono ?_; rintro e w4 ⟨rfl, hl4, hs4⟩; have HL4 : Hid (∃ lv', LBox w4 H B most lv' (E.take (k + 1)) 0 false) := hl4; have HS4 : Hid (Same (ySet H B) w3 w4) := HSM.out w4 hs4; clear hl4 hs4 HYY HSM)
          go_roundw
          case rel =>
            refine ⟨k + 1, by omega, by go_num, HL4.out, HS4.out, fun j hj => ?_⟩
            by_cases e : j = k
            · rw [e]; exact HYK.out
            · exact HYO.out j (by omega)
          case measure => (simp [intOf]; try omega)
        · rw [hyk] at HYY
          have HYK : Hid (yOver most (k + 1) = true) := hyk
          clear hyk
          go_wp2_with (go_at_call 48; refine HYY.out.mono ?_; rintro e w4 ⟨rfl, hl4, hs4⟩; have HL4 : Hid (∃ lv', LBox w4 H B most lv' (E.take (k + 1)) 0 true) := hl4; have HS4 : Hid (Same (ySet H B) w3 w4) := HSM.out w4 hs4; clear hl4 hs4 HYY HSM)
          first | go_end0 | (simp only [Exit.inBlock, Exit.then]; refine bodyPost_ret (results_none rfl _ _ _) rfl ?_) | refine bodyPost_ret (results_none rfl _ _ _) rfl ?_
          obtain ⟨lv', hl4⟩ := HL4.out
          rw [← takeM_stop most E k HYK.out, HEE.out] at hl4
          exact ⟨rfl, ⟨B, lv', fun _ => ⟨_, hl4⟩, fun h => absurd HZ.out h⟩, HPS.out w4 HS4.out⟩
      · have hkn : k = n := by omega
        have hki : ¬ (k : Int) < n := by omega
        go_wp2
        first | go_end0 | (simp only [Exit.inBlock, Exit.then]; refine bodyPost_ret (results_none rfl _ _ _) rfl ?_) | refine bodyPost_ret (results_none rfl _ _ _) rfl ?_
        obtain ⟨⟨lv, hlb⟩, hsm, hyo⟩ := HI.out
        rw [hkn, HN.out, List.take_length] at hlb
        have ht := takeM_all most E (fun j hj => hyo j (by rw [hkn, HN.out]; exact hj))
        rw [← ht, HEE.out] at hlb
        exact ⟨rfl, ⟨B, lv, fun _ => ⟨_, hlb⟩, fun h => absurd HZ.out h⟩, HPS.out _ hsm⟩
  · have hvz := hbad hz
    subst hvz
    have hc : 1 ≤ listE T l ∧ listE T l ≤ 12 := ⟨by omega, listE_le T l⟩
    have hev : errV a (listE T l) = rv (a (listE T l - 1)) := by unfold errV; rw [if_neg hz]
    rw [hev]
    have HY : Hid (Calls Tryz.prog 48 (yArgs H (.agg #[.string ⟨#[]⟩, .bool false, .int .i64 0]) (rv (a (listE T l - 1)))) w3 fun e w' => e = .returned (.bool true) ∧ LBox w' H w3.heap.size most (.slice none 0 0) [] (listE T l : Int) true ∧ Same (fun g => H ≤ g) w3 w') := yield_err H w3.heap.size most _ [] a _ hc w3 HLB.out (HP.out.2.1.sent.on hb3)
    have hrv := rv_neq (a (listE T l - 1))
    unfold yArgs at HY
    obtain ⟨p, hp⟩ : ∃ p, p = a (listE T l - 1) := ⟨_, rfl⟩
    rw [← hp] at HY hrv ⊢
    have HZ : Hid (listE T l ≠ 0) := hz
    clear he hbad hgood hev hp hz hc HLB hb3
    go_wp2_with (go_at_call 48; refine HY.out.mono ?_; rintro e w4 ⟨rfl, hl4, hs4⟩; have HL4 : Hid (LBox w4 H w3.heap.size most (.slice none 0 0) [] (listE T l : Int) true) := hl4; have HS4 : Hid (Same (fun g => H ≤ g) w3 w4) := hs4; clear hl4 hs4 HY)
    first | go_end0 | (simp only [Exit.inBlock, Exit.then]; refine bodyPost_ret (results_none rfl _ _ _) rfl ?_) | refine bodyPost_ret (results_none rfl _ _ _) rfl ?_
    exact ⟨rfl, ⟨w3.heap.size, _, fun h => absurd h HZ.out, fun _ => ⟨rfl, HL4.out⟩⟩, (below_sameT HB3.out).trans HS4.out⟩
set_option maxRecDepth 100000 in
set_option maxHeartbeats 4000000 in
/-- The sequence, where the path may not be. -/
theorem prog_seq_bad (H : Nat) (most : Int) (a : Nat → Addr) (b0 b1 b2 b3 : Nat) (w : World) (hS : Sent w a) (hL : LBox w H w.heap.size most (.slice none 0 0) [] 0 false) (k3 : w.cell? ⟨b3, 0, none⟩ = some (rv (a 4))) :
    Calls Tryz.prog 90 #[.func (.func 48) #[] #[.pointer (some ⟨H + 4, 0, none⟩), .pointer (some ⟨H + 5, 0, none⟩), .pointer (some ⟨H + 2, 0, none⟩), .pointer (some ⟨H + 3, 0, none⟩), .pointer (some ⟨H + 1, 0, none⟩), .pointer (some ⟨H, 0, none⟩)], .pointer (some ⟨b3, 0, none⟩), .pointer (some ⟨b0, 0, none⟩), .pointer (some ⟨b1, 0, none⟩), .pointer (some ⟨b2, 0, none⟩)] w fun e w' => e = .returned (.tuple #[]) ∧ LBox w' H w.heap.size most (.slice none 0 0) [] 5 true ∧ Same (fun g => H ≤ g) w w' := by
  have heq : ∀ (caps : Array Value) (w : World), (binOp BinOp.eql 99 (.func (.func 48) #[] caps) .nilFunc).run Tryz.prog w = .ok (.bool false) w := fun _ _ => by rfl
  have hel : ∀ w, (binOp BinOp.eql 92 (rv (a 4)) .nilIface).run Tryz.prog w = .ok (.bool false) w := fun w => by kernel_rfl
  have hrv := rv_neq (a 4)
  have HY : Hid (∀ n, Calls Tryz.prog 48 (yArgs H (.agg #[.string ⟨#[]⟩, .bool false, .int .i64 0]) (rv (a 4))) (w.drewN n) fun e w' => e = .returned (.bool true) ∧ LBox w' H w.heap.size most (.slice none 0 0) [] 5 true ∧ Same (fun g => H ≤ g) w w') := fun n => by
    refine (yield_err H w.heap.size most (.slice none 0 0) [] a 5 (by omega) (w.drewN n) ⟨hL.most, hL.l, hL.e, hL.at_, hL.over, hL.more, hL.own, hL.hB⟩ (hS.on ⟨rfl, rfl, rfl, Nat.le_refl _, fun _ _ => rfl⟩)).mono ?_
    rintro e w' ⟨rfl, h1, h2⟩
    exact ⟨rfl, h1, ⟨h2.os, h2.tape, h2.output, h2.size, h2.block⟩⟩
  unfold yArgs at HY
  obtain ⟨p, hp⟩ : ∃ p, p = a 4 := ⟨_, rfl⟩
  rw [← hp] at HY hrv hel k3
  clear hp hS hL
  go_enter Tryz.func90, Tryz.ntmps90
  go_wp2
  go_quiet (fail)
  go_wp2_with (go_at_call 48; refine (HY.out _).mono ?_; rintro e w4 ⟨rfl, hl4, hs4⟩; have HL4 : Hid (LBox w4 H w.heap.size most (.slice none 0 0) [] 5 true ∧ Same (fun g => H ≤ g) w w4) := ⟨hl4, hs4⟩; clear hl4 hs4 HY)
  first | go_end0 | (simp only [Exit.inBlock, Exit.then]; refine bodyPost_ret (results_none rfl _ _ _) rfl ?_) | refine bodyPost_ret (results_none rfl _ _ _) rfl ?_
  exact ⟨rfl, HL4.out.1, HL4.out.2⟩
end Go.Proofs.YtapijhhmjjplmaaGreatDoor
namespace Go.Proofs.YtapijhhmjjplmaaGreatDoor
open Go.RowKit Go.Maps
/-- What the archive's List leaves: the sequence's variables. -/
def ArcL (w : World) (a : Nat → Addr) (ba : Nat) (s : ByteArray) (e : Ending) (w' : World) : Prop := ∃ b0 b1 b2 b3 nv ev, e = .returned (.func (.func 90) #[] #[.pointer (some ⟨b3, 0, none⟩), .pointer (some ⟨b0, 0, none⟩), .pointer (some ⟨b1, 0, none⟩), .pointer (some ⟨b2, 0, none⟩)]) ∧ Below w.heap.size w w' ∧ w'.cell? ⟨b0, 0, none⟩ = some (.pointer (some ⟨ba, 0, none⟩)) ∧ w'.cell? ⟨b1, 0, none⟩ = some (.int .i64 0) ∧ w'.cell? ⟨b2, 0, none⟩ = some nv ∧ w'.cell? ⟨b3, 0, none⟩ = some ev ∧ ((∃ l, pathOf s = some l ∧ ev = .nilIface ∧ NamesV w' nv l) ∨ (pathOf s = none ∧ ev = rv (a 4)))
set_option maxRecDepth 100000 in
set_option maxHeartbeats 2000000 in
theorem arc_List (ba : Nat) (s : ByteArray) (w : World) (a : Nat → Addr) (m : Int) (hV : Vars w a m) (hs : s.size ≤ 262144) :
    Calls Tryz.prog 47 #[.pointer (some ⟨ba, 0, none⟩), .int .i64 0, .string s] w fun e w' => ArcL w a ba s e w' := by
  have hmf : ∀ (fn : Fn) (first cap : Array Value) (w : World), (Instr.makeFunc fn first cap).run Tryz.prog w = .ok (.func fn first cap) w := fun _ _ _ _ => rfl
  have HN : Hid (∀ w1, Below w.heap.size w w1 → Calls Tryz.prog 89 #[.string s] w1 fun e w' => ∃ v ev, e = .returned (.tuple #[v, ev]) ∧ Hid (Below w1.heap.size w1 w' ∧ ((∃ l, pathOf s = some l ∧ ev = .nilIface ∧ NamesV w' v l) ∨ (pathOf s = none ∧ ev = rv (a 4) ∧ v = .slice none 0 0)))) := fun w1 hb => by
    have hV1 := hV.on hb
    refine (prog_names2 s w1 a m hV1.sent.v4 hV1.max hs).mono ?_
    rintro e w' ⟨v, c, rfl, h1, ⟨l, h2, rfl, h3⟩ | ⟨h2, rfl, h3⟩⟩
    · exact ⟨v, _, rfl, h1, .inl ⟨l, h2, rfl, h3⟩⟩
    · exact ⟨v, _, rfl, h1, .inr ⟨h2, rfl, h3⟩⟩
  clear hV
  go_enter Tryz.func47, Tryz.ntmps47
  go_wp2_with fail
  refine Calls.mono (HN.out _ ?hb) ?_
  case hb => exact ((Below.refl _ _).alloc (Nat.le_refl _) _).alloc (by simp) _
  rintro e w1 ⟨v, ev, rfl, HK⟩
  have hb1 := HK.out.1
  have k0 : w1.cell? ⟨w.heap.size, 0, none⟩ = some (.pointer (some ⟨ba, 0, none⟩)) := by
    rw [hb1.cell (by simp; omega)]
    simp
  have k1 : w1.cell? ⟨w.heap.size + 1, 0, none⟩ = some (.int .i64 0) := by
    rw [hb1.cell (by simp)]
    simp
  have hb : Below w.heap.size w w1 := (((Below.refl _ _).alloc (Nat.le_refl _) _).alloc (by simp) _).trans (hb1.mono (by simp; omega))
  have hsz : w.heap.size + 2 ≤ w1.heap.size := by have := hb1.size; simp at this; omega
  have HB : Hid (Below w.heap.size w w1) := hb
  have HC : Hid (w1.cell? ⟨w.heap.size, 0, none⟩ = some (.pointer (some ⟨ba, 0, none⟩)) ∧ w1.cell? ⟨w.heap.size + 1, 0, none⟩ = some (.int .i64 0)) := ⟨k0, k1⟩
  clear hb1 hb k0 k1
  have HK2 : Hid ((∃ l, pathOf s = some l ∧ ev = .nilIface ∧ NamesV w1 v l) ∨ (pathOf s = none ∧ ev = rv (a 4) ∧ v = .slice none 0 0)) := HK.out.2
  have HFIN : Hid (ArcL w a ba s (.returned (.func (.func 90) #[] #[.pointer (some ⟨w1.heap.size + 1, 0, none⟩), .pointer (some ⟨w.heap.size, 0, none⟩), .pointer (some ⟨w.heap.size + 1, 0, none⟩), .pointer (some ⟨w1.heap.size, 0, none⟩)])) ((w1.alloc (.cells #[v] 35)).alloc (.cells #[ev] 92))) := by
    have hB2 : Below w1.heap.size w1 ((w1.alloc (.cells #[v] 35)).alloc (.cells #[ev] 92)) := ((Below.refl _ _).alloc (Nat.le_refl _) _).alloc (by simp) _
    refine ⟨_, _, _, _, v, ev, rfl, HB.out.trans (hB2.mono HB.out.size), ?_, ?_, ?_, ?_, ?_⟩
    · rw [hB2.cell (by show w.heap.size < _; omega)]; exact HC.out.1
    · rw [hB2.cell (by show w.heap.size + 1 < _; omega)]; exact HC.out.2
    · simp
    · simp
    · rcases HK2.out with ⟨l, h1, h2, h3⟩ | h
      · exact .inl ⟨l, h1, h2, h3.on hB2⟩
      · exact .inr ⟨h.1, h.2.1⟩
  clear HK HN
  rcases HK2.out with ⟨l, -, rfl, hnv⟩ | ⟨-, rfl, rfl⟩
  · obtain ⟨ao, n, c, rfl⟩ : ∃ ao n c, v = .slice ao n c := by
      rcases hnv with ⟨-, ao, c, h⟩ | ⟨g, c, h, -⟩
      · exact ⟨ao, 0, c, h⟩
      · exact ⟨_, _, c, h⟩
    clear HK2 hnv
    go_wp2
    go_ret
    exact HFIN.out
  · clear HK2
    go_wp2
    go_ret
    exact HFIN.out
end Go.Proofs.YtapijhhmjjplmaaGreatDoor
