/- OWN TEXT: the reference's constants, and its maker of sums. -/
import Derived.Test.YtapijhhmjjplmaaGreatDoorPrimes
namespace Go.Proofs.YtapijhhmjjplmaaGreatDoor
open Go.RowKit

def kc (i : Nat) : List Nat := ((prs 310).take i).map fun p => rootN p 3
def hc (i : Nat) : List Nat := ((prs 310).take i).map fun p => rootN p 2
theorem kc_succ (i : Nat) (h : i < (prs 310).length) : kc (i + 1) = kc i ++ [rootN (prs 310)[i] 3] := by
  unfold kc; rw [List.take_succ_eq_append_getElem h, List.map_append]; rfl
theorem hc_succ (i : Nat) (h : i < (prs 310).length) : hc (i + 1) = hc i ++ [rootN (prs 310)[i] 2] := by
  unfold hc; rw [List.take_succ_eq_append_getElem h, List.map_append]; rfl

theorem cell_later' {B : Nat} {w w' : World} (hb : Below B w w') {p : Addr} {v : Value} (h : w.cell? p = some v) (hp : p.block < B) : w'.cell? p = some v := by
  rw [hb.cell hp]; exact h
/-- Of the old blocks at most g has turned. -/
structure Only (g : Nat) (w w' : World) : Prop where
  os : w'.os = w.os
  tape : w'.tape = w.tape
  output : w'.output = w.output
  size : w.heap.size ≤ w'.heap.size
  block : ∀ k, k < w.heap.size → k ≠ g → w'.heap[k]? = w.heap[k]?
theorem Only.refl (g : Nat) (w : World) : Only g w w := ⟨rfl, rfl, rfl, Nat.le_refl _, fun _ _ _ => rfl⟩
theorem Only.trans {g : Nat} {a b c : World} (h : Only g a b) (k : Only g b c) : Only g a c :=
  ⟨k.os.trans h.os, k.tape.trans h.tape, k.output.trans h.output, Nat.le_trans h.size k.size, fun i hi hg => (k.block i (Nat.lt_of_lt_of_le hi h.size) hg).trans (h.block i hi hg)⟩
theorem Only.of_below {g B : Nat} {w w' : World} (h : Below B w w') (hB : w.heap.size ≤ B) : Only g w w' := ⟨h.os, h.tape, h.output, h.size, fun k hk _ => h.block k (Nat.lt_of_lt_of_le hk hB)⟩
theorem Only.setCell {g : Nat} {a w : World} (h : Only g a w) {p : Addr} (hp : p.block = g) (u : Value) : Only g a (w.setCell p u) :=
  ⟨h.os, h.tape, h.output, by rw [World.size_setCell]; exact h.size, fun k hk hg => (Below.heap_setCell w p u k (by rw [hp]; exact hg)).trans (h.block k hk hg)⟩
theorem Only.drewN {g : Nat} {a w : World} (h : Only g a w) (n : Nat) : Only g a (w.drewN n) := ⟨h.os, h.tape, h.output, h.size, h.block⟩
theorem Only.drew {g : Nat} {a w : World} (h : Only g a w) : Only g a w.drew := ⟨h.os, h.tape, h.output, h.size, h.block⟩
theorem Only.cell {g : Nat} {w w' : World} (h : Only g w w') {p : Addr} (hp : p.block < w.heap.size) (hg : p.block ≠ g) : w'.cell? p = w.cell? p := World.cell?_of_block (h.block p.block hp hg)
theorem Row.only {g : Nat} {w w' : World} {b : Nat} {l : List Int} (h : Row w b l) (ho : Only g w w') (hg : b ≠ g) : Row w' b l := h.of_heap (ho.block b h.lt hg)
/-- What was new above B may turn, too. -/
theorem Only.below {g : Nat} {w w' : World} (h : Only g w w') (B : Nat) (hB : B ≤ g) (hw : B ≤ w.heap.size) : Below B w w' := ⟨h.os, h.tape, h.output, h.size, fun k hk => h.block k (by omega) (by omega)⟩

theorem own_on {w w' : World} {B C : Nat} {e : TypeId} {size : Nat} {v : Value} {n : Nat} {xs : List Value} (h : w.ownsRow B e size v n xs) (hb : Below C w w') (hC : w.heap.size ≤ C) : w'.ownsRow B e size v n xs := by
  obtain ⟨h1, h2⟩ := h
  refine ⟨h1, ?_⟩
  rcases h2 with h2 | ⟨g, cap, cur, rfl, hB, hg, h3⟩
  · exact .inl h2
  · exact .inr ⟨g, cap, cur, rfl, hB, by rw [hb.block g (Nat.lt_of_lt_of_le (Array.getElem?_eq_some_iff.1 hg).1 hC)]; exact hg, h3⟩
theorem own_base {w : World} {B C : Nat} {e : TypeId} {size : Nat} {v : Value} {n : Nat} {xs : List Value} (h : w.ownsRow B e size v n xs) (hC : C ≤ B) : w.ownsRow C e size v n xs := by
  obtain ⟨h1, h2⟩ := h
  refine ⟨h1, ?_⟩
  rcases h2 with h2 | ⟨g, cap, cur, rfl, hB, hg, h3⟩
  · exact .inl h2
  · exact .inr ⟨g, cap, cur, rfl, Nat.le_trans hC hB, hg, h3⟩
theorem own_base_of {w : World} {B : Nat} {e : TypeId} {size : Nat} {v : Value} {n : Nat} {xs : List Value} (h : w.ownsRow B e size v n xs) : ∀ k, v.ownBlock = some k → B ≤ k := fun k hk => (h.lt k hk).1

theorem own_block {w : World} {B n : Nat} {e : TypeId} {v : Value} {l : List Nat} (h : w.ownsRow B e 1 v n (iv l)) (hn : 0 < n) : ∃ k, v.ownBlock = some k ∧ B ≤ k ∧ k < w.heap.size := by
  have h0 := h
  obtain ⟨h1, h2⟩ := h
  rcases h2 with ⟨_, h2⟩ | ⟨g, cap, cur, rfl, hB, hg, h3⟩
  · omega
  · exact ⟨g, rfl, hB, (Array.getElem?_eq_some_iff.1 hg).1⟩

theorem iv_ints (l : List Nat) : iv l = (ints l).map (Value.int .i64) := by simp [iv, ints]
/-- A row of the call's own, as a block. -/
theorem own_row {w : World} {B n : Nat} {e : TypeId} {v : Value} {l : List Nat} (h : w.ownsRow B e 1 v n (iv l)) (hn : 0 < n) : ∃ g cap, v = .slice (some ⟨g, 0, none⟩) n cap ∧ B ≤ g ∧ Row w g (ints l) := by
  obtain ⟨h1, h2⟩ := h
  rcases h2 with ⟨_, h2⟩ | ⟨g, cap, cur, rfl, hB, hg, h3, h4, h5, h6⟩
  · omega
  · refine ⟨g, cap, rfl, hB, e, cur.toList.drop n, ?_⟩
    rw [hg, ← iv_ints, ← h6, Nat.mul_one, List.take_append_drop]

set_option maxRecDepth 100000 in
set_option maxHeartbeats 2000000 in
theorem constants_any (w : World) :
    Calls Tryz.prog 64 #[] w fun e w' => ∃ kv hv, e = .returned (.tuple #[kv, hv]) ∧ w'.ownsRow w.heap.size 3 1 kv 64 (iv (kc 64)) ∧ w'.ownsRow w.heap.size 3 1 hv 8 (iv (hc 8)) ∧ kv.ownBlock ≠ hv.ownBlock ∧ Below w.heap.size w w' := by
  obtain ⟨i0, hi0, hz0, hz1, hz2⟩ := info_parts infoInt
  go_enter Tryz.func64, Tryz.ntmps64
  go_wp2_with fail
  refine (primes64 w).mono ?_
  rintro e w1 ⟨v, rfl, hown, hbl⟩
  have hsz1 := hbl.size
  rcases own_open hown with ⟨-, hnil⟩ | ⟨g, cap, rfl, hBg, -, hcell⟩
  · have := prs_all
    rw [hnil] at this
    cases this
  have hg1 : g < w1.heap.size := (hown.lt g rfl).2
  have HC : Hid (∀ j (hj : j < (prs 310).length), w1.cell? ⟨g, j, none⟩ = some (.int .i64 ((prs 310)[j] : Int))) := hcell
  have HBL : Hid (Below w.heap.size w w1) := hbl
  clear hcell hown hbl
  go_wp2
  go_loopw [3, 5] (fun kv ci wr => ∃ i : Nat, i ≤ 64 ∧ ci = .int .i64 i ∧ Hid (wr.ownsRow w1.heap.size 3 1 kv i (iv (kc i))) ∧ Hid (Below w1.heap.size w1 wr)) (fun _ i _ => 64 - (intOf i).toNat)
  case atStart => exact ⟨0, by omega, rfl, World.ownsRow_nil _ _ _ _, Below.refl _ _⟩
  case round =>
    obtain ⟨i, hi, rfl, HK, HB⟩ := hrel
    by_cases hlt : i < 64
    · have hip : i < (prs 310).length := by rw [prs_all]; exact hlt
      obtain ⟨p, hp⟩ : ∃ p, p = (prs 310)[i] := ⟨_, rfl⟩
      have hpr : 2 ≤ p ∧ p ≤ 310 + 1 := by rw [hp]; exact prs_range 310 _ (List.getElem_mem _)
      have cp : wr.cell? ⟨g, i, none⟩ = some (.int .i64 (p : Int)) := by rw [hp]; exact cell_later' HB.out (HC.out i hip) hg1
      have HP : Hid (p = (prs 310)[i]) := hp
      clear hp
      go_wp2_with fail
      refine (root3 p _ (by omega) (by omega)).mono ?_
      rintro e w2 ⟨rfl, hb2⟩
      obtain ⟨r, hr⟩ : ∃ r, r = rootN p 3 := ⟨_, rfl⟩
      rw [← hr]
      have HR : Hid (r = rootN p 3) := hr
      clear hr cp
      have HK2 : Hid (w2.ownsRow w1.heap.size 3 1 u3 i (iv (kc i))) := own_on HK.out hb2 (Nat.le_refl _)
      have HB2 : Hid (Below w1.heap.size w1 w2) := HB.out.trans (hb2.mono HB.out.size)
      clear hb2 HK HB
      go_wp2_with (at_builtin; refine wpList_append_own_at _ rfl _ _ 34 rfl w1.heap.size 3 i0 (.int .i64 0) 1 8 Tryz.underlying34 hi0 hz0 hz1 hz2 rfl (by decide) _ _ _ rfl (World.ownsRow.alloc HK2.out _) _ 1 1 [.int .i64 (r : Int)] rfl rfl (cell_one_new _ _ _) ?c2 ?c3 ?c4 ?c5 ?_)
      case c2 => intro u hu; rw [List.mem_singleton] at hu; subst hu; rfl
      case c3 => unfold maxLen; omega
      case c4 => omega
      case c5 => have := HB2.out.size; simp; omega
      intro v' w3 hown' hgrow _ _
      have HK3 : Hid (w3.ownsRow w1.heap.size 3 1 v' (i + 1) (iv (kc i) ++ [.int .i64 (r : Int)])) := hown'
      have HB3 : Hid (Below w1.heap.size w1 w3) := (HB2.out.alloc HB2.out.size _).grown hgrow (by have := HB2.out.size; simp; omega) (own_base_of HK2.out)
      clear hown' hgrow
      go_wp2
      go_roundw
      case rel =>
        refine ⟨i + 1, by omega, by go_num, ?_, HB3⟩
        show World.ownsRow _ _ _ _ _ _ _
        rw [kc_succ i hip, iv_append, ← HP.out, ← HR.out]
        exact HK3.out
      case measure => (simp [intOf]; try omega)
    · have hi64 : i = 64 := by omega
      obtain ⟨i1, hi1⟩ : ∃ i1, i1 = i := ⟨_, rfl⟩
      subst hi1
      have HK64 : Hid (wr.ownsRow w1.heap.size 3 1 u3 64 (iv (kc 64))) := by
        have h := HK.out
        rw [hi64] at h
        exact h
      clear HK hi64
      obtain ⟨wk, hwk⟩ : ∃ wk, wk = wr := ⟨_, rfl⟩
      subst hwk
      have hszk := HB.out.size
      go_wp2
      go_loopw [4, 7] (fun hv ci wr' => ∃ i : Nat, i ≤ 8 ∧ ci = .int .i64 i ∧ Hid (wr'.ownsRow wk.heap.size 3 1 hv i (iv (hc i))) ∧ Hid (Below wk.heap.size wk wr')) (fun _ i _ => 8 - (intOf i).toNat)
      case atStart => exact ⟨0, by omega, rfl, World.ownsRow_nil _ _ _ _, Below.refl _ _⟩
      case round =>
        have HBk := HB
        have HKk := HK64
        clear HB HK64
        obtain ⟨i, hi, rfl, HK, HB⟩ := hrel
        by_cases hlt : i < 8
        · have hip : i < (prs 310).length := by rw [prs_all]; omega
          obtain ⟨p, hp⟩ : ∃ p, p = (prs 310)[i] := ⟨_, rfl⟩
          have hpr : 2 ≤ p ∧ p ≤ 310 + 1 := by rw [hp]; exact prs_range 310 _ (List.getElem_mem _)
          have cp : wr.cell? ⟨g, i, none⟩ = some (.int .i64 (p : Int)) := by
            rw [hp]
            exact cell_later' HB.out (cell_later' HBk.out (HC.out i hip) hg1) (by show g < _; omega)
          have HP : Hid (p = (prs 310)[i]) := hp
          clear hp
          go_wp2_with fail
          refine (root2 p _ (by omega) (by omega)).mono ?_
          rintro e w2 ⟨rfl, hb2⟩
          obtain ⟨r, hr⟩ : ∃ r, r = rootN p 2 := ⟨_, rfl⟩
          rw [← hr]
          have HR : Hid (r = rootN p 2) := hr
          clear hr cp
          have HK2 : Hid (w2.ownsRow wk.heap.size 3 1 u4 i (iv (hc i))) := own_on HK.out hb2 (Nat.le_refl _)
          have HB2 : Hid (Below wk.heap.size wk w2) := HB.out.trans (hb2.mono HB.out.size)
          clear hb2 HK HB
          go_wp2_with (at_builtin; refine wpList_append_own_at _ rfl _ _ 34 rfl wk.heap.size 3 i0 (.int .i64 0) 1 8 Tryz.underlying34 hi0 hz0 hz1 hz2 rfl (by decide) _ _ _ rfl (World.ownsRow.alloc HK2.out _) _ 1 1 [.int .i64 (r : Int)] rfl rfl (cell_one_new _ _ _) ?d2 ?d3 ?d4 ?d5 ?_)
          case d2 => intro u hu; rw [List.mem_singleton] at hu; subst hu; rfl
          case d3 => unfold maxLen; omega
          case d4 => omega
          case d5 => have := HB2.out.size; simp; omega
          intro v' w3 hown' hgrow _ _
          have HK3 : Hid (w3.ownsRow wk.heap.size 3 1 v' (i + 1) (iv (hc i) ++ [.int .i64 (r : Int)])) := hown'
          have HB3 : Hid (Below wk.heap.size wk w3) := (HB2.out.alloc HB2.out.size _).grown hgrow (by have := HB2.out.size; simp; omega) (own_base_of HK2.out)
          clear hown' hgrow
          go_wp2
          go_roundw
          case rel =>
            refine ⟨i + 1, by omega, by go_num, ?_, HB3⟩
            show World.ownsRow _ _ _ _ _ _ _
            rw [hc_succ i hip, iv_append, ← HP.out, ← HR.out]
            exact HK3.out
          case measure => (simp [intOf]; try omega)
        · have hi8 : i = 8 := by omega
          subst hi8
          go_wp2
          go_ret2
          refine ⟨_, _, rfl, ?_, ?_, ?_, ?_⟩
          · exact own_base (own_on HKk.out HB.out (Nat.le_refl _)) hsz1
          · exact own_base HK.out (by omega)
          · obtain ⟨a, ha, _, ha2⟩ := own_block HKk.out (by omega)
            obtain ⟨b, hb, hb1, _⟩ := own_block HK.out (by omega)
            intro h
            have h' := ha.symm.trans (h.trans hb)
            cases h'
            omega
          · exact HBL.out.trans ((HBk.out.trans (HB.out.mono hszk)).mono hsz1)

theorem maker_any (w : World) :
    Calls Tryz.prog 39 #[] w fun e w' => ∃ b kv hv, e = .returned (.pointer (some ⟨b, 0, none⟩)) ∧ w.heap.size ≤ b ∧ w'.heap[b]? = some (.cells #[kv, hv] 142 (0, 0)) ∧ w'.ownsRow w.heap.size 3 1 kv 64 (iv (kc 64)) ∧ w'.ownsRow w.heap.size 3 1 hv 8 (iv (hc 8)) ∧ kv.ownBlock ≠ hv.ownBlock ∧ kv.ownBlock ≠ some b ∧ hv.ownBlock ≠ some b ∧ Below w.heap.size w w' := by
  go_enter Tryz.func39, Tryz.ntmps39
  go_wp2_with fail
  refine (constants_any w).mono ?_
  rintro e w1 ⟨kv, hv, rfl, hk, hh, hne, hbl⟩
  have HK : Hid (w1.ownsRow w.heap.size 3 1 kv 64 (iv (kc 64))) := hk
  have HH : Hid (w1.ownsRow w.heap.size 3 1 hv 8 (iv (hc 8))) := hh
  have HN : Hid (kv.ownBlock ≠ hv.ownBlock) := hne
  have HBL : Hid (Below w.heap.size w w1) := hbl
  have hl1 : (kc 64).length = 64 := by unfold kc; rw [List.length_map, List.length_take, prs_all]; rfl
  have hl2 : (hc 8).length = 8 := by unfold hc; rw [List.length_map, List.length_take, prs_all]; rfl
  rcases own_open hk with ⟨-, h0⟩ | ⟨g1, c1, rfl, -, -, -⟩
  · rw [h0] at hl1; cases hl1
  rcases own_open hh with ⟨-, h0⟩ | ⟨g2, c2, rfl, -, -, -⟩
  · rw [h0] at hl2; cases hl2
  clear hk hh hne hbl hl1 hl2
  go_wp2
  go_ret
  obtain ⟨a, ha, _, ha2⟩ := own_block HK.out (by omega)
  obtain ⟨b, hb, _, hb2⟩ := own_block HH.out (by omega)
  refine ⟨w1.heap.size, _, _, rfl, HBL.out.size, ?_, HK.out.alloc _, HH.out.alloc _, HN.out, ?_, ?_, HBL.out.alloc HBL.out.size _⟩
  · show (w1.heap.push _)[w1.heap.size]? = _
    rw [Array.getElem?_push_size]
  · rw [ha]; intro h; cases h; omega
  · rw [hb]; intro h; cases h; omega
end Go.Proofs.YtapijhhmjjplmaaGreatDoor
