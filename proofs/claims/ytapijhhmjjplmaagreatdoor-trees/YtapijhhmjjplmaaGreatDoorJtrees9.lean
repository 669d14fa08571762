/- OWN TEXT: joined of: LT5 UptoN LS1 TS1 LS5 TS3 TS2 LT6 LT7 LT8. -/
import Derived.Laws.Rows
import Derived.Deep.AppendLies
import Derived.Deep.RegionLaw
import Derived.Deep.RegionHeld3
import Derived.Test.YtapijhhmjjplmaaGreatDoorJtrees8
namespace Go.Proofs.YtapijhhmjjplmaaGreatDoor
open Go.RowKit Go.Maps
/-- What a Mount leaves. -/
def MountL (w0 W : World) (N bw pg po bd be : Nat) (Sd Se : Nat → Prop) (d' : Dsk) (r' : RDsk) (row : Array Value) (rt : TypeId) (prow : Array Value) (pt : TypeId) (W' : World) : Prop :=
  ∃ ba bb m' Sd' Se' Sa', Duo w0 W' N pg po bd be m' Sd' Se' d' r' ∧ Arcs W' pg po ba bb bd Sa' (· = bb) (.slice none 0 0) [] ∧ (∀ g, g < W.heap.size → (Sd' g ↔ Sd g) ∧ (Se' g ↔ Se g) ∧ ¬ Sa' g ∧ g ≠ bb) ∧ (∀ g, Sa' g → ¬ Sd' g ∧ ¬ Se' g ∧ g ≠ bb ∧ g < W'.heap.size) ∧ ¬ Sd' bb ∧ ¬ Se' bb ∧ Same (fun g => Sd g ∨ Se g ∨ g = bw ∨ g = pg) W W' ∧ W'.heap[bw]? = some (.cells row rt (0, 0)) ∧ W'.heap[pg]? = some (.cells ((prow.setIfInBounds (po + 2) (.pointer (some ⟨ba, 0, none⟩))).setIfInBounds (po + 3) (.pointer (some ⟨bb, 0, none⟩))) pt (0, 0))
set_option maxRecDepth 100000 in
set_option maxHeartbeats 2000000 in
theorem lmount_yes (w0 W : World) (a : Nat → Addr) (S0 : Sent w0 a) (N bw bm pg po bd be m n : Nat) (Sd Se : Nat → Prop) (d : Dsk) (r : RDsk) (left : Int) (row : Array Value) (rt : TypeId) (prow : Array Value) (pt : TypeId) (H : Duo w0 W N pg po bd be m Sd Se d r) (hN : N ≤ 700000)
    (hb : W.heap[bw]? = some (.cells row rt (0, 0))) (hrow : row[5]? = some (.int .i64 left)) (hrow0 : row[0]? = some (.pointer (some ⟨bm, 0, none⟩))) (hlo : -1000000 ≤ left) (hhi : left ≤ 1000000) (hbw : w0.heap.size ≤ bw ∧ ¬ Sd bw ∧ ¬ Se bw ∧ bw ≠ pg)
    (hp : W.heap[pg]? = some (.cells prow pt (0, 0))) (hp2 : ∃ v, prow[po + 2]? = some v) (hp3 : ∃ v, prow[po + 3]? = some v) (hpl : w0.heap.size ≤ pg) (hn : d.safe.length = n) (h4 : 4 ≤ n) (hx : d.at 0 (by omega) = headS n) (hz : d.at 1 (by omega) = z64) (h0 : (wipeD (n - 1) 1 d).2 = 0) (hx' : r.seen[0]? = some (headS n)) (hz' : r.seen[1]? = some z64) :
    Calls Tryz.prog 73 #[.pointer (some ⟨bw, 0, none⟩), .pointer (some ⟨pg, po, none⟩)] W fun e W' => e = .returned (.bool true) ∧ MountL w0 W (N + n) bw pg po bd be Sd Se (wipeD (n - 1) 1 d).1 (wipeR (n - 1) 1 r).1 (row.setIfInBounds 5 (.int .i64 (left - n))) rt prow pt W' := by
  have c1 : W.cell? ⟨pg, po + 1, none⟩ = some (.pointer (some ⟨be, 0, none⟩)) := H.p1
  have l1 : W.cell? ⟨bw, 5, none⟩ = some (.int .i64 left) := by rw [cell_of_row _ _ _ _ _ _ hb]; exact hrow
  have f1 := frozen_of_row W bw 5 _ _ hb
  obtain ⟨gn, cn, t1, -⟩ := H.tell
  have hsz := H.rel.size
  have hre : r.seen.length = d.safe.length := H.rel.seenLen
  have hrs : r.safe.length = d.safe.length := by rw [H.rel.safe]
  have hwl := H.wl
  have hml := H.ml
  have hrw := H.wlr
  have hRel := H.rel.wipe (n - 1) 1
  rw [hn] at hsz hre hrs t1
  have hr0 : (wipeR (n - 1) 1 r).2 = 0 := by rw [hRel.2]; exact h0
  have HM : Hid (∀ V, Duo w0 V N pg po bd be m Sd Se d r → Calls Tryz.prog 26 #[.pointer (some ⟨bd, 0, none⟩)] V fun e w' => ∃ ba, V.heap.size ≤ ba ∧ ∃ N, ba < N ∧ N ≤ w'.heap.size ∧ e = .returned (.tuple #[.pointer (some ⟨ba, 0, none⟩), .int .i64 0]) ∧ (∃ m', m' ≤ m + n ∧ DskAt w' (up Sd N) bd m' (wipeD (n - 1) 1 d).1) ∧ ArcP w' (fun g => V.heap.size ≤ g ∧ g < N) ba bd [] ∧ Same Sd V w') := fun V hV =>
    plain_mount w0 a S0 bd m n Sd d V hV.dsk hV.base (fun g h => hV.lo g (.inl h)) h4 hsz.2 hn hx hz h0 hV.rel.most (by omega) (by omega) (fun g h => hV.hi g (.inl h))
  have HQ : Hid (∀ V, RefAt V Se be r → (∀ g, Se g → g < V.heap.size) → Calls Tryz.prog 120 #[.pointer (some ⟨bm, 0, none⟩), .pointer (some ⟨be, 0, none⟩)] V fun e w' => ∃ ba, V.heap.size ≤ ba ∧ e = .returned (.tuple #[.pointer (some ⟨ba, 0, none⟩), .int .i64 0]) ∧ w'.heap[ba]? = some (.cells (arcR bm be (headC n) (.slice none 0 0)) 218 (0, 0)) ∧ RefAt w' (up Se (ba + 1)) be (wipeR (n - 1) 1 r).1 ∧ Same Se V w') := fun V hV hl =>
    ref_mount bm be n Se r V hV h4 hsz.2 hre hrs (by omega) hx' hz' hr0 hl
  have hwrap : IntKind.i64.wrap (left - (n : Int)) = left - n := by rw [IntKind.wrap_i64]; omega
  have nb1 : bw ≠ pg := hbw.2.2.2
  have nb2 : bw ≠ be := by
    rintro rfl
    obtain ⟨_, _, _, hv⟩ := H.ref
    exact hbw.2.2.1 hv.sb
  have HH2 : Hid (∀ V, V = (W.drew.setCell ⟨bw, 5, none⟩ (.int .i64 (left - n))) → Duo w0 V N pg po bd be m Sd Se d r ∧ Same (fun g => g = bw) W V ∧ V.heap[bw]? = some (.cells (row.setIfInBounds 5 (.int .i64 (left - n))) rt (0, 0)) ∧ V.heap[pg]? = some (.cells prow pt (0, 0))) := by
    rintro V rfl
    have hs : Same (· = bw) W.drew (W.drew.setCell ⟨bw, 5, none⟩ (.int .i64 (left - n))) := Same.setCell (S := (· = bw)) (Same.refl _ _) ⟨bw, 5, none⟩ rfl _
    refine ⟨H.drew.on hs (by rintro g rfl; exact hbw.1) (by rintro g (hg | hg) rfl; exact hbw.2.1 hg; exact hbw.2.2.1 hg) (fun h => nb1 h.symm), ?_, ?_, ?_⟩
    · exact ((Same.refl (· = bw) W).drew).trans hs
    · exact heap_setCell_same W.drew bw 5 _ _ _ hb
    · rw [hs.block pg (lt_of_heap' hp) (fun h => nb1 h.symm)]; exact hp
  have HNP : Hid (¬ Sd pg ∧ ¬ Se pg ∧ ¬ Sd bw ∧ ¬ Se bw ∧ bw ≠ pg ∧ w0.heap.size ≤ pg ∧ w0.heap.size ≤ bw) := ⟨H.np.1, H.np.2, hbw.2.1, hbw.2.2.1, nb1, hpl, hbw.1⟩
  have HR0 : Hid ((row.setIfInBounds 5 (.int .i64 (left - n)))[0]? = some (.pointer (some ⟨bm, 0, none⟩))) := by
    show _ = _
    rw [Array.getElem?_setIfInBounds_ne (by decide)]
    exact hrow0
  have HP : Hid ((∃ v, prow[po + 2]? = some v) ∧ ∃ v, prow[po + 3]? = some v) := ⟨hp2, hp3⟩
  have HRL : Hid (Rel (wipeD (n - 1) 1 d).1 (wipeR (n - 1) 1 r).1 ∧ (wipeD (n - 1) 1 d).1.wait.length ≤ N + n ∧ m ≤ N) := ⟨hRel.1, by have := (wipeD_len (n - 1) 1 d).2; omega, hml⟩
  clear H hb hrow hrow0 hbw S0 hn hre hp hp2 hp3 hpl hrs hwl hml hrw hRel hr0 hx hz h0 hx' hz'
  go_enter Tryz.func73, Tryz.ntmps73
  go_wp2
  have HH3 := HH2.out ((W.setCell ⟨bw, 5, none⟩ (.int .i64 (left - n))).drew) rfl
  obtain ⟨W2, hW2⟩ : ∃ W2, W2 = (W.setCell ⟨bw, 5, none⟩ (.int .i64 (left - n))).drew := ⟨_, rfl⟩
  rw [← hW2] at HH3
  have HD2 : Hid (Duo w0 W2 N pg po bd be m Sd Se d r) := HH3.1
  have HS2 : Hid (Same (fun g => g = bw) W W2 ∧ W2.heap[bw]? = some (.cells (row.setIfInBounds 5 (.int .i64 (left - n))) rt (0, 0)) ∧ W2.heap[pg]? = some (.cells prow pt (0, 0))) := HH3.2
  clear HH2 HH3
  go_region
  rw [← hW2]
  clear hW2 c1 l1 f1 t1 nb2 hwrap hlo hhi
  have c0 := HD2.out.p0
  have HM2 := HM.out W2 HD2.out
  go_wp2_with fail
  refine HM2.mono ?_
  rintro e W3 ⟨ba, hba, N1, hN1, hNl, rfl, D3, A3, S3⟩
  obtain ⟨hp0, hp1, hr3, hb3⟩ := HD2.out.turnD S3
  have g3 : W3.heap[pg]? = some (.cells prow pt (0, 0)) := by rw [S3.block pg (lt_of_heap' HS2.out.2.2) HNP.out.1]; exact HS2.out.2.2
  have g4 : W3.heap[bw]? = some (.cells (row.setIfInBounds 5 (.int .i64 (left - n))) rt (0, 0)) := by rw [S3.block bw (lt_of_heap' HS2.out.2.1) HNP.out.2.2.1]; exact HS2.out.2.1
  have m0 : W3.cell? ⟨bw, 0, none⟩ = some (.pointer (some ⟨bm, 0, none⟩)) := by rw [cell_of_row _ _ _ _ _ _ g4]; exact HR0.out
  have HK3 : Hid (W3.heap[pg]? = some (.cells prow pt (0, 0)) ∧ W3.heap[bw]? = some (.cells (row.setIfInBounds 5 (.int .i64 (left - n))) rt (0, 0)) ∧ (∃ m', m' ≤ m + n ∧ DskAt W3 (up Sd N1) bd m' (wipeD (n - 1) 1 d).1) ∧ ArcP W3 (fun g => W2.heap.size ≤ g ∧ g < N1) ba bd [] ∧ Same Sd W2 W3 ∧ Below w0.heap.size w0 W3) := ⟨g3, g4, D3, A3, S3, hb3⟩
  have hSe3 : ∀ g, Se g → g < W3.drew.heap.size := fun g hg => Nat.lt_of_lt_of_le (HD2.out.hi g (.inr hg)) S3.size
  have HQ3 := HQ.out W3.drew (hr3.on (Same.refl (fun _ => False) W3).drew (fun _ _ h => h)) hSe3
  have HQQ : Hid (Calls Tryz.prog 120 #[.pointer (some ⟨bm, 0, none⟩), .pointer (some ⟨be, 0, none⟩)] W3.drew fun e w' => ∃ bb, e = .returned (.tuple #[.pointer (some ⟨bb, 0, none⟩), .int .i64 0]) ∧ Hid (W3.heap.size ≤ bb ∧ w'.heap[bb]? = some (.cells (arcR bm be (headC n) (.slice none 0 0)) 218 (0, 0)) ∧ RefAt w' (up Se (bb + 1)) be (wipeR (n - 1) 1 r).1 ∧ Same Se W3 w')) := by
    refine Calls.mono HQ3 ?_
    rintro e w' ⟨bb, h1, rfl, h2, h3, h4⟩
    exact ⟨bb, rfl, h1, h2, h3, ⟨h4.os, h4.tape, h4.output, h4.size, h4.block⟩⟩
  have HC3 : Hid (∀ V, Same Se W3 V → V.cell? ⟨bw, 0, none⟩ = some (.pointer (some ⟨bm, 0, none⟩)) ∧ V.cell? ⟨pg, po + 1, none⟩ = some (.pointer (some ⟨be, 0, none⟩))) := fun V hs => ⟨hs.cell HNP.out.2.2.2.1 m0, hs.cell HNP.out.2.1 hp1⟩
  have HBN : Hid (W2.heap.size ≤ ba ∧ ba < N1 ∧ N1 ≤ W3.heap.size) := ⟨hba, hN1, hNl⟩
  clear D3 A3 S3 HM HM2 hr3 hb3 hp0 c0 g3 g4 HQ HQ3 hSe3 hba hN1 hNl
  go_wp2
  go_region_held3 (fun w' => w'.cell? ⟨bw, 0, none⟩ = some (.pointer (some ⟨bm, 0, none⟩)) ∧ w'.cell? ⟨pg, po + 1, none⟩ = some (.pointer (some ⟨be, 0, none⟩))) ((constructor <;> first | assumption | (rw [World.cell?_drew]; assumption))) (first | (go_at_call 120; refine HQQ.out.mono ?_; rintro e W4 ⟨bb, rfl, HB4⟩; have c04 : W4.cell? ⟨bw, 0, none⟩ = some (.pointer (some ⟨bm, 0, none⟩)) := (HC3.out W4 HB4.out.2.2.2).1; have c14 : W4.cell? ⟨pg, po + 1, none⟩ = some (.pointer (some ⟨be, 0, none⟩)) := (HC3.out W4 HB4.out.2.2.2).2))
  have k4 : W4.heap[pg]? = some (.cells prow pt (0, 0)) := by rw [HB4.out.2.2.2.block pg (lt_of_heap' HK3.out.1) HNP.out.2.1]; exact HK3.out.1
  obtain ⟨⟨v2, hv2⟩, v3, hv3⟩ := HP.out
  have q2 : W4.cell? ⟨pg, po + 2, none⟩ = some v2 := by rw [cell_of_row _ _ _ _ _ _ k4]; exact hv2
  have q3 : W4.cell? ⟨pg, po + 3, none⟩ = some v3 := by rw [cell_of_row _ _ _ _ _ _ k4]; exact hv3
  have z2 := frozen_of_row W4 pg (po + 2) _ _ k4
  have z3 := frozen_of_row W4 pg (po + 3) _ _ k4
  have HK4 : Hid (W4.heap[pg]? = some (.cells prow pt (0, 0))) := k4
  have HPP : Hid (prow[po + 2]? = some v2 ∧ prow[po + 3]? = some v3) := ⟨hv2, hv3⟩
  clear HQQ HC3 c04 c14 m0 hp1 k4 hv2 hv3 HP
  go_wp2
  go_ret
  refine ⟨rfl, ?_⟩
  obtain ⟨g3, g4, ⟨m', hm', D3⟩, A3, S3, hb3⟩ := HK3.out
  obtain ⟨hbb, hrw, R4, S4⟩ := HB4.out
  obtain ⟨nd, ne, nd', ne', nbp, lpg, lbw⟩ := HNP.out
  obtain ⟨n1, n2, n3⟩ := HBN.out
  have D := HD2.out
  have s2 := HS2.out.1
  have z2' := s2.size
  have z3' := S3.size
  have z4' := S4.size
  have hpgl := lt_of_heap' HS2.out.2.2
  have hb0 := D.base.size
  obtain ⟨W5, hW5⟩ : ∃ W5, W5 = (W4.setCell ⟨pg, po + 2, none⟩ (.pointer (some ⟨ba, 0, none⟩))).setCell ⟨pg, po + 3, none⟩ (.pointer (some ⟨bb, 0, none⟩)) := ⟨_, rfl⟩
  have hs5 : Same (· = pg) W4 W5 := by rw [hW5]; exact ((Same.refl (· = pg) W4).setCell ⟨pg, po + 2, none⟩ rfl _).setCell ⟨pg, po + 3, none⟩ rfl _
  have z5' := hs5.size
  have kp : W5.heap[pg]? = some (.cells ((prow.setIfInBounds (po + 2) (.pointer (some ⟨ba, 0, none⟩))).setIfInBounds (po + 3) (.pointer (some ⟨bb, 0, none⟩))) pt (0, 0)) := by
    rw [hW5]
    exact heap_setCell_same _ pg (po + 3) _ _ _ (heap_setCell_same _ pg (po + 2) _ _ _ HK4.out)
  rw [← hW5]
  have pc : ∀ (k : Nat) (v : Value), k ≠ po + 2 → k ≠ po + 3 → W4.cell? ⟨pg, k, none⟩ = some v → W5.cell? ⟨pg, k, none⟩ = some v := fun k v h2 h3 h => by
    rw [cell_of_row _ _ _ _ _ _ kp, Array.getElem?_setIfInBounds_ne (by omega), Array.getElem?_setIfInBounds_ne (by omega)]
    rw [cell_of_row _ _ _ _ _ _ HK4.out] at h
    exact h
  have l2 : po + 2 < prow.size := (Array.getElem?_eq_some_iff.1 HPP.out.1).1
  have l3 : po + 3 < prow.size := (Array.getElem?_eq_some_iff.1 HPP.out.2).1
  have p2' : W5.cell? ⟨pg, po + 2, none⟩ = some (.pointer (some ⟨ba, 0, none⟩)) := by
    rw [cell_of_row _ _ _ _ _ _ kp, Array.getElem?_setIfInBounds_ne (by omega), Array.getElem?_setIfInBounds_self_of_lt l2]
  have p3' : W5.cell? ⟨pg, po + 3, none⟩ = some (.pointer (some ⟨bb, 0, none⟩)) := by
    rw [cell_of_row _ _ _ _ _ _ kp, Array.getElem?_setIfInBounds_self_of_lt (by rw [Array.size_setIfInBounds]; exact l3)]
  have hSdSe : ∀ g, up Sd N1 g → ¬ Se g := fun g hg he => by
    rcases hg with hg | hg
    · exact D.dj g hg he
    · have := D.hi g (.inr he); omega
  refine ⟨ba, bb, m', fun g => up Sd N1 g ∧ g < W3.heap.size, fun g => up Se (bb + 1) g ∧ g < W4.heap.size, fun g => W2.heap.size ≤ g ∧ g < N1, ?_, ?_, ?_, ?_, ?_, ?_, ?_, ?_, kp⟩
  · refine ⟨pc po _ (by omega) (by omega) (S4.cell ne (S3.cell nd D.p0)), pc (po + 1) _ (by omega) (by omega) (S4.cell ne (S3.cell nd D.p1)), (D3.tight.on S4 (fun g hg => hSdSe g hg.1)).on hs5 ?_, R4.tight.on hs5 ?_, HRL.out.1, ?_, ⟨?_, ?_⟩, ?_, ?_, ?_, HRL.out.2.1, by have := HRL.out.2.2; omega⟩
    · rintro g ⟨hg | hg, -⟩ rfl
      · exact nd hg
      · omega
    · rintro g ⟨hg | hg, -⟩ rfl
      · exact ne hg
      · omega
    · rintro g ⟨hg, hl⟩ ⟨he | he, -⟩
      · exact hSdSe g hg he
      · omega
    · rintro ⟨hg | hg, -⟩
      · exact nd hg
      · omega
    · rintro ⟨hg | hg, -⟩
      · exact ne hg
      · omega
    · have h1 := hb3.trans (S4.below (fun g hg => D.lo g (.inr hg)) hb3.size)
      exact h1.trans (hs5.below (fun g hg => by rw [hg]; exact lpg) h1.size)
    · rintro g (⟨hg | hg, -⟩ | ⟨hg | hg, -⟩)
      · exact D.lo g (.inl hg)
      · omega
      · exact D.lo g (.inr hg)
      · omega
    · rintro g (⟨-, hg⟩ | ⟨-, hg⟩) <;> omega
  · have hrl := lt_of_heap' hrw
    refine ⟨p2', p3', (A3.on S4 ?_).on hs5 ?_, WFT.nil, ⟨bm, be, _, by rw [hs5.block bb hrl (by omega)]; exact hrw⟩, rfl, ⟨⟨rfl, .inl ⟨rfl, rfl⟩⟩, fun g hg => by cases hg⟩⟩
    · rintro g ⟨hg, -⟩ he
      have := D.hi g (.inr he)
      omega
    · rintro g ⟨hg, -⟩ rfl
      omega
  · intro g hg
    refine ⟨⟨?_, fun h => ⟨.inl h, by omega⟩⟩, ⟨?_, fun h => ⟨.inl h, by omega⟩⟩, by omega, by omega⟩
    · rintro ⟨h | h, -⟩
      · exact h
      · omega
    · rintro ⟨h | h, -⟩
      · exact h
      · omega
  · rintro g ⟨h1, h2⟩
    refine ⟨?_, ?_, by omega, by omega⟩
    · rintro ⟨h | h, -⟩
      · have := D.hi g (.inl h); omega
      · omega
    · rintro ⟨h | h, -⟩
      · have := D.hi g (.inr h); omega
      · omega
  · rintro ⟨-, h⟩
    omega
  · rintro ⟨h | h, -⟩
    · have := D.hi bb (.inr h); omega
    · omega
  · exact (((s2.weak (fun _ h => .inr (.inr (.inl h)))).trans (S3.weak (fun _ h => .inl h))).trans (S4.weak (fun _ h => .inr (.inl h)))).trans (hs5.weak (fun _ h => .inr (.inr (.inr h))))
  · rw [hs5.block bw (by have := lt_of_heap' g4; omega) nbp, S4.block bw (lt_of_heap' g4) ne']
    exact g4
end Go.Proofs.YtapijhhmjjplmaaGreatDoor
namespace Go.Proofs.YtapijhhmjjplmaaGreatDoor
open Go.RowKit
/-- What is asked of a law's steps, by their number: Inv 0 holds at the start, and every step that is made answers true and leads from Inv i to Inv (i + 1). -/
structure StepsN (w : World) (made : Int) (l : List Stp) (Inv : Nat → World → Prop) (D : Stp → Bool) : Prop where
  below : ∀ i W, Inv i W → Below w.heap.size w W
  left : ∀ i W, Inv i W → ∃ n : Int, W.cell? ⟨w.heap.size, 5, none⟩ = some (.int .i64 n)
  mono : ∀ i W W', Inv i W → Below W.heap.size W W' → Inv i W'
  succ : ∀ i W, Inv i W → Inv (i + 1) W
  init : ∀ w1 b kv hv, Made (w.alloc (.cells freshW 73)) w1 b kv hv → Inv 0 (w1.setCell ⟨w.heap.size, 0, none⟩ (.pointer (some ⟨b, 0, none⟩)))
  does : ∀ x ∈ l, 1 ≤ x.kind → x.kind ≤ 22 → ∀ W, Calls Tryz.prog 40 #[stpV x, .int .i64 made] W fun e W' => e = .returned (.bool (D x)) ∧ Below W.heap.size W W'
  step : ∀ i x, i < l.length → x ∈ l → 1 ≤ x.kind → x.kind ≤ 22 → D x = true → ∀ W, Inv i W → (∃ n : Int, 0 < n ∧ W.cell? ⟨w.heap.size, 5, none⟩ = some (.int .i64 n)) → inR x.a → inR x.d → Calls Tryz.prog 41 #[.pointer (some ⟨w.heap.size, 0, none⟩), stpV x] W fun e W' => e = .returned (.bool true) ∧ Inv (i + 1) W'
  looks : ∀ i W, Inv i W → Calls Tryz.prog 42 #[.pointer (some ⟨w.heap.size, 0, none⟩)] W fun e W' => e = .returned (.bool true) ∧ Inv i W'
set_option maxRecDepth 100000 in
set_option maxHeartbeats 2000000 in
theorem upto_ofN (made held : Int) (lists : Bool) (v : Value) (l : List Stp) (w : World) (Inv : Nat → World → Prop) (D : Stp → Bool) (hs : Scr w v l) (hl : l.length ≤ 262144) (St : StepsN w made l Inv D) :
    Calls Tryz.prog 23 #[v, .int .i64 made, .int .i64 held, .bool lists] w fun e w' => UptoPost w e w' := by
  rcases hs with ⟨ao, cap, rfl, rfl⟩ | ⟨bl, off, cap, rfl, hpos, hlen, hcell⟩
  · go_enter Tryz.func23, Tryz.ntmps23
    go_wp2_with fail
    refine (maker_any _).mono ?_
    rintro e w1 ⟨b, kv, hv, rfl, h1, h2, h3, h4, h5, h6, h7, h8⟩
    have HI : Hid (Inv 0 (w1.setCell ⟨w.heap.size, 0, none⟩ (.pointer (some ⟨b, 0, none⟩)))) := St.init w1 b kv hv ⟨h1, h2, h3, h4, h5, h6, h7, h8⟩
    have c0 : w1.cell? ⟨w.heap.size, 0, none⟩ = some (.pointer none) := by
      rw [h8.cell (by simp)]; simp
    have f0 : w1.frozen? ⟨w.heap.size, 0, none⟩ = false := by
      rw [h8.frozen (by simp)]; simp
    clear h1 h2 h3 h4 h5 h6 h7 h8
    go_wp2
    go_loop [10] (fun i => i = .int .i64 0) (fun _ => 0)
    case atStart => rfl
    case round =>
      obtain rfl := hrel
      go_wp2
      go_ret
      exact ⟨rfl, St.below _ _ HI.out⟩
  · obtain ⟨n, hn⟩ : ∃ n, n = l.length := ⟨_, rfl⟩
    have HN : Hid (n = l.length) := hn
    have HC : Hid (∀ i (h : i < l.length), StpAt w bl (off + i * 6) l[i]) := hcell
    have hbi : (n : Int) ≤ 262144 := by omega
    have hbl : bl < w.heap.size := by
      have h0 := (hcell 0 hpos).c0
      rcases Nat.lt_or_ge bl w.heap.size with h' | h'
      · exact h'
      · simp [World.cell?, Array.getElem?_eq_none h'] at h0
    rw [← hn]
    clear hn hcell hlen hpos hl
    go_enter Tryz.func23, Tryz.ntmps23
    go_wp2_with fail
    refine (maker_any _).mono ?_
    rintro e w1 ⟨b, kv, hv, rfl, h1, h2, h3, h4, h5, h6, h7, h8⟩
    have HI : Hid (Inv 0 (w1.setCell ⟨w.heap.size, 0, none⟩ (.pointer (some ⟨b, 0, none⟩)))) := St.init w1 b kv hv ⟨h1, h2, h3, h4, h5, h6, h7, h8⟩
    have c0 : w1.cell? ⟨w.heap.size, 0, none⟩ = some (.pointer none) := by
      rw [h8.cell (by simp)]; simp
    have f0 : w1.frozen? ⟨w.heap.size, 0, none⟩ = false := by
      rw [h8.frozen (by simp)]; simp
    clear h1 h2 h3 h4 h5 h6 h7 h8
    go_wp2
    clear c0 f0
    go_loopw [10] (fun iv_ wr => ∃ i : Nat, i ≤ n ∧ iv_ = .int .i64 i ∧ Hid (Inv i wr)) (fun i _ => n - (intOf i).toNat)
    case atStart => exact ⟨0, by omega, rfl, HI⟩
    case round =>
      clear HI
      obtain ⟨i, hi, rfl, HI⟩ := hrel
      obtain ⟨left, hleft⟩ := St.left _ _ HI.out
      by_cases hlt : i < n
      · have hil : i < l.length := by have := HN.out; omega
        obtain ⟨x, hx⟩ : ∃ x, x = l[i] := ⟨_, rfl⟩
        have hs0 := HC.out i hil
        have hmem : l[i] ∈ l := List.getElem_mem _
        rw [← hx] at hs0 hmem
        have HS : Hid (StpAt w bl (off + i * 6) x) := hs0
        have hat := hs0.on (St.below _ _ HI.out) hbl
        clear hx hs0
        by_cases hl0 : 0 < left
        · have c0 := hat.c0
          have c1 := hat.c1
          have c2 := hat.c2
          have c3 := hat.c3
          have c4 := hat.c4
          have c5 := hat.c5
          have HM : Hid (x ∈ l) := hmem
          clear hat hmem
          by_cases hk1 : x.kind < 1
          · go_wp2
            go_roundw
            case rel => exact ⟨i + 1, by omega, by go_num, St.succ _ _ HI.out⟩
            case measure => (simp [intOf]; try omega)
          · by_cases hk2 : 22 < x.kind
            · go_wp2
              go_roundw
              case rel => exact ⟨i + 1, by omega, by go_num, St.succ _ _ HI.out⟩
              case measure => (simp [intOf]; try omega)
            · go_wp2_with fail
              refine (St.does x HM.out (by omega) (by omega) _).mono ?_
              rintro e w2 ⟨rfl, hw2⟩
              have HI2 : Hid (Inv i w2) := St.mono _ _ _ HI.out hw2
              have HLF : Hid (∃ n : Int, 0 < n ∧ w2.cell? ⟨w.heap.size, 5, none⟩ = some (.int .i64 n)) := ⟨left, hl0, by rw [hw2.cell (block_lt_of_cell hleft)]; exact hleft⟩
              clear hw2 HI c0 c1 c2 c3 c4 c5 hleft
              cases hd : D x
              · clear hd
                go_wp2
                go_roundw
                case rel => exact ⟨i + 1, by omega, by go_num, St.succ _ _ HI2.out⟩
                case measure => (simp [intOf]; try omega)
              · have HD : Hid (D x = true) := hd
                have hat := HS.out.on (St.below _ _ HI2.out) hbl
                have c0 := hat.c0
                have c1 := hat.c1
                have c2 := hat.c2
                have c3 := hat.c3
                have c4 := hat.c4
                have c5 := hat.c5
                clear hd hat
                go_wp2_with fail
                refine (St.step i x (by have := HN.out; omega) HM.out (by omega) (by omega) HD.out _ HI2.out HLF.out HS.out.ra HS.out.rd).mono ?_
                rintro e w3 ⟨rfl, hw3⟩
                have HI3 : Hid (Inv (i + 1) w3) := hw3
                clear hw3 HI2 c0 c1 c2 c3 c4 c5
                go_wp2_with fail
                refine (St.looks _ _ HI3.out).mono ?_
                rintro e w4 ⟨rfl, hw4⟩
                have HI4 : Hid (Inv (i + 1) w4) := hw4
                clear hw4 HI3
                go_wp2
                go_roundw
                case rel => exact ⟨i + 1, by omega, by go_num, HI4⟩
                case measure => (simp [intOf]; try omega)
        · clear hat hmem
          go_wp2
          go_ret
          exact ⟨rfl, St.below _ _ HI.out⟩
      · go_wp2
        go_ret
        exact ⟨rfl, St.below _ _ HI.out⟩
/-- 'plays', where the steps stand in whatever world 'small' leaves. -/
theorem plays_ofN (made held : Int) (lists : Bool) (v : Value) (l : List Stp) (w : World) (hs : Scr w v l)
    (St : ∀ w1, Below w.heap.size w w1 → l.length + bulk l ≤ 262144 → ∃ Inv D, StepsN w1 made l Inv D) :
    Calls Tryz.prog 13 #[v, .int .i64 made, .int .i64 held, .bool lists] w fun e w' => PlaysPost w e w' := by
  have hv : ∃ ao n cap, v = .slice ao n cap := by
    rcases hs with ⟨ao, cap, rfl, _⟩ | ⟨bl, off, cap, rfl, _⟩
    · exact ⟨_, _, _, rfl⟩
    · exact ⟨_, _, _, rfl⟩
  obtain ⟨ao, n, cap, rfl⟩ := hv
  have HS : Hid (Scr w (.slice ao n cap) l) := hs
  have HST : Hid (∀ w1, Below w.heap.size w w1 → l.length + bulk l ≤ 262144 → ∃ Inv D, StepsN w1 made l Inv D) := St
  clear hs St
  go_enter Tryz.func13, Tryz.ntmps13
  go_wp2_with fail
  refine (small_any _ l _ HS.out).mono ?_
  rintro e w1 ⟨r, rfl, hr, hb⟩
  have HB : Hid (Below w.heap.size w w1) := hb
  cases r
  · clear hr hb
    go_wp2
    go_ret
    exact ⟨rfl, HB.out⟩
  · have HR : Hid (l.length + bulk l ≤ 262144) := hr rfl
    clear hr hb
    go_wp2_with fail
    obtain ⟨Inv, D, S⟩ := HST.out w1 HB.out HR.out
    refine (upto_ofN made held lists _ l w1 Inv D (Scr.on HS.out HB.out) (by have := HR.out; omega) S).mono ?_
    rintro e w2 ⟨rfl, hb2⟩
    have HB2 : Hid (Below w.heap.size w w2) := HB.out.trans (hb2.mono HB.out.size)
    clear hb2 S
    go_wp2
    go_ret
    exact ⟨rfl, HB2.out⟩
end Go.Proofs.YtapijhhmjjplmaaGreatDoor
namespace Go.Proofs.YtapijhhmjjplmaaGreatDoor
open Go.RowKit Go.Maps
theorem tmod_nat (q n : Nat) (hn : 0 < n) : ∃ k : Nat, k < n ∧ (q : Int).tmod n = k := ⟨q % n, Nat.mod_lt _ hn, by rw [Int.tmod_eq_emod_of_nonneg (by omega)]; rfl⟩
theorem pick_any (c : Int) (n : Nat) (w : World) (hc : inR c) (hn : 0 < n) (hb : n ≤ 1000000) :
    Calls Tryz.prog 71 #[.int .i64 c, .int .i64 (n : Int)] w fun e w' => (∃ k : Nat, k < n ∧ e = .returned (.int .i64 (k : Int))) ∧ w = w' := by
  obtain ⟨h1, h2⟩ := hc
  have hz : ((n : Int) == 0) = false := by simp; omega
  by_cases h0 : c < 0
  · have hw1 : IntKind.i64.wrap (c + 1) = c + 1 := by rw [IntKind.wrap_i64]; omega
    obtain ⟨q, hq⟩ : ∃ q : Nat, -(c + 1) = (q : Int) := ⟨(-(c + 1)).toNat, by omega⟩
    have hqb : (q : Int) ≤ 9223372036854775807 := by omega
    obtain ⟨k, hkn, hk⟩ := tmod_nat q n hn
    have hw2 : IntKind.i64.wrap (k : Int) = k := by rw [IntKind.wrap_i64]; omega
    go_enter Tryz.func71, Tryz.ntmps71
    go_wp2
    go_ret
    exact ⟨⟨k, hkn, rfl⟩, rfl⟩
  · obtain ⟨q, rfl⟩ : ∃ q : Nat, c = (q : Int) := ⟨c.toNat, by omega⟩
    obtain ⟨k, hkn, hk⟩ := tmod_nat q n hn
    have hw2 : IntKind.i64.wrap (k : Int) = k := by rw [IntKind.wrap_i64]; omega
    go_enter Tryz.func71, Tryz.ntmps71
    go_wp2
    go_ret
    exact ⟨⟨k, hkn, rfl⟩, rfl⟩
def dRow (b : Nat) (kv av : Value) (left : Int) : Array Value := #[.pointer (some ⟨b, 0, none⟩), kv, av, .slice none 0 0, .int .i64 0, .int .i64 left]
/-- The blocks of an owner. -/
def ownQ (w W : World) (o : Nat → Nat) (q : Nat) : Nat → Prop := fun g => o g = q ∧ w.heap.size < g ∧ g < W.heap.size
end Go.Proofs.YtapijhhmjjplmaaGreatDoor
namespace Go.Proofs.YtapijhhmjjplmaaGreatDoor
open Go.RowKit Go.Maps
theorem ArcP.tight {w : World} {S : Nat → Prop} {ba bd : Nat} {T : Tre} (h : ArcP w S ba bd T) : ArcP w (fun g => S g ∧ g < w.heap.size) ba bd T := by
  obtain ⟨R, rb, nb, mb, h⟩ := h
  have t := h.tree
  refine ⟨R, rb, nb, mb, h.blk, ⟨h.sb, lt_of_heap' h.blk⟩, h.r0, h.r1, h.r2, t.root, fun p hp => ⟨⟨(t.sn p hp).1, lt_of_heap' (t.node p hp)⟩, (t.sn p hp).2⟩, t.node, fun p hp hf => ?_, t.map, t.i1, t.i2, t.i3⟩
  obtain ⟨D, h1, -⟩ := t.map p hp hf
  exact ⟨⟨(t.sm p hp hf).1, ownsMap_lt h1⟩, (t.sm p hp hf).2⟩
theorem TreeR.tight {w : World} {S : Nat → Prop} {tv : Value} {T : Tre} (h : TreeR w S tv T) : TreeR w (fun g => S g ∧ g < w.heap.size) tv T := ⟨h.1, fun g hg => ⟨h.2 g hg, OwnS.lt h hg⟩⟩
/-- The archives over a disk. -/
structure ArcD where
  ba : Nat
  bb : Nat
  tv : Value
  T : Tre
structure PairT where
  bd : Nat
  be : Nat
  m : Nat
  n : Nat
  b : Bool
  r : RDsk
  arc : Option ArcD
def pA : Option ArcD → Value
  | none => .pointer none
  | some x => .pointer (some ⟨x.ba, 0, none⟩)
def pB : Option ArcD → Value
  | none => .pointer none
  | some x => .pointer (some ⟨x.bb, 0, none⟩)
def pairTV (p : PairT) : List Value := [.pointer (some ⟨p.bd, 0, none⟩), .pointer (some ⟨p.be, 0, none⟩), pA p.arc, pB p.arc]
def pairsTV (l : List PairT) : List Value := l.flatMap pairTV
theorem pairsTV_at : ∀ (l : List PairT) (k : Nat) (h : k < l.length) (j : Nat), j < 4 → (pairsTV l)[k * 4 + j]? = (pairTV l[k])[j]?
  | p :: r, 0, _, j, hj => by
    have e : pairsTV (p :: r) = pairTV p ++ pairsTV r := rfl
    rw [e, Nat.zero_mul, Nat.zero_add, List.getElem?_append_left (by show j < 4; exact hj)]
    rfl
  | p :: r, k + 1, h, j, hj => by
    have e : pairsTV (p :: r) = pairTV p ++ pairsTV r := rfl
    rw [e, List.getElem?_append_right (by show 4 ≤ _; omega)]
    have e2 : (k + 1) * 4 + j - (pairTV p).length = k * 4 + j := by show (k + 1) * 4 + j - 4 = _; omega
    rw [e2]
    exact pairsTV_at r k (by simpa using h) j hj
theorem pairsTV_arc : ∀ (l : List PairT) (k : Nat) (h : k < l.length) (p' : PairT), p'.bd = l[k].bd → p'.be = l[k].be → ((pairsTV l).set (k * 4 + 2) (pA p'.arc)).set (k * 4 + 3) (pB p'.arc) = pairsTV (l.set k p')
  | p :: r, 0, _, p', h1, h2 => by
    have e1 : p'.bd = p.bd := h1
    have e2 : p'.be = p.be := h2
    show _ = pairTV p' ++ pairsTV r
    unfold pairTV
    rw [e1, e2]
    rfl
  | p :: r, k + 1, h, p', h1, h2 => by
    have ih := pairsTV_arc r k (by simpa using h) p' h1 h2
    have e2 : (k + 1) * 4 + 2 = k * 4 + 2 + 1 + 1 + 1 + 1 := by omega
    have e3 : (k + 1) * 4 + 3 = k * 4 + 3 + 1 + 1 + 1 + 1 := by omega
    rw [e2, e3]
    show pairTV p ++ ((pairsTV r).set (k * 4 + 2) (pA p'.arc)).set (k * 4 + 3) (pB p'.arc) = pairTV p ++ pairsTV (r.set k p')
    rw [ih]
theorem pairsTV_same (l : List PairT) (k : Nat) (h : k < l.length) (p' : PairT) (e : pairTV p' = pairTV l[k]) : pairsTV (l.set k p') = pairsTV l := by
  unfold pairsTV
  have hm : (l.set k p').map pairTV = l.map pairTV := by
    rw [List.map_set]
    apply List.ext_getElem
    · simp
    · intro n h1 h2
      rw [List.getElem_set]
      split
      · subst k; simp [e]
      · rfl
  rw [List.flatMap_def, List.flatMap_def, hm]
structure ArcIn (W : World) (bd : Nat) (Sa Sb : Nat → Prop) (x : ArcD) : Prop where
  arc : ArcP W Sa x.ba bd x.T
  wf : WFT x.T
  row : ∃ bm be c, W.heap[x.bb]? = some (.cells (arcR bm be c x.tv) 218 (0, 0))
  sb : Sb x.bb
  tree : TreeR W (fun g => Sb g ∧ g ≠ x.bb) x.tv x.T
theorem ArcIn.on {W W' : World} {U : Nat → Prop} {bd : Nat} {Sa Sb : Nat → Prop} {x : ArcD} (h : ArcIn W bd Sa Sb x) (hs : Same U W W') (h1 : ∀ g, Sa g ∨ Sb g → ¬ U g) : ArcIn W' bd Sa Sb x := by
  obtain ⟨bm, be, c, hr⟩ := h.row
  exact ⟨h.arc.on hs (fun g hg => h1 g (.inl hg)), h.wf, ⟨bm, be, c, by rw [hs.block x.bb (lt_of_heap' hr) (h1 x.bb (.inr h.sb))]; exact hr⟩, h.sb, OwnS.on h.tree hs (fun g hg => h1 g (.inr (h.tree.2 g hg).1))⟩
theorem ArcIn.mono {W : World} {bd : Nat} {Sa Sb Sa' Sb' : Nat → Prop} {x : ArcD} (h : ArcIn W bd Sa Sb x) (ha : ∀ g, Sa g → Sa' g) (hb : ∀ g, Sb g → Sb' g) : ArcIn W bd Sa' Sb' x :=
  ⟨h.arc.mono ha, h.wf, h.row, hb _ h.sb, OwnS.mono h.tree (fun g hg => ⟨hb g hg.1, hg.2⟩)⟩
theorem Arcs.inn {W : World} {pg po ba bb bd : Nat} {Sa Sb : Nat → Prop} {tv : Value} {T : Tre} (h : Arcs W pg po ba bb bd Sa Sb tv T) : ArcIn W bd Sa Sb ⟨ba, bb, tv, T⟩ := ⟨h.arc, h.wf, h.row, h.sb, h.tree⟩
structure Tree1 (w W : World) (o : Nat → Nat) (N k : Nat) (p : PairT) : Prop where
  dsk : DskAt W (ownQ w W o (4 * k + 2)) p.bd p.m (d0 p.n p.b)
  ref : RefAt W (ownQ w W o (4 * k + 3)) p.be p.r
  rel : Rel (d0 p.n p.b) p.r
  pos : 0 < p.n
  ml : p.m ≤ N
  arc : ∀ x, p.arc = some x → ArcIn W p.bd (ownQ w W o (4 * k + 4)) (ownQ w W o (4 * k + 5)) x
def most (i : Nat) (left : Int) : Nat := i + (262144 - left).toNat
structure TInvV (w : World) (i : Nat) (W : World) (b : Nat) (av : Value) (l : List PairT) (left : Int) (o : Nat → Nat) : Prop where
  below : Below w.heap.size w W
  row : W.heap[w.heap.size]? = some (.cells (dRow b (.slice none 0 0) av left) 73 (0, 0))
  all : OwnS W (ownQ w W o 1) 152 4 av l.length (pairsTV l)
  al : l.length ≤ i
  each : ∀ k (h : k < l.length), Tree1 w W o (most i left) k l[k]
  lo : -5000 ≤ left
  hi : left ≤ 262144
def TInv (w : World) (i : Nat) (W : World) : Prop := ∃ b av l left o, TInvV w i W b av l left o
theorem TInvV.duo {w W : World} {i b k : Nat} {av : Value} {l : List PairT} {left : Int} {o : Nat → Nat} (h : TInvV w i W b av l left o) (hk : k < l.length) :
    ∃ g cap cur, av = .slice (some ⟨g, 0, none⟩) l.length cap ∧ ownQ w W o 1 g ∧ W.heap[g]? = some (.cells cur 152 (0, 0)) ∧ cur[k * 4 + 2]? = some (pA l[k].arc) ∧ cur[k * 4 + 3]? = some (pB l[k].arc) ∧ Duo w W (most i left) g (k * 4) l[k].bd l[k].be l[k].m (ownQ w W o (4 * k + 2)) (ownQ w W o (4 * k + 3)) (d0 l[k].n l[k].b) l[k].r := by
  obtain ⟨h1, h2 | ⟨g, cap, cur, hv, hB, hh, h3, h4, h5, h6⟩⟩ := h.all.1
  · omega
  have hg : ownQ w W o 1 g := h.all.2 g (by rw [hv]; rfl)
  have hc : ∀ j, j < 4 → cur[k * 4 + j]? = (pairTV l[k])[j]? := fun j hj => by
    rw [← pairsTV_at l k hk j hj, ← Array.getElem?_toList, ← h6, List.getElem?_take_of_lt (by omega)]
  have hD := h.each k hk
  refine ⟨g, cap, cur, hv, hg, hh, hc 2 (by omega), hc 3 (by omega), ?_, ?_, hD.dsk, hD.ref, hD.rel, ?_, ⟨?_, ?_⟩, h.below, ?_, ?_, Nat.zero_le _, hD.ml⟩
  · rw [cell_of_row _ _ _ _ _ _ hh]; exact hc 0 (by omega)
  · rw [cell_of_row _ _ _ _ _ _ hh]; exact hc 1 (by omega)
  · rintro x ⟨hx, -⟩ ⟨hy, -⟩
    omega
  · rintro ⟨hx, -⟩
    have := hg.1
    omega
  · rintro ⟨hx, -⟩
    have := hg.1
    omega
  · rintro x (⟨-, hx, -⟩ | ⟨-, hx, -⟩) <;> omega
  · rintro x (⟨-, -, hx⟩ | ⟨-, -, hx⟩) <;> exact hx
theorem TInvV.arcs {w W : World} {i b k : Nat} {av : Value} {l : List PairT} {left : Int} {o : Nat → Nat} (h : TInvV w i W b av l left o) (hk : k < l.length) {x : ArcD} (hx : l[k].arc = some x) {g cap : Nat} (hv : av = .slice (some ⟨g, 0, none⟩) l.length cap) :
    Arcs W g (k * 4) x.ba x.bb l[k].bd (ownQ w W o (4 * k + 4)) (ownQ w W o (4 * k + 5)) x.tv x.T := by
  obtain ⟨g', cap', cur, hv', hg, hh, h2, h3, -⟩ := h.duo hk
  rw [hv] at hv'
  cases hv'
  rw [hx] at h2 h3
  have A := (h.each k hk).arc x hx
  exact ⟨by rw [cell_of_row _ _ _ _ _ _ hh]; exact h2, by rw [cell_of_row _ _ _ _ _ _ hh]; exact h3, A.arc, A.wf, A.row, A.sb, A.tree⟩
theorem Tree1.mono {w W W' : World} {o : Nat → Nat} {N N' k : Nat} {p : PairT} (h : Tree1 w W o N k p) (hb : Below W.heap.size W W') (hN : N ≤ N') : Tree1 w W' o N' k p := by
  have hs := below_same (fun _ => False) hb
  have up : ∀ q g, ownQ w W o q g → ownQ w W' o q g := fun q g hq => ⟨hq.1, hq.2.1, Nat.lt_of_lt_of_le hq.2.2 hb.size⟩
  exact ⟨(h.dsk.on hs (fun _ _ h => h)).mono (up _), (h.ref.on hs (fun _ _ h => h)).mono (up _), h.rel, h.pos, Nat.le_trans h.ml hN, fun x hx => ((h.arc x hx).on hs (fun _ _ h => h)).mono (up _) (up _)⟩
theorem TInvV.mono {w W W' : World} {i b : Nat} {av : Value} {l : List PairT} {left : Int} {o : Nat → Nat} (h : TInvV w i W b av l left o) (hb : Below W.heap.size W W') : TInvV w i W' b av l left o := by
  have hs := below_same (fun _ => False) hb
  have up : ∀ q g, ownQ w W o q g → ownQ w W' o q g := fun q g hq => ⟨hq.1, hq.2.1, Nat.lt_of_lt_of_le hq.2.2 hb.size⟩
  refine ⟨h.below.trans (hb.mono h.below.size), ?_, (h.all.on hs (fun _ _ h => h)).mono (up _), h.al, fun k hk => (h.each k hk).mono hb (Nat.le_refl _), h.lo, h.hi⟩
  rw [hb.block _ (lt_of_heap' h.row)]
  exact h.row
theorem TInvV.succ {w W : World} {i b : Nat} {av : Value} {l : List PairT} {left : Int} {o : Nat → Nat} (h : TInvV w i W b av l left o) : TInvV w (i + 1) W b av l left o :=
  ⟨h.below, h.row, h.all, Nat.le_succ_of_le h.al, fun k hk => (h.each k hk).mono (Below.refl _ _) (by unfold most; omega), h.lo, h.hi⟩
theorem TInvV.left {w W : World} {i b : Nat} {av : Value} {l : List PairT} {left : Int} {o : Nat → Nat} (h : TInvV w i W b av l left o) : W.cell? ⟨w.heap.size, 5, none⟩ = some (.int .i64 left) := by
  rw [cell_of_row _ _ _ _ _ _ h.row]; rfl
/-- What a step on pair k may touch. -/
def touchT (w W : World) (o : Nat → Nat) (k : Nat) (av : Value) : Nat → Prop := fun g => (4 * k + 2 ≤ o g ∧ o g ≤ 4 * k + 5 ∧ w.heap.size < g ∧ g < W.heap.size) ∨ g = w.heap.size ∨ av.ownBlock = some g
/-- The owners behind a step on pair k. -/
def newT (W : World) (o : Nat → Nat) (k : Nat) (Sd Se Sa Sb : Nat → Prop) [DecidablePred Sd] [DecidablePred Se] [DecidablePred Sa] [DecidablePred Sb] : Nat → Nat := fun g => if g < W.heap.size then o g else if Sd g then 4 * k + 2 else if Se g then 4 * k + 3 else if Sa g then 4 * k + 4 else if Sb g then 4 * k + 5 else 0
theorem newT_old {W : World} {o : Nat → Nat} {k : Nat} {Sd Se Sa Sb : Nat → Prop} [DecidablePred Sd] [DecidablePred Se] [DecidablePred Sa] [DecidablePred Sb] {g : Nat} (h : g < W.heap.size) : newT W o k Sd Se Sa Sb g = o g := by unfold newT; rw [if_pos h]
/-- What a step on pair k leaves of it. -/
structure NewT (w W W' : World) (o : Nat → Nat) (k : Nat) (Sd Se Sa Sb : Nat → Prop) (N : Nat) (p : PairT) : Prop where
  old : ∀ g, g < W.heap.size → (Sd g → o g = 4 * k + 2 ∧ w.heap.size < g) ∧ (Se g → o g = 4 * k + 3 ∧ w.heap.size < g) ∧ (Sa g → o g = 4 * k + 4 ∧ w.heap.size < g) ∧ (Sb g → o g = 4 * k + 5 ∧ w.heap.size < g)
  top : ∀ g, Sd g ∨ Se g ∨ Sa g ∨ Sb g → g < W'.heap.size
  dj : ∀ g, (Sd g → ¬ Se g ∧ ¬ Sa g ∧ ¬ Sb g) ∧ (Se g → ¬ Sa g ∧ ¬ Sb g) ∧ (Sa g → ¬ Sb g)
  dsk : DskAt W' Sd p.bd p.m (d0 p.n p.b)
  ref : RefAt W' Se p.be p.r
  rel : Rel (d0 p.n p.b) p.r
  pos : 0 < p.n
  ml : p.m ≤ N
  arc : ∀ x, p.arc = some x → ArcIn W' p.bd Sa Sb x
/-- Behind a step on pair k, all is held as before. -/
theorem TInvV.turn {w W W' : World} {i b k : Nat} {av : Value} {l : List PairT} {left left' : Int} {o : Nat → Nat} (h : TInvV w i W b av l left o) (hk : k < l.length) (p : PairT) (Sd Se Sa Sb : Nat → Prop) (H : NewT w W W' o k Sd Se Sa Sb (most (i + 1) left') p)
    (hs : Same (touchT w W o k av) W W') (hrow : W'.heap[w.heap.size]? = some (.cells (dRow b (.slice none 0 0) av left') 73 (0, 0))) (hall : W'.ownsRow 0 152 4 av l.length (pairsTV (l.set k p))) (hle : left' ≤ left) (hlo : -5000 ≤ left') : TInv w (i + 1) W' := by
  have hz := hs.size
  have hlt := lt_of_heap' h.row
  have far : ∀ q g, ownQ w W o q g → q < 4 * k + 2 ∨ 4 * k + 5 < q → q ≠ 1 → ¬ touchT w W o k av g := by
    rintro q g ⟨h1, h2, h3⟩ n1 n2 (⟨e1, e2, -⟩ | e | e)
    · omega
    · omega
    · have := (h.all.2 g e).1; omega
  classical
  obtain ⟨o', ho'⟩ : ∃ o', o' = newT W o k Sd Se Sa Sb := ⟨_, rfl⟩
  have up : ∀ q g, ownQ w W o q g → ownQ w W' o' q g := fun q g hq => ⟨by rw [ho', newT_old hq.2.2]; exact hq.1, hq.2.1, by have := hq.2.2; omega⟩
  have upd : ∀ g, Sd g → ownQ w W' o' (4 * k + 2) g := fun g hg => by
    have h2 := H.top g (.inl hg)
    by_cases hl : g < W.heap.size
    · have h3 := ((H.old g hl).1 hg)
      exact ⟨by rw [ho', newT_old hl]; exact h3.1, h3.2, h2⟩
    · exact ⟨by rw [ho']; unfold newT; rw [if_neg hl, if_pos hg], by omega, h2⟩
  have upe : ∀ g, Se g → ownQ w W' o' (4 * k + 3) g := fun g hg => by
    have h2 := H.top g (.inr (.inl hg))
    by_cases hl : g < W.heap.size
    · have h3 := ((H.old g hl).2.1 hg)
      exact ⟨by rw [ho', newT_old hl]; exact h3.1, h3.2, h2⟩
    · exact ⟨by rw [ho']; unfold newT; rw [if_neg hl, if_neg (fun h => ((H.dj g).1 h).1 hg), if_pos hg], by omega, h2⟩
  have upa : ∀ g, Sa g → ownQ w W' o' (4 * k + 4) g := fun g hg => by
    have h2 := H.top g (.inr (.inr (.inl hg)))
    by_cases hl : g < W.heap.size
    · have h3 := ((H.old g hl).2.2.1 hg)
      exact ⟨by rw [ho', newT_old hl]; exact h3.1, h3.2, h2⟩
    · exact ⟨by rw [ho']; unfold newT; rw [if_neg hl, if_neg (fun h => ((H.dj g).1 h).2.1 hg), if_neg (fun h => ((H.dj g).2.1 h).1 hg), if_pos hg], by omega, h2⟩
  have upb : ∀ g, Sb g → ownQ w W' o' (4 * k + 5) g := fun g hg => by
    have h2 := H.top g (.inr (.inr (.inr hg)))
    by_cases hl : g < W.heap.size
    · have h3 := ((H.old g hl).2.2.2 hg)
      exact ⟨by rw [ho', newT_old hl]; exact h3.1, h3.2, h2⟩
    · exact ⟨by rw [ho']; unfold newT; rw [if_neg hl, if_neg (fun h => ((H.dj g).1 h).2.2 hg), if_neg (fun h => ((H.dj g).2.1 h).2 hg), if_neg (fun h => (H.dj g).2.2 h hg), if_pos hg], by omega, h2⟩
  have hmo : most i left ≤ most (i + 1) left' := by unfold most; omega
  have hal := h.al
  have hhi := h.hi
  refine ⟨b, av, l.set k p, left', o', h.below.trans (hs.below ?_ h.below.size), hrow, ?_, by rw [List.length_set]; omega, fun j hj => ?_, hlo, by omega⟩
  · rintro g (⟨-, -, e, -⟩ | e | e)
    · omega
    · omega
    · have := (h.all.2 g e).2.1; omega
  · rw [List.length_set]
    exact ⟨hall, fun g hg => up 1 g (h.all.2 g hg)⟩
  · rw [List.length_set] at hj
    by_cases hjk : j = k
    · subst hjk
      rw [List.getElem_set_self]
      exact ⟨H.dsk.mono upd, H.ref.mono upe, H.rel, H.pos, H.ml, fun x hx => (H.arc x hx).mono upa upb⟩
    · rw [List.getElem_set_ne (fun e => hjk e.symm)]
      have h1 := h.each j hj
      exact ⟨(h1.dsk.on hs (fun g hg => far _ g hg (by omega) (by omega))).mono (up _), (h1.ref.on hs (fun g hg => far _ g hg (by omega) (by omega))).mono (up _), h1.rel, h1.pos, Nat.le_trans h1.ml hmo, fun x hx => ((h1.arc x hx).on hs (fun g hg => hg.elim (fun hg => far _ g hg (by omega) (by omega)) (fun hg => far _ g hg (by omega) (by omega)))).mono (up _) (up _)⟩
end Go.Proofs.YtapijhhmjjplmaaGreatDoor
namespace Go.Proofs.YtapijhhmjjplmaaGreatDoor
open Go.RowKit Go.Maps
theorem infoPair : (Tryz.prog.info? 152).map (fun i => (i.zero, i.size, i.bytes)) = some (some (.agg #[.pointer none, .pointer none, .pointer none, .pointer none]), 4, 32) := by kernel_rfl
theorem cells_four (w : World) (x y z u : Value) (t : TypeId) : ∀ j v, [x, y, z, u][j]? = some v → (w.alloc (.cells #[x, y, z, u] t)).cell? ((⟨w.heap.size, 0, none⟩ : Addr).add j) = some v := by
  intro j v hj
  have e1 : (⟨w.heap.size, 0, none⟩ : Addr).add j = ⟨w.heap.size, j, none⟩ := by unfold Addr.add; split <;> simp_all
  rw [e1, cell_of_row _ _ _ _ _ _ (heap_alloc_new w _)]
  simpa using hj
end Go.Proofs.YtapijhhmjjplmaaGreatDoor
namespace Go.Proofs.YtapijhhmjjplmaaGreatDoor
open Go.RowKit Go.Maps
/-- A pair more. -/
theorem TInvV.more {w W W3 WF : World} {i b n2 : Nat} {av av' : Value} {l : List PairT} {left left' : Int} {o : Nat → Nat} (h : TInvV w i W b av l left o) (p : PairT) (hp : p.arc = none)
    (hs : Same (fun g => av.ownBlock = some g ∨ g = w.heap.size) W WF) (hs3 : Same (fun g => av.ownBlock = some g ∨ g = w.heap.size) W3 WF) (hz1 : W.heap.size ≤ n2) (hz2 : n2 ≤ W3.heap.size)
    (hrow : WF.heap[w.heap.size]? = some (.cells (dRow b (.slice none 0 0) av' left') 73 (0, 0))) (hall : WF.ownsRow 0 152 4 av' (l ++ [p]).length (pairsTV (l ++ [p]))) (hb : ∀ g, av'.ownBlock = some g → av.ownBlock = some g ∨ (W3.heap.size ≤ g ∧ g < WF.heap.size))
    (hD : DskAt W3 (fun g => W.heap.size ≤ g ∧ g < n2) p.bd p.m (d0 p.n p.b)) (hR : RefAt W3 (fun g => n2 ≤ g ∧ g < W3.heap.size) p.be p.r) (hrel : Rel (d0 p.n p.b) p.r) (hpos : 0 < p.n) (hm : p.m ≤ most (i + 1) left') (hle : left' ≤ left) (hlo : -5000 ≤ left') : TInv w (i + 1) WF := by
  obtain ⟨o', ho'⟩ : ∃ o' : Nat → Nat, o' = fun g => if g < W.heap.size then o g else if g < n2 then 4 * l.length + 2 else if g < W3.heap.size then 4 * l.length + 3 else 1 := ⟨_, rfl⟩
  have hz := hs.size
  have hz3 := hs3.size
  have hlt := lt_of_heap' h.row
  have hhi := h.hi
  have hmo : most i left ≤ most (i + 1) left' := by unfold most; omega
  have halt : ∀ g, av.ownBlock = some g → g < W.heap.size := fun g hg => (h.all.2 g hg).2.2
  have far : ∀ q g, ownQ w W o q g → q ≠ 1 → ¬ (av.ownBlock = some g ∨ g = w.heap.size) := by
    rintro q g ⟨h1, h2, h3⟩ n1 (e | e)
    · have := (h.all.2 g e).1; omega
    · omega
  have up : ∀ q g, ownQ w W o q g → ownQ w WF o' q g := fun q g hq => ⟨by rw [ho']; show (if _ then _ else _) = _; rw [if_pos hq.2.2]; exact hq.1, hq.2.1, by have := hq.2.2; omega⟩
  have hal := h.al
  refine ⟨b, av', l ++ [p], left', o', h.below.trans (hs.below ?_ h.below.size), hrow, ⟨hall, fun g hg => ?_⟩, by simp; omega, fun k hk => ?_, hlo, by omega⟩
  · rintro g (hg | rfl)
    · have := (h.all.2 g hg).2.1; omega
    · exact Nat.le_refl _
  · rcases hb g hg with h1 | ⟨h1, h2⟩
    · exact up 1 g (h.all.2 g h1)
    · exact ⟨by rw [ho']; show (if _ then _ else if _ then _ else if _ then _ else _) = _; rw [if_neg (by omega), if_neg (by omega), if_neg (by omega)], by omega, h2⟩
  · by_cases hkl : k < l.length
    · rw [List.getElem_append_left hkl]
      have h1 := h.each k hkl
      exact ⟨(h1.dsk.on hs (fun g hg => far _ g hg (by omega))).mono (up _), (h1.ref.on hs (fun g hg => far _ g hg (by omega))).mono (up _), h1.rel, h1.pos, Nat.le_trans h1.ml hmo, fun x hx => ((h1.arc x hx).on hs (fun g hg => hg.elim (fun hg => far _ g hg (by omega)) (fun hg => far _ g hg (by omega)))).mono (up _) (up _)⟩
    · have hk' : k = l.length := by simp at hk; omega
      subst hk'
      rw [List.getElem_append_right (Nat.le_refl _)]
      simp only [Nat.sub_self, List.getElem_cons_zero]
      have n1 : ∀ g, W.heap.size ≤ g → ¬ (av.ownBlock = some g ∨ g = w.heap.size) := by
        rintro g hg (e | e)
        · have := halt g e; omega
        · omega
      refine ⟨(hD.on hs3 (fun g hg => n1 g hg.1)).mono (fun g hg => ⟨?_, by omega, by omega⟩), (hR.on hs3 (fun g hg => n1 g (by omega))).mono (fun g hg => ⟨?_, by omega, by omega⟩), hrel, hpos, hm, fun x hx => by rw [hp] at hx; cases hx⟩
      · rw [ho']; show (if _ then _ else if _ then _ else if _ then _ else _) = _; rw [if_neg (by omega), if_pos hg.2]
      · rw [ho']; show (if _ then _ else if _ then _ else if _ then _ else _) = _; rw [if_neg (by omega), if_neg (by omega), if_pos hg.2]
set_option maxRecDepth 100000 in
set_option maxHeartbeats 2000000 in
theorem step_newT (w W : World) (i : Nat) (hi : i ≤ 300000) (x : Stp) (hx : x.kind = 3) (hra : inR x.a) (I : TInv w i W) (hL : ∃ n : Int, 0 < n ∧ W.cell? ⟨w.heap.size, 5, none⟩ = some (.int .i64 n)) :
    Calls Tryz.prog 41 #[.pointer (some ⟨w.heap.size, 0, none⟩), stpV x] W fun e W' => e = .returned (.bool true) ∧ TInv w (i + 1) W' := by
  obtain ⟨b, av, l, left, o, I⟩ := I
  have hl0 : 0 < left := by
    obtain ⟨n, h1, h2⟩ := hL
    rw [I.left] at h2
    cases h2
    exact h1
  obtain ⟨kd, xa, xb, xd, xs, xt⟩ := x
  simp only at hx hra
  subst hx
  obtain ⟨W1, hW1⟩ : ∃ W1, W1 = W.alloc (.cells #[.int .i64 3, .int .i64 xa, .int .i64 xb, .int .i64 xd, .string xs, .string xt] 67) := ⟨_, rfl⟩
  have hb1 : Below W.heap.size W W1 := by rw [hW1]; exact (Below.refl _ _).alloc (Nat.le_refl _) _
  have d1 : W1.cell? ⟨W.heap.size, 1, none⟩ = some (.int .i64 xa) := by rw [hW1]; simp
  have hlt1 : W.heap.size < W1.heap.size := by rw [hW1]; simp
  have HA := dsk_new xa W1
  rw [hW1] at HA
  have HAH : Hid (Calls Tryz.prog 24 #[.int .i64 xa] (W.alloc (.cells #[.int .i64 3, .int .i64 xa, .int .i64 xb, .int .i64 xd, .string xs, .string xt] 67)) fun e w' => ∃ bd, e = .returned (.pointer (some ⟨bd, 0, none⟩)) ∧ DskAt w' (fun g => (W.alloc (.cells #[.int .i64 3, .int .i64 xa, .int .i64 xb, .int .i64 xd, .string xs, .string xt] 67)).heap.size ≤ g) bd 0 (Dsk.fresh (clampN xa)) ∧ Below (W.alloc (.cells #[.int .i64 3, .int .i64 xa, .int .i64 xb, .int .i64 xd, .string xs, .string xt] 67)).heap.size (W.alloc (.cells #[.int .i64 3, .int .i64 xa, .int .i64 xb, .int .i64 xd, .string xs, .string xt] 67)) w') := HA
  have HB : Hid (∀ V, Calls Tryz.prog 69 #[.int .i64 xa] V fun e w' => ∃ be, e = .returned (.pointer (some ⟨be, 0, none⟩)) ∧ RefAt w' (fun g => V.heap.size ≤ g) be (RDsk.fresh (clampN xa)) ∧ Below V.heap.size V w') := fun V => ref_new xa V hra
  obtain ⟨n, hn⟩ : ∃ n, n = clampN xa := ⟨_, rfl⟩
  have hnb := clampN_bound xa
  rw [← hn] at HAH HB hnb
  have HI : Hid (TInvV w i W b av l left o) := I
  have hhi := I.hi
  have hwrap : IntKind.i64.wrap (left - (n : Int)) = left - n := by rw [IntKind.wrap_i64]; omega
  clear HA hra hL I hn
  go_enter Tryz.func41, Tryz.ntmps41
  go_wp2_with fail
  refine HAH.out.mono ?_
  rintro e W2 ⟨bd, rfl, D2, B2⟩
  rw [← hW1] at D2 B2
  have d2 : W2.cell? ⟨W.heap.size, 1, none⟩ = some (.int .i64 xa) := by rw [B2.cell hlt1]; exact d1
  have HD2 : Hid (DskAt W2 (fun g => W1.heap.size ≤ g) bd 0 (Dsk.fresh n)) := D2
  have HB2 : Hid (Below W1.heap.size W1 W2) := B2
  clear D2 B2 HAH d1
  go_wp2_with fail
  refine (HB.out W2).mono ?_
  rintro e W3 ⟨be, rfl, R3, B3⟩
  have hb2 : Below W.heap.size W W2 := hb1.trans (HB2.out.mono (Nat.le_of_lt hlt1))
  have hb3 : Below W.heap.size W W3 := hb2.trans (B3.mono hb2.size)
  have hlw := lt_of_heap' HI.out.row
  have row3 : W3.heap[w.heap.size]? = some (.cells (dRow b (.slice none 0 0) av left) 73 (0, 0)) := by rw [hb3.block _ hlw]; exact HI.out.row
  have l3 : W3.cell? ⟨w.heap.size, 5, none⟩ = some (.int .i64 left) := cell_of_row _ _ _ _ _ _ row3
  have f3 := frozen_of_row W3 w.heap.size 5 _ _ row3
  obtain ⟨an, cn, s3⟩ : ∃ an cn, W3.cell? ⟨be, 1, none⟩ = some (.slice an n cn) := by
    obtain ⟨sv, nv, wv, hv⟩ := R3
    obtain ⟨an, cn, rfl⟩ := own_shape hv.seen
    refine ⟨an, cn, ?_⟩
    rw [cell_of_row _ _ _ _ _ _ hv.blk]
    show some (Value.slice an (List.replicate n z64).length cn) = _
    rw [List.length_replicate]
  have HD3 : Hid (DskAt W3 (fun g => W.heap.size ≤ g ∧ g < W2.heap.size) bd 0 (Dsk.fresh n)) := (HD2.out.tight.on (below_same (fun _ => False) B3) (fun _ _ h => h)).mono (fun g hg => ⟨Nat.le_trans hb1.size hg.1, hg.2⟩)
  have HR3 : Hid (RefAt W3 (fun g => W2.heap.size ≤ g ∧ g < W3.heap.size) be (RDsk.fresh n)) := R3.tight
  have HZ : Hid (W.heap.size ≤ W2.heap.size ∧ W2.heap.size ≤ W3.heap.size) := ⟨hb2.size, B3.size⟩
  have HB3 : Hid (Below W.heap.size W W3) := hb3
  obtain ⟨W4, hW4⟩ : ∃ W4, W4 = (W3.setCell ⟨w.heap.size, 5, none⟩ (.int .i64 (left - n))).drew := ⟨_, rfl⟩
  have row4 : W4.heap[w.heap.size]? = some (.cells (dRow b (.slice none 0 0) av (left - n)) 73 (0, 0)) := by
    rw [hW4]
    show (W3.setCell _ _).heap[_]? = _
    rw [heap_setCell_same W3 _ 5 _ _ _ row3]
    rfl
  have hs4 : Same (· = w.heap.size) W3 W4 := by
    rw [hW4]
    exact (Same.setCell (S := (· = w.heap.size)) (Same.refl _ _) ⟨w.heap.size, 5, none⟩ rfl _).drew
  have c4 : W4.cell? ⟨w.heap.size, 2, none⟩ = some av := cell_of_row _ _ _ _ _ _ row4
  have hown4 : W4.ownsRow 0 152 4 av l.length (pairsTV l) := own_heap HI.out.all.1 (fun g hg => by
    have h1 := HI.out.all.2 g hg
    rw [hs4.block g (Nat.lt_of_lt_of_le h1.2.2 hb3.size) (by have := h1.2.1; show ¬ g = _; omega), hb3.block g h1.2.2])
  have HO4 : Hid (W4.ownsRow 0 152 4 av l.length (pairsTV l)) := hown4
  have HS4 : Hid (Same (· = w.heap.size) W3 W4) := hs4
  have HR4 : Hid (W4.heap[w.heap.size]? = some (.cells (dRow b (.slice none 0 0) av (left - n)) 73 (0, 0))) := row4
  have HL : Hid (l.length ≤ 300000) := Nat.le_trans HI.out.al hi
  obtain ⟨ip, hip, hz0, hz1, hz2⟩ := info_parts infoPair
  have HLW : Hid (w.heap.size < W.heap.size) := hlw
  clear R3 B3 hb2 hb3 row3 hb1 hlt1 d2 HD2 HB2 HB hown4 hs4 row4 hlw hW1
  go_wp2
  go_region
  rw [← hW4]
  clear hW4 s3 l3 f3
  go_wp2_with (at_builtin; refine wpList_append_own_at _ rfl _ _ 70 rfl 0 152 ip (.agg #[.pointer none, .pointer none, .pointer none, .pointer none]) 4 32 Tryz.underlying70 hip hz0 hz1 hz2 rfl (by decide) _ _ _ rfl (World.ownsRow.alloc HO4.out _) _ 1 1 [.pointer (some ⟨bd, 0, none⟩), .pointer (some ⟨be, 0, none⟩), .pointer none, .pointer none] rfl rfl (cells_four _ _ _ _ _ _) ?c2 ?c3 ?c4 ?c5 ?_)
  case c2 => intro u hu; simp at hu; rcases hu with rfl | rfl | rfl <;> rfl
  case c3 => have := HL.out; unfold maxLen; omega
  case c4 => have := HL.out; omega
  case c5 => omega
  intro v' W5 hown' hgrow _ hat
  obtain ⟨g', cap', rfl⟩ : ∃ g' cap', v' = .slice (some ⟨g', 0, none⟩) (l.length + 1) cap' := by
    obtain ⟨-, h2 | ⟨g', cap', cur', hv', -⟩⟩ := hown'
    · omega
    · exact ⟨g', cap', hv'⟩
  have hz5 : W4.heap.size + 1 ≤ W5.heap.size := by have := hgrow.size; simpa using this
  have hz34 := HS4.out.size
  have hz13 := HB3.out.size
  have hlw := HLW.out
  have hav : ∀ q, av.ownBlock = some q → q < W.heap.size ∧ q ≠ w.heap.size := fun q hq => by
    have h1 := HI.out.all.2 q hq
    exact ⟨h1.2.2, by have := h1.2.1; omega⟩
  have hbe : W5.heap[w.heap.size]? = some (.cells (dRow b (.slice none 0 0) av (left - n)) 73 (0, 0)) := by
    rw [hgrow.block _ (by simp; omega) (fun e => (hav _ e.symm).2 rfl), Below.heap_alloc _ _ _ (by omega)]
    exact HR4.out
  have k5 : W5.cell? ⟨w.heap.size, 2, none⟩ = some av := cell_of_row _ _ _ _ _ _ hbe
  have f5 := frozen_of_row W5 w.heap.size 2 _ _ hbe
  have hat' : av.ownBlock = some g' ∨ g' = W4.heap.size + 1 := by
    rcases hat with e | e
    · exact .inl e.symm
    · exact .inr (by simpa [Value.ownBlock] using e)
  have hgw : g' ≠ w.heap.size := by
    rcases hat' with e | e
    · exact (hav g' e).2
    · omega
  have hs3 : Same (fun g => av.ownBlock = some g ∨ g = w.heap.size) W3 (W5.setCell ⟨w.heap.size, 2, none⟩ (.slice (some ⟨g', 0, none⟩) (l.length + 1) cap')) := by
    have h4 := HS4.out
    refine ⟨?_, ?_, ?_, by simp; omega, fun q hq hn' => ?_⟩
    · rw [show (W5.setCell _ _).os = W5.os from rfl, hgrow.os]; exact h4.os
    · rw [show (W5.setCell _ _).tape = W5.tape from rfl, hgrow.tape]; exact h4.tape
    · rw [show (W5.setCell _ _).output = W5.output from rfl, hgrow.output]; exact h4.output
    · rw [heap_setCell_other _ _ _ _ (fun e => hn' (.inr e)), hgrow.block q (by simp; omega) (fun e => hn' (.inl e.symm)), Below.heap_alloc _ _ _ (by omega), h4.block q hq (fun e => hn' (.inr e))]
  have HG : Hid (TInv w (i + 1) (W5.setCell ⟨w.heap.size, 2, none⟩ (.slice (some ⟨g', 0, none⟩) (l.length + 1) cap'))) := by
    have hn1 : 0 < n := by omega
    have h1 := HD3.out
    rw [d0_fresh n hn1] at h1
    have h2 := Rel.fresh n hnb
    rw [d0_fresh n hn1] at h2
    refine HI.out.more (n2 := W2.heap.size) (av' := .slice (some ⟨g', 0, none⟩) (l.length + 1) cap') (left' := left - n) ⟨bd, be, 0, n, false, RDsk.fresh n, none⟩ rfl ((below_same _ HB3.out).trans hs3) hs3 HZ.out.1 HZ.out.2 ?_ ?_ ?_ h1 HR3.out h2 hn1 (Nat.zero_le _) (by omega) (by omega)
    · rw [heap_setCell_same W5 _ 2 _ _ _ hbe]; rfl
    · have e : pairsTV (l ++ [⟨bd, be, 0, n, false, RDsk.fresh n, none⟩]) = pairsTV l ++ [.pointer (some ⟨bd, 0, none⟩), .pointer (some ⟨be, 0, none⟩), .pointer none, .pointer none] := by simp [pairsTV, pairTV, pA, pB]
      have e2 : (l ++ [(⟨bd, be, 0, n, false, RDsk.fresh n, none⟩ : PairT)]).length = l.length + 1 := by simp
      rw [e, e2]
      refine own_heap hown' (fun q hq => ?_)
      cases hq
      exact heap_setCell_other _ _ _ _ hgw
    · intro q hq
      cases hq
      have hlg : g' < W5.heap.size := OwnS.lt (S := fun _ => True) ⟨hown', fun _ _ => trivial⟩ rfl
      rcases hat' with e | e
      · exact .inl e
      · exact .inr ⟨by show W3.heap.size ≤ g'; omega, by simpa using hlg⟩
  clear hown' hgrow hat hat' hs3 hbe hav hgw hz5 hz34 hz13 hlw HI HD3 HR3 HZ HB3 HO4 HS4 HR4 HL HLW
  go_wp2
  go_ret
  exact ⟨rfl, HG.out⟩
end Go.Proofs.YtapijhhmjjplmaaGreatDoor
namespace Go.Proofs.YtapijhhmjjplmaaGreatDoor
open Go.RowKit Go.Maps
theorem own_two {W W' : World} {t : TypeId} {n k g cap : Nat} {xs : List Value} {cur : Array Value} (h : W.ownsRow 0 t k (.slice (some ⟨g, 0, none⟩) n cap) n xs) (hc : W.heap[g]? = some (.cells cur t (0, 0))) (i j : Nat) (x y : Value)
    (hc' : W'.heap[g]? = some (.cells ((cur.setIfInBounds i x).setIfInBounds j y) t (0, 0))) : W'.ownsRow 0 t k (.slice (some ⟨g, 0, none⟩) n cap) n ((xs.set i x).set j y) := by
  obtain ⟨h1, h2 | ⟨g', cap', cur', hv, hB, hh, h3, h4, h5, h6⟩⟩ := h
  · cases h2.1
  · cases hv
    rw [hc] at hh
    cases hh
    exact ⟨by simpa using h1, .inr ⟨g, cap, _, rfl, hB, hc', h3, h4, by simpa using h5, by rw [Array.toList_setIfInBounds, Array.toList_setIfInBounds, List.take_set, List.take_set, h6]⟩⟩
theorem d0_len (n : Nat) (b : Bool) (hn : 0 < n) : (d0 n b).safe.length = n := secs0_len n b hn
theorem d0_seen {n : Nat} {b : Bool} {r : RDsk} (h : Rel (d0 n b) r) : r.seen = secs0 n b := h.seen
theorem fmt_any (n : Nat) (b : Bool) : ∃ b', (fmtD n (d0 n b)).1 = d0 n b' := by
  by_cases h : n < 4
  · exact ⟨b, by rw [fmt_small n _ h]⟩
  · exact ⟨true, by rw [fmt_d0 n b (by omega)]⟩
theorem lformat_any {w W : World} {a : Nat → Addr} (S0 : Sent w a) {i b k : Nat} {av : Value} {l : List PairT} {left : Int} {o : Nat → Nat} (h : TInvV w i W b av l left o) (hk : k < l.length) (hi : i ≤ 300000) (hl : 0 < left)
    (x : Stp) (hx : x.kind = 12) (g : Nat) (cap : Nat) (hav : av = .slice (some ⟨g, 0, none⟩) l.length cap) :
    Calls Tryz.prog 72 #[.pointer (some ⟨w.heap.size, 0, none⟩), .pointer (some ⟨g, k * 4, none⟩), stpV x] W fun e W' => e = .returned (.bool true) ∧ TInv w (i + 1) W' := by
  obtain ⟨g', cap', cur, hv, hg, hh, c2, c3, D⟩ := h.duo hk
  rw [hav] at hv
  cases hv
  have hnd : ¬ ownQ w W o (4 * k + 2) w.heap.size := fun h => by have := h.2.1; omega
  have hne : ¬ ownQ w W o (4 * k + 3) w.heap.size := fun h => by have := h.2.1; omega
  have hgw : w.heap.size ≠ g := by have := hg.2.1; omega
  have hlt := lt_of_heap' h.row
  have hhi := h.hi
  have h1 := h.each k hk
  have hn := d0_len l[k].n l[k].b h1.pos
  have hsz := h1.rel.size.2
  obtain ⟨b', hb'⟩ := fmt_any l[k].n l[k].b
  refine (ldisk_format w W a S0 (most i left) w.heap.size g (k * 4) _ _ _ _ _ _ _ x left _ _ hx D (by unfold most; omega) h.row rfl (by omega) (by omega) ⟨Nat.le_refl _, hnd, hne, hgw⟩).mono ?_
  rintro e W' ⟨rfl, ⟨m', Sd', Se', D', hiff⟩, hs, hrow⟩
  rw [hn] at D' hrow hsz
  rw [hb'] at D'
  have hz := hs.size
  have hq : ∀ q g, ownQ w W o q g → q ≠ 4 * k + 2 → q ≠ 4 * k + 3 → ¬ (ownQ w W o (4 * k + 2) g ∨ ownQ w W o (4 * k + 3) g ∨ g = w.heap.size) := by
    rintro q g ⟨h1, h2, h3⟩ n1 n2 (⟨e, -⟩ | ⟨e, -⟩ | e) <;> omega
  have dd : ∀ g, g < W.heap.size → Sd' g → o g = 4 * k + 2 ∧ w.heap.size < g := fun g hl hd => by
    have := (hiff g hl).1.1 hd
    exact ⟨this.1, this.2.1⟩
  have de : ∀ g, g < W.heap.size → Se' g → o g = 4 * k + 3 ∧ w.heap.size < g := fun g hl hd => by
    have := (hiff g hl).2.1 hd
    exact ⟨this.1, this.2.1⟩
  refine ⟨rfl, h.turn (left' := left - l[k].n) hk ⟨l[k].bd, l[k].be, m', l[k].n, b', (fmtR l[k].n l[k].r).1, l[k].arc⟩ Sd' Se' (ownQ w W o (4 * k + 4)) (ownQ w W o (4 * k + 5)) ⟨fun g hg => ⟨dd g hg, de g hg, fun ha => ⟨ha.1, ha.2.1⟩, fun ha => ⟨ha.1, ha.2.1⟩⟩, ?_, fun g => ⟨fun hd => ⟨D'.dj g hd, fun ha => ?_, fun ha => ?_⟩, fun hd => ⟨fun ha => ?_, fun ha => ?_⟩, fun ha hb => ?_⟩, D'.dsk, D'.ref, D'.rel, h1.pos, ?_, fun x hx => (h1.arc x hx).on hs ?_⟩ (hs.weak ?_) hrow ?_ (by omega) (by omega)⟩
  · rintro g (hd | he | ha | ha)
    · exact D'.hi g (.inl hd)
    · exact D'.hi g (.inr he)
    · have := ha.2.2; omega
    · have := ha.2.2; omega
  · have := (dd g ha.2.2 hd).1; have := ha.1; omega
  · have := (dd g ha.2.2 hd).1; have := ha.1; omega
  · have := (de g ha.2.2 hd).1; have := ha.1; omega
  · have := (de g ha.2.2 hd).1; have := ha.1; omega
  · have := hb.1; have := ha.1; omega
  · have := D'.ml
    show m' ≤ _
    unfold most at this ⊢
    omega
  · rintro g (hg | hg)
    · exact hq _ g hg (by omega) (by omega)
    · exact hq _ g hg (by omega) (by omega)
  · rintro g (⟨h1, h2, h3⟩ | ⟨h1, h2, h3⟩ | rfl)
    · exact .inl ⟨by omega, by omega, h2, h3⟩
    · exact .inl ⟨by omega, by omega, h2, h3⟩
    · exact .inr (.inl rfl)
  · rw [pairsTV_same l k hk ⟨l[k].bd, l[k].be, m', l[k].n, b', (fmtR l[k].n l[k].r).1, l[k].arc⟩ rfl]
    exact (h.all.on hs (fun g hg => hq _ g (h.all.2 g hg) (by omega) (by omega))).1
theorem lmount_any {w W : World} {a : Nat → Addr} (S0 : Sent w a) {i b k : Nat} {av : Value} {l : List PairT} {left : Int} {o : Nat → Nat} (h : TInvV w i W b av l left o) (hk : k < l.length) (hi : i ≤ 300000) (hl : 0 < left)
    (g : Nat) (cap : Nat) (hav : av = .slice (some ⟨g, 0, none⟩) l.length cap) :
    Calls Tryz.prog 73 #[.pointer (some ⟨w.heap.size, 0, none⟩), .pointer (some ⟨g, k * 4, none⟩)] W fun e W' => e = .returned (.bool true) ∧ TInv w (i + 1) W' := by
  obtain ⟨g', cap', cur, hv, hg, hh, c2, c3, D⟩ := h.duo hk
  rw [hav] at hv
  cases hv
  have hnd : ¬ ownQ w W o (4 * k + 2) w.heap.size := fun h => by have := h.2.1; omega
  have hne : ¬ ownQ w W o (4 * k + 3) w.heap.size := fun h => by have := h.2.1; omega
  have hgw : w.heap.size ≠ g := by have := hg.2.1; omega
  have hlt := lt_of_heap' h.row
  have hhi := h.hi
  have h1 := h.each k hk
  have hn := d0_len l[k].n l[k].b h1.pos
  have hsz := h1.rel.size.2
  have hsn := d0_seen h1.rel
  have hown := h.all.1
  rw [hav] at hown
  have hob : ∀ q, av.ownBlock = some q → q = g := fun q hq => by rw [hav] at hq; exact (Option.some.inj hq).symm
  have hq1 : ∀ q g', ownQ w W o q g' → q ≠ 1 → g' ≠ g := fun q g' h1 h2 e => by
    subst e
    have := h1.1; have := hg.1; omega
  by_cases hno : l[k].n < 4 ∨ l[k].b = false
  · refine (lmount_no w W a S0 (most i left) w.heap.size b g (k * 4) _ _ _ _ _ _ _ left _ _ cur _ D h.row rfl rfl (by omega) (by omega) ⟨Nat.le_refl _, hnd, hne, hgw⟩ hh ⟨_, c2⟩ ⟨_, c3⟩ ?_ ?_).mono ?_
    · refine hno.imp (fun h => by rw [hn]; exact h) (fun hb e => head_ne l[k].n ?_)
      have e2 : (if l[k].b then headS l[k].n else z64) = headS l[k].n := (d0_at0 _ _ h1.pos).symm.trans (e.trans (by rw [hn]))
      rw [hb, if_neg (by simp)] at e2
      exact e2.symm
    · rw [hn]
      refine hno.imp id (fun hb e => head_ne l[k].n ?_)
      rw [hsn, hb] at e
      exact (Option.some.inj e).symm
    · rintro e W' ⟨rfl, hs, hD, hrow, hpg⟩
      rw [hn] at hrow hsz
      have hz := hs.size
      refine ⟨rfl, h.turn (left' := left - l[k].n) hk ⟨l[k].bd, l[k].be, l[k].m, l[k].n, l[k].b, l[k].r, none⟩ (ownQ w W o (4 * k + 2)) (ownQ w W o (4 * k + 3)) (fun _ => False) (fun _ => False) ⟨fun g hg => ⟨fun h => ⟨h.1, h.2.1⟩, fun h => ⟨h.1, h.2.1⟩, fun h => h.elim, fun h => h.elim⟩, ?_, fun g => ⟨fun hd => ⟨fun he => ?_, fun h => h, fun h => h⟩, fun _ => ⟨fun h => h, fun h => h⟩, fun _ h => h⟩, hD, h1.ref.on hs ?_, h1.rel, h1.pos, ?_, fun x hx => by cases hx⟩ (hs.weak ?_) hrow ?_ (by omega) (by omega)⟩
      · rintro g (hd | hd | hd | hd)
        · have := hd.2.2; omega
        · have := hd.2.2; omega
        · exact hd.elim
        · exact hd.elim
      · have := hd.1; have := he.1; omega
      · rintro q hq (e | e | e)
        · have := hq.1; have := e.1; omega
        · have := hq.2.1; omega
        · exact hq1 _ q hq (by omega) e
      · have := h1.ml
        show l[k].m ≤ _
        unfold most at this ⊢
        omega
      · rintro q (⟨h1, h2, h3⟩ | rfl | rfl)
        · exact .inl ⟨by omega, by omega, h2, h3⟩
        · exact .inr (.inl rfl)
        · exact .inr (.inr (by rw [hav]; rfl))
      · rw [← pairsTV_arc l k hk ⟨l[k].bd, l[k].be, l[k].m, l[k].n, l[k].b, l[k].r, none⟩ rfl rfl, hav]
        exact own_two hown hh _ _ _ _ hpg
  · have h4 : 4 ≤ l[k].n := by
      rcases Nat.lt_or_ge l[k].n 4 with h | h
      · exact (hno (.inl h)).elim
      · exact h
    have hb : l[k].b = true := by
      cases hb : l[k].b
      · exact (hno (.inr hb)).elim
      · rfl
    have hw0 := wipe0 l[k].n l[k].b (l[k].n - 1) 1 (by omega) (by omega)
    have hr := hsz
    rw [hn] at hsz
    refine (lmount_yes w W a S0 (most i left) w.heap.size b g (k * 4) _ _ _ l[k].n _ _ _ _ left _ _ cur _ D (by unfold most; omega) h.row rfl rfl (by omega) (by omega) ⟨Nat.le_refl _, hnd, hne, hgw⟩ hh ⟨_, c2⟩ ⟨_, c3⟩ (by have := hg.2.1; omega) hn h4 ?_ (d0_at1 _ _ h4 (by omega)) (by rw [hw0]) ?_ ?_).mono ?_
    · rw [d0_at0 _ _ h1.pos, hb, if_pos rfl]
    · rw [hsn, hb]
      rfl
    · rw [hsn]
      exact secs0_zero _ _ 1 (by omega) (by omega)
    · rintro e W' ⟨rfl, ba, bb, m', Sd', Se', Sa', D', A', hiff, hsep, nd, ne, hs, hrow, hpg⟩
      rw [hw0] at D'
      have hz := hs.size
      have hbb : bb < W'.heap.size := by
        obtain ⟨_, _, _, hr⟩ := A'.row
        exact lt_of_heap' hr
      refine ⟨rfl, h.turn (left' := left - l[k].n) hk ⟨l[k].bd, l[k].be, m', l[k].n, l[k].b, (wipeR (l[k].n - 1) 1 l[k].r).1, some ⟨ba, bb, .slice none 0 0, []⟩⟩ Sd' Se' Sa' (· = bb) ⟨fun g hg => ⟨fun hd => ?_, fun hd => ?_, fun ha => ((hiff g hg).2.2.1 ha).elim, fun hb => ((hiff g hg).2.2.2 hb).elim⟩, ?_, fun g => ⟨fun hd => ⟨D'.dj g hd, fun ha => (hsep g ha).1 hd, fun e => nd (by rw [← e]; exact hd)⟩, fun hd => ⟨fun ha => (hsep g ha).2.1 hd, fun e => ne (by rw [← e]; exact hd)⟩, fun ha => (hsep g ha).2.2.1⟩, D'.dsk, D'.ref, D'.rel, h1.pos, ?_, ?_⟩ (hs.weak ?_) hrow ?_ (by omega) (by omega)⟩
      · have := (hiff g hg).1.1 hd; exact ⟨this.1, this.2.1⟩
      · have := (hiff g hg).2.1.1 hd; exact ⟨this.1, this.2.1⟩
      · rintro g (hd | hd | hd | hd)
        · exact D'.hi g (.inl hd)
        · exact D'.hi g (.inr hd)
        · exact (hsep g hd).2.2.2
        · rw [show g = bb from hd]; exact hbb
      · have := D'.ml
        show m' ≤ _
        unfold most at this ⊢
        omega
      · intro x hx
        cases hx
        exact A'.inn
      · rintro q (⟨h1, h2, h3⟩ | ⟨h1, h2, h3⟩ | rfl | rfl)
        · exact .inl ⟨by omega, by omega, h2, h3⟩
        · exact .inl ⟨by omega, by omega, h2, h3⟩
        · exact .inr (.inl rfl)
        · exact .inr (.inr (by rw [hav]; rfl))
      · rw [← pairsTV_arc l k hk ⟨l[k].bd, l[k].be, m', l[k].n, l[k].b, (wipeR (l[k].n - 1) 1 l[k].r).1, some ⟨ba, bb, .slice none 0 0, []⟩⟩ rfl rfl, hav]
        exact own_two hown hh _ _ _ _ hpg
end Go.Proofs.YtapijhhmjjplmaaGreatDoor
namespace Go.Proofs.YtapijhhmjjplmaaGreatDoor
open Go.RowKit Go.Maps
theorem wf_mkdir {T : Tre} (h : WFT T) (s : ByteArray) : WFT (treeP T (mkdirT T) s) := by
  cases hp : pathOf s with
  | none => rw [treeP_none hp]; exact h
  | some l =>
    by_cases h0 : l = []
    · subst h0; rw [treeP_nil hp]; exact h
    · rw [treeP_some hp h0]
      obtain ⟨hv, h8⟩ := pathOf_valid hp
      unfold mkdirT
      split
      · exact h
      · rename_i he
        have he := Decidable.not_not.1 he
        unfold mkdirE at he
        by_cases hs : spotE T l = 0
        · rw [if_neg (by rw [hs]; simp)] at he
          cases hn : lookT T l with
          | some x => rw [hn] at he; simp at he
          | none =>
            rw [hn] at he
            cases hf : fullT T l.dropLast
            · exact h.append hv h8 h0 hs hn hf true _ (fun _ => rfl) (by show 0 ≤ 1536; omega)
            · rw [hf] at he; simp at he
        · rw [if_pos hs] at he; exact (hs he).elim
theorem wf_put {T : Tre} (h : WFT T) (s d : ByteArray) : WFT (treeP T (fun l => putT T l d) s) := by
  cases hp : pathOf s with
  | none => rw [treeP_none hp]; exact h
  | some l =>
    by_cases h0 : l = []
    · subst h0; rw [treeP_nil hp]; exact h
    · rw [treeP_some hp h0]
      obtain ⟨hv, h8⟩ := pathOf_valid hp
      show WFT (putT T l d)
      by_cases hb : 1536 < d.size
      · rw [(putE_big hb).2]; exact h
      · by_cases hs : spotE T l = 0
        · cases hn : lookT T l with
          | some x =>
            rw [(putE_some hb hs hn).2]
            cases hd : x.dir
            · rw [if_neg (by simp)]; exact h.set hn hd d (by omega)
            · rw [if_pos rfl]; exact h
          | none =>
            rw [(putE_none hb hs hn).2]
            cases hf : fullT T l.dropLast
            · rw [if_neg (by simp)]; exact h.append hv h8 h0 hs hn hf false d (fun h => by cases h) (by omega)
            · rw [if_pos rfl]; exact h
        · rw [(putE_spot hb hs).2]; exact h
theorem wf_remove {T : Tre} (h : WFT T) (s : ByteArray) : WFT (treeP T (removeT T) s) := by
  cases hp : pathOf s with
  | none => rw [treeP_none hp]; exact h
  | some l =>
    by_cases h0 : l = []
    · subst h0; rw [treeP_nil hp]; exact h
    · rw [treeP_some hp h0]
      unfold removeT
      split
      · exact h
      · rename_i he
        have he := Decidable.not_not.1 he
        unfold removeE at he
        by_cases hk : kidsU T l = []
        · exact h.drop hk
        · by_cases hs : spotE T l = 0
          · rw [if_neg (by rw [hs]; simp)] at he
            by_cases hn : (lookT T l).isNone = true
            · rw [if_pos hn] at he; cases he
            · rw [if_neg hn, if_pos hk] at he; cases he
          · rw [if_pos hs] at he; exact (hs he).elim
/-- What a call of the tree leaves. -/
def TreeL (W : World) (pg po ba bb bd : Nat) (Sa Sb : Nat → Prop) (T' : Tre) (W' : World) : Prop := ∃ N1 tv', W.heap.size ≤ N1 ∧ N1 ≤ W'.heap.size ∧ Arcs W' pg po ba bb bd (fun g => (Sa g ∨ W.heap.size ≤ g) ∧ g < N1) (fun g => (Sb g ∨ N1 ≤ g) ∧ g < W'.heap.size) tv' T' ∧ Same (fun g => Sa g ∨ Sb g) W W'
theorem Arcs.turn {W W1 W2 W3 : World} {pg po ba bb bd : Nat} {Sa Sb : Nat → Prop} {tv tv' : Value} {T T' : Tre} (H : Arcs W pg po ba bb bd Sa Sb tv T) (hb1 : Below W.heap.size W W1) (A2 : ArcP W2 (fun g => Sa g ∨ W1.heap.size ≤ g) ba bd T') (s2 : Same Sa W1 W2)
    (R3 : TreeR W3 (fun g => (Sb g ∧ g ≠ bb) ∨ W2.heap.size ≤ g) tv' T') (s3 : Same (fun g => Sb g ∧ g ≠ bb) W2 W3) (wf : WFT T') (hhi : ∀ g, Sa g ∨ Sb g → g < W.heap.size) (hdj : ∀ g, Sa g → ¬ Sb g) (hpg : ¬ Sa pg ∧ ¬ Sb pg) :
    TreeL W pg po ba bb bd Sa Sb T' (W3.setCell ⟨bb, 7, none⟩ tv') := by
  have z1 := hb1.size
  have z2 := s2.size
  have z3 := s3.size
  have hbb := hhi bb (.inr H.sb)
  have hset : Same (· = bb) W3 (W3.setCell ⟨bb, 7, none⟩ tv') := Same.setCell (S := (· = bb)) (Same.refl _ W3) ⟨bb, 7, none⟩ rfl _
  have z4 := hset.size
  have npb : ¬ pg = bb := fun e => hpg.2 (by rw [e]; exact H.sb)
  have H1 := H.below hb1
  obtain ⟨bm, be, c, hr⟩ := H1.row
  have hr2 : W2.heap[bb]? = _ := (s2.block bb (lt_of_heap' hr) (fun h => hdj bb h H.sb)).trans hr
  have hr3 : W3.heap[bb]? = _ := (s3.block bb (lt_of_heap' hr2) (fun h => h.2 rfl)).trans hr2
  refine ⟨W2.heap.size, tv', by omega, by omega, ⟨?_, ?_, ?_, wf, ⟨bm, be, c, heap_setCell_same W3 bb 7 _ _ tv' hr3⟩, ⟨.inl H.sb, by omega⟩, ?_⟩, ?_⟩
  · exact hset.cell npb (s3.cell (fun h => hpg.2 h.1) (s2.cell hpg.1 H1.p2))
  · exact hset.cell npb (s3.cell (fun h => hpg.2 h.1) (s2.cell hpg.1 H1.p3))
  · refine (((A2.tight).on s3 ?_).on hset ?_).mono ?_
    · rintro g ⟨h | h, -⟩ ⟨hb, -⟩
      · exact hdj g h hb
      · have := hhi g (.inr hb); omega
    · rintro g ⟨h | h, -⟩ hb
      · exact hdj g h (by rw [show g = bb from hb]; exact H.sb)
      · have : g = bb := hb; omega
    · rintro g ⟨h | h, h2⟩
      · exact ⟨.inl h, h2⟩
      · exact ⟨.inr (by omega), h2⟩
  · have h3 := R3.tight
    refine TreeR.mono (OwnS.on h3 hset ?_) ?_
    · intro g hg e
      have e : g = bb := e
      rcases (h3.2 g hg).1 with h | h
      · exact h.2 e
      · omega
    · rintro g ⟨h | h, h2⟩
      · exact ⟨⟨.inl h.1, by omega⟩, h.2⟩
      · exact ⟨⟨.inr h, by omega⟩, by omega⟩
  · exact (((below_sameT hb1).trans (s2.weak (fun _ h => .inl h))).trans (s3.weak (fun _ h => .inr h.1))).trans (hset.weak (fun g h => .inr (by rw [show g = bb from h]; exact H.sb)))
end Go.Proofs.YtapijhhmjjplmaaGreatDoor
namespace Go.Proofs.YtapijhhmjjplmaaGreatDoor
open Go.RowKit Go.Maps
set_option maxRecDepth 100000 in
set_option maxHeartbeats 4000000 in
theorem ltree_mkdir (w0 W : World) (a : Nat → Addr) (mx : Int) (V0 : Vars w0 a mx) (bw pg po ba bb bd : Nat) (Sa Sb : Nat → Prop) (tv : Value) (T : Tre) (x : Stp) (hk : x.kind = 15) (hxs : x.s.size ≤ 262144) (H : Arcs W pg po ba bb bd Sa Sb tv T) (hb0 : Below w0.heap.size w0 W) (hlo : ∀ g, Sa g ∨ Sb g → w0.heap.size ≤ g) (hhi : ∀ g, Sa g ∨ Sb g → g < W.heap.size) (hdj : ∀ g, Sa g → ¬ Sb g) (hpg : ¬ Sa pg ∧ ¬ Sb pg) :
    Calls Tryz.prog 74 #[.pointer (some ⟨bw, 0, none⟩), .pointer (some ⟨pg, po, none⟩), stpV x] W fun e W' => e = .returned (.bool true) ∧ TreeL W pg po ba bb bd Sa Sb (treeP T (mkdirT T) x.s) W' := by
  obtain ⟨kd, xa, xb, xd, xs, xt⟩ := x
  simp only at hk hxs
  subst hk
  obtain ⟨W1, hW1⟩ : ∃ W1, W1 = W.alloc (.cells #[.int .i64 15, .int .i64 xa, .int .i64 xb, .int .i64 xd, .string xs, .string xt] 67) := ⟨_, rfl⟩
  have hb1 : Below W.heap.size W W1 := by rw [hW1]; exact (Below.refl _ _).alloc (Nat.le_refl _) _
  have H1 := H.below hb1
  have b4 : W1.cell? ⟨W.heap.size, 4, none⟩ = some (.string xs) := by rw [hW1]; simp
  have b5 : W1.cell? ⟨W.heap.size, 5, none⟩ = some (.string xt) := by rw [hW1]; simp
  have c2 := H1.p2
  obtain ⟨T', hT'⟩ : ∃ T', T' = treeP T (mkdirT T) xs := ⟨_, rfl⟩
  obtain ⟨c, hc⟩ : ∃ c : Int, c = (codeP (mkdirE T) xs : Nat) := ⟨_, rfl⟩
  have HW : Hid (WFT T') := by rw [hT']; exact wf_mkdir H.wf xs
  have hb01 : Below w0.heap.size w0 W1.drew := hb0.trans ⟨hb1.os, hb1.tape, hb1.output, hb1.size, fun k hk => hb1.block k (Nat.lt_of_lt_of_le hk hb0.size)⟩
  have HG : Hid (Calls Tryz.prog 27 #[.pointer (some ⟨ba, 0, none⟩), .string xs] W1.drew fun e w' => e = .returned (.int .i64 c) ∧ Hid (ArcP w' (fun g => Sa g ∨ W1.heap.size ≤ g) ba bd T' ∧ Same Sa W1 w')) := by
    rw [hT', hc]
    refine Calls.mono (plain_mkdir w0 a mx V0 ba bd Sa T xs W1.drew (H1.arc.on (Same.refl (fun _ => False) W1).drew (fun _ _ h => h)) H1.wf hb01 (fun g h => hlo g (.inl h)) (fun g h => Nat.lt_of_lt_of_le (hhi g (.inl h)) hb1.size) hxs) ?_
    rintro e w' ⟨rfl, h1, h2⟩
    exact ⟨rfl, h1, ⟨h2.os, h2.tape, h2.output, h2.size, h2.block⟩⟩
  have HQ : Hid (∀ V, TreeR V (fun g => Sb g ∧ g ≠ bb) tv T → Calls Tryz.prog 122 #[tv, .string xs] V.drew fun e w' => ∃ ao n cp, e = .returned (.tuple #[.slice ao n cp, .int .i64 c]) ∧ Hid (TreeR w' (fun g => (Sb g ∧ g ≠ bb) ∨ V.heap.size ≤ g) (.slice ao n cp) T' ∧ Same (fun g => Sb g ∧ g ≠ bb) V w')) := fun V hV => by
    rw [hT', hc]
    refine Calls.mono (ref_mkdir _ tv T xs V.drew (OwnS.on hV (Same.refl (fun _ => False) V).drew (fun _ _ h => h)) H1.wf hxs) ?_
    rintro e w' ⟨v, rfl, h1, h2⟩
    obtain ⟨ao, cp, rfl⟩ := own_shape h1
    exact ⟨ao, _, cp, rfl, h1, ⟨h2.os, h2.tape, h2.output, h2.size, h2.block⟩⟩
  obtain ⟨ao, cp, rfl⟩ := own_shape H.tree
  obtain ⟨n, hn⟩ : ∃ n, n = T.length := ⟨_, rfl⟩
  have H7 : Hid (∀ V, Same Sa W1 V → V.cell? ⟨pg, po + 2, none⟩ = some (.pointer (some ⟨ba, 0, none⟩)) ∧ V.cell? ⟨pg, po + 3, none⟩ = some (.pointer (some ⟨bb, 0, none⟩)) ∧ V.cell? ⟨W.heap.size, 4, none⟩ = some (.string xs) ∧ V.cell? ⟨W.heap.size, 5, none⟩ = some (.string xt) ∧ V.cell? ⟨bb, 7, none⟩ = some (.slice ao n cp) ∧ TreeR V (fun g => Sb g ∧ g ≠ bb) (.slice ao n cp) T ∧ V.frozen? ⟨bb, 7, none⟩ = false) := fun V hs => by
    have nb : ¬ Sa bb := fun h => hdj bb h H.sb
    have nx : ¬ Sa W.heap.size := fun h => Nat.lt_irrefl _ (hhi _ (.inl h))
    obtain ⟨bm, be, k, hr⟩ := H1.row
    rw [hn]
    refine ⟨hs.cell hpg.1 H1.p2, hs.cell hpg.1 H1.p3, hs.cell nx b4, hs.cell nx b5, hs.cell nb H1.c7, OwnS.on H1.tree hs (fun g hg h => hdj g h (H1.tree.2 g hg).1), frozen_of_row V bb 7 _ _ ((hs.block bb (lt_of_heap' hr) nb).trans hr)⟩
  have HE : Hid (∀ W2 W3 v, ArcP W2 (fun g => Sa g ∨ W1.heap.size ≤ g) ba bd T' → Same Sa W1 W2 → TreeR W3 (fun g => (Sb g ∧ g ≠ bb) ∨ W2.heap.size ≤ g) v T' → Same (fun g => Sb g ∧ g ≠ bb) W2 W3 → TreeL W pg po ba bb bd Sa Sb T' (W3.setCell ⟨bb, 7, none⟩ v)) := fun W2 W3 v h1 h2 h3 h4 => H.turn hb1 h1 h2 h3 h4 HW.out hhi hdj hpg
  have HNE : Hid ((⟨bb, 7, none⟩ : Addr).block ≠ (⟨pg, po + 3, none⟩ : Addr).block ∧ (⟨bb, 7, none⟩ : Addr).block ≠ (⟨W.heap.size, 4, none⟩ : Addr).block) := ⟨fun e => hpg.2 (by rw [← show bb = pg from e]; exact H.sb), fun e => Nat.lt_irrefl W.heap.size (by have := hhi bb (.inr H.sb); rw [show bb = W.heap.size from e] at this; exact this)⟩
  have HP : Hid (¬ Sb pg ∧ ¬ Sb W.heap.size ∧ bb < W.heap.size) := ⟨hpg.2, fun h => Nat.lt_irrefl _ (hhi _ (.inr h)), hhi bb (.inr H.sb)⟩
  rw [← hT']
  rw [← hn] at HQ
  clear H1 H V0 hb0 hb01 hb1 hlo hhi hdj hpg hT' hc hxs hn HW
  go_enter Tryz.func74, Tryz.ntmps74
  go_wp2
  rw [← hW1]
  clear hW1
  go_region_held3 (fun w' => w'.cell? ⟨pg, po + 2, none⟩ = some (.pointer (some ⟨ba, 0, none⟩)) ∧ w'.cell? ⟨W.heap.size, 4, none⟩ = some (.string xs)) (((repeat' constructor) <;> first | assumption | (rw [World.cell?_drew]; assumption))) (first | (go_at_call 27; refine HG.out.mono ?_; rintro e W2 ⟨rfl, H2⟩; have c22 : W2.cell? ⟨pg, po + 2, none⟩ = some (.pointer (some ⟨ba, 0, none⟩)) := (H7.out W2 H2.out.2).1; have b42 : W2.cell? ⟨W.heap.size, 4, none⟩ = some (.string xs) := (H7.out W2 H2.out.2).2.2.1; have b52 : W2.cell? ⟨W.heap.size, 5, none⟩ = some (.string xt) := (H7.out W2 H2.out.2).2.2.2.1))
  have HQQ : Hid (Calls Tryz.prog 122 #[.slice ao n cp, .string xs] W2.drew fun e w' => ∃ ao n cp, e = .returned (.tuple #[.slice ao n cp, .int .i64 c]) ∧ Hid (TreeR w' (fun g => (Sb g ∧ g ≠ bb) ∨ W2.heap.size ≤ g) (.slice ao n cp) T' ∧ Same (fun g => Sb g ∧ g ≠ bb) W2 w')) := HQ.out W2 (H7.out W2 H2.out.2).2.2.2.2.2.1
  have c32 : W2.cell? ⟨pg, po + 3, none⟩ = some (.pointer (some ⟨bb, 0, none⟩)) := (H7.out W2 H2.out.2).2.1
  have c72 : W2.cell? ⟨bb, 7, none⟩ = some (.slice ao n cp) := (H7.out W2 H2.out.2).2.2.2.2.1
  have f72 : W2.frozen? ⟨bb, 7, none⟩ = false := (H7.out W2 H2.out.2).2.2.2.2.2.2
  have c7d : W2.drew.cell? ⟨bb, 7, none⟩ = some (.slice ao n cp) := by rw [World.cell?_drew]; exact c72
  have HC2 : Hid (∀ V, Same (fun g => Sb g ∧ g ≠ bb) W2 V → V.cell? ⟨pg, po + 3, none⟩ = some (.pointer (some ⟨bb, 0, none⟩)) ∧ V.cell? ⟨W.heap.size, 4, none⟩ = some (.string xs) ∧ V.cell? ⟨bb, 7, none⟩ = some (.slice ao n cp) ∧ V.frozen? ⟨bb, 7, none⟩ = false) := fun V hs => by
    have e : V.heap[bb]? = W2.heap[bb]? := hs.block bb (block_lt_of_cell c72) (fun h => h.2 rfl)
    refine ⟨hs.cell (fun h => HP.out.1 h.1) c32, hs.cell (fun h => HP.out.2.1 h.1) b42, hs.cell (fun h => h.2 rfl) c72, ?_⟩
    rw [← f72]
    unfold World.frozen?
    rw [e]
  clear HQ HG H7 c22 b4 b5 c2 f72 c72
  go_wp2
  refine wp_region_held_drew (S := (fun w' => w'.cell? ⟨pg, po + 3, none⟩ = some (.pointer (some ⟨bb, 0, none⟩)) ∧ w'.cell? ⟨W.heap.size, 4, none⟩ = some (.string xs))) (by kernel_rfl) ⟨by rw [World.cell?_drew]; exact c32, by rw [World.cell?_drew]; exact b42⟩ (fun hHeld => ?_)
  refine wpAnyH_take (i := 0) (oi := ⟨some 53, _, _, _, _, _⟩) (v := .pointer (some ⟨pg, po, none⟩)) rfl (by kernel_rfl) (by kernel_rfl) (by kernel_rfl) (fun _ _ _ h => h) (Or.inl ⟨by rfl, ?_⟩) hHeld ?_
  · intro w hSw
    obtain ⟨hs1, hs2⟩ := hSw
    go_simp
  simp only [Act.put, List.setIfInBounds_toArray, List.set_cons_zero, List.set_cons_succ]
  refine wpAnyH_take (i := 1) (oi := ⟨some 54, _, _, _, _, _⟩) (v := .pointer (some ⟨pg, po, none⟩)) rfl (by kernel_rfl) (by kernel_rfl) (by kernel_rfl) (fun _ _ _ h => h) (Or.inl ⟨by rfl, ?_⟩) hHeld ?_
  · intro w hSw
    obtain ⟨hs1, hs2⟩ := hSw
    go_simp
  simp only [Act.put, List.setIfInBounds_toArray, List.set_cons_zero, List.set_cons_succ]
  refine wpAnyH_take (i := 2) (oi := ⟨some 55, _, _, _, _, _⟩) (v := .pointer (some ⟨pg, po + 3, none⟩)) rfl (by kernel_rfl) (by kernel_rfl) (by kernel_rfl) (fun _ _ _ h => h) (Or.inl ⟨by rfl, ?_⟩) hHeld ?_
  · intro w hSw
    obtain ⟨hs1, hs2⟩ := hSw
    go_simp
  simp only [Act.put, List.setIfInBounds_toArray, List.set_cons_zero, List.set_cons_succ]
  refine wpAnyH_take (i := 3) (oi := ⟨some 56, _, _, _, _, _⟩) (v := .pointer (some ⟨bb, 0, none⟩)) rfl (by kernel_rfl) (by kernel_rfl) (by kernel_rfl) (fun _ _ _ h => h) (Or.inl ⟨by rfl, ?_⟩) hHeld ?_
  · intro w hSw
    obtain ⟨hs1, hs2⟩ := hSw
    go_simp
  simp only [Act.put, List.setIfInBounds_toArray, List.set_cons_zero, List.set_cons_succ]
  refine wpAnyH_take (i := 4) (oi := ⟨some 57, _, _, _, _, _⟩) (v := .pointer (some ⟨pg, po, none⟩)) rfl (by kernel_rfl) (by kernel_rfl) (by kernel_rfl) (fun _ _ _ h => h) (Or.inl ⟨by rfl, ?_⟩) hHeld ?_
  · intro w hSw
    obtain ⟨hs1, hs2⟩ := hSw
    go_simp
  simp only [Act.put, List.setIfInBounds_toArray, List.set_cons_zero, List.set_cons_succ]
  refine wpAnyH_take (i := 5) (oi := ⟨some 58, _, _, _, _, _⟩) (v := .pointer (some ⟨pg, po, none⟩)) rfl (by kernel_rfl) (by kernel_rfl) (by kernel_rfl) (fun _ _ _ h => h) (Or.inl ⟨by rfl, ?_⟩) hHeld ?_
  · intro w hSw
    obtain ⟨hs1, hs2⟩ := hSw
    go_simp
  simp only [Act.put, List.setIfInBounds_toArray, List.set_cons_zero, List.set_cons_succ]
  refine wpAnyH_take (i := 6) (oi := ⟨some 59, _, _, _, _, _⟩) (v := .pointer (some ⟨pg, po + 3, none⟩)) rfl (by kernel_rfl) (by kernel_rfl) (by kernel_rfl) (fun _ _ _ h => h) (Or.inl ⟨by rfl, ?_⟩) hHeld ?_
  · intro w hSw
    obtain ⟨hs1, hs2⟩ := hSw
    go_simp
  simp only [Act.put, List.setIfInBounds_toArray, List.set_cons_zero, List.set_cons_succ]
  refine wpAnyH_take (i := 7) (oi := ⟨some 60, _, _, _, _, _⟩) (v := .pointer (some ⟨bb, 0, none⟩)) rfl (by kernel_rfl) (by kernel_rfl) (by kernel_rfl) (fun _ _ _ h => h) (Or.inl ⟨by rfl, ?_⟩) hHeld ?_
  · intro w hSw
    obtain ⟨hs1, hs2⟩ := hSw
    go_simp
  simp only [Act.put, List.setIfInBounds_toArray, List.set_cons_zero, List.set_cons_succ]
  refine wpAnyH_take (i := 8) (oi := ⟨some 61, _, _, _, _, _⟩) (v := .pointer (some ⟨bb, 0, none⟩)) rfl (by kernel_rfl) (by kernel_rfl) (by kernel_rfl) (fun _ _ _ h => h) (Or.inl ⟨by rfl, ?_⟩) hHeld ?_
  · intro w hSw
    obtain ⟨hs1, hs2⟩ := hSw
    go_simp
  simp only [Act.put, List.setIfInBounds_toArray, List.set_cons_zero, List.set_cons_succ]
  refine wpAnyH_take (i := 9) (oi := ⟨some 62, _, _, _, _, _⟩) (v := .pointer (some ⟨bb, 7, none⟩)) rfl (by kernel_rfl) (by kernel_rfl) (by kernel_rfl) (fun _ _ _ h => h) (Or.inl ⟨by rfl, ?_⟩) hHeld ?_
  · intro w hSw
    obtain ⟨hs1, hs2⟩ := hSw
    go_simp
  simp only [Act.put, List.setIfInBounds_toArray, List.set_cons_zero, List.set_cons_succ]
  refine wpAnyH_take (i := 11) (oi := ⟨some 64, _, _, _, _, _⟩) (v := .pointer (some ⟨W.heap.size, 4, none⟩)) rfl (by kernel_rfl) (by kernel_rfl) (by kernel_rfl) (fun _ _ _ h => h) (Or.inl ⟨by rfl, ?_⟩) hHeld ?_
  · intro w hSw
    obtain ⟨hs1, hs2⟩ := hSw
    go_simp
  simp only [Act.put, List.setIfInBounds_toArray, List.set_cons_zero, List.set_cons_succ]
  refine wpAnyH_take (i := 12) (oi := ⟨some 65, _, _, _, _, _⟩) (v := .string xs) rfl (by kernel_rfl) (by kernel_rfl) (by kernel_rfl) (fun _ _ _ h => h) (Or.inl ⟨by rfl, ?_⟩) hHeld ?_
  · intro w hSw
    obtain ⟨hs1, hs2⟩ := hSw
    go_simp
  simp only [Act.put, List.setIfInBounds_toArray, List.set_cons_zero, List.set_cons_succ]
  refine wpAnyH_ready (rs := [10]) (by kernel_rfl) (by simp) (AllReadyH.cons (o := ⟨some 63, _, _, _, _, _⟩) rfl (fun K hK => ?_) AllReadyH.nil)
  go_simp
  refine hK.out _ _ hHeld (fun _ => ?_)
  clear hK K
  refine wpAnyH_ready (rs := [13]) (by kernel_rfl) (by simp) (AllReadyH.cons (o := ⟨some 66, _, _, _, _, _⟩) rfl (fun K hK => ?_) AllReadyH.nil)
  go_simp
  refine HQQ.out.mono ?_
  rintro e W3 ⟨ao3, n3, cp3, rfl, H3⟩
  go_wp2_with fail
  have c33 : W3.cell? ⟨pg, po + 3, none⟩ = some (.pointer (some ⟨bb, 0, none⟩)) := (HC2.out W3 H3.out.2).1
  have b43 : W3.cell? ⟨W.heap.size, 4, none⟩ = some (.string xs) := (HC2.out W3 H3.out.2).2.1
  have c73 : W3.cell? ⟨bb, 7, none⟩ = some (.slice ao n cp) := (HC2.out W3 H3.out.2).2.2.1
  have f73 : W3.frozen? ⟨bb, 7, none⟩ = false := (HC2.out W3 H3.out.2).2.2.2
  clear hHeld
  refine hK.out _ _ ⟨c33, b43⟩ (fun hHeld => ?_)
  clear hK K
  refine wpAnyH_take (i := 14) (oi := ⟨some 52, _, _, _, _, _⟩) (v := .tuple #[.slice ao3 n3 cp3, .int .i64 c]) rfl (by kernel_rfl) (by kernel_rfl) (by kernel_rfl) (fun _ _ _ h => h) (Or.inl ⟨by rfl, ?_⟩) hHeld ?_
  · intro w hSw
    obtain ⟨hs1, hs2⟩ := hSw
    go_simp
  simp only [Act.put, List.setIfInBounds_toArray, List.set_cons_zero, List.set_cons_succ]
  refine wpAnyH_take (i := 15) (oi := ⟨some 67, _, _, _, _, _⟩) (v := .slice ao3 n3 cp3) rfl (by kernel_rfl) (by kernel_rfl) (by kernel_rfl) (fun _ _ _ h => h) (Or.inl ⟨by rfl, ?_⟩) hHeld ?_
  · intro w hSw
    obtain ⟨hs1, hs2⟩ := hSw
    go_simp
  simp only [Act.put, List.setIfInBounds_toArray, List.set_cons_zero, List.set_cons_succ]
  refine wpAnyH_take (i := 16) (oi := ⟨some 68, _, _, _, _, _⟩) (v := .int .i64 c) rfl (by kernel_rfl) (by kernel_rfl) (by kernel_rfl) (fun _ _ _ h => h) (Or.inl ⟨by rfl, ?_⟩) hHeld ?_
  · intro w hSw
    obtain ⟨hs1, hs2⟩ := hSw
    go_simp
  simp only [Act.put, List.setIfInBounds_toArray, List.set_cons_zero, List.set_cons_succ]
  refine wpAnyH_take (i := 17) (oi := ⟨some 69, _, _, _, _, _⟩) (v := .pointer (some ⟨bb, 0, none⟩)) rfl (by kernel_rfl) (by kernel_rfl) (by kernel_rfl) (fun _ _ _ h => h) (Or.inl ⟨by rfl, ?_⟩) hHeld ?_
  · intro w hSw
    obtain ⟨hs1, hs2⟩ := hSw
    go_simp
  simp only [Act.put, List.setIfInBounds_toArray, List.set_cons_zero, List.set_cons_succ]
  refine wpAnyH_take (i := 18) (oi := ⟨some 70, _, _, _, _, _⟩) (v := .pointer (some ⟨bb, 7, none⟩)) rfl (by kernel_rfl) (by kernel_rfl) (by kernel_rfl) (fun _ _ _ h => h) (Or.inl ⟨by rfl, ?_⟩) hHeld ?_
  · intro w hSw
    obtain ⟨hs1, hs2⟩ := hSw
    go_simp
  simp only [Act.put, List.setIfInBounds_toArray, List.set_cons_zero, List.set_cons_succ]
  refine wpAnyH_ready (rs := [19]) (by kernel_rfl) (by simp) (AllReadyH.cons (o := ⟨none, _, _, _, _, _⟩) rfl (fun K hK => ?_) AllReadyH.nil)
  go_simp
  clear hHeld
  refine hK.out _ _ ⟨by rw [World.cell?_setCell_far _ _ _ _ HNE.out.1]; exact c33, by rw [World.cell?_setCell_far _ _ _ _ HNE.out.2]; exact b43⟩ (fun hHeld => ?_)
  clear hK K
  refine wpAnyH_take (i := 20) (oi := ⟨some 8, _, _, _, _, _⟩) (v := .int .i64 c) rfl (by kernel_rfl) (by kernel_rfl) (by kernel_rfl) (fun _ _ _ h => h) (Or.inl ⟨by rfl, ?_⟩) hHeld ?_
  · intro w hSw
    obtain ⟨hs1, hs2⟩ := hSw
    go_simp
  simp only [Act.put, List.setIfInBounds_toArray, List.set_cons_zero, List.set_cons_succ]
  refine wpAnyH_done (by kernel_rfl) ?_ _
  go_wp2
  go_ret
  exact ⟨rfl, HE.out W2 W3 _ H2.out.1 H2.out.2 H3.out.1 H3.out.2⟩
end Go.Proofs.YtapijhhmjjplmaaGreatDoor
namespace Go.Proofs.YtapijhhmjjplmaaGreatDoor
open Go.RowKit Go.Maps
set_option maxRecDepth 100000 in
set_option maxHeartbeats 4000000 in
theorem ltree_remove (w0 W : World) (a : Nat → Addr) (mx : Int) (V0 : Vars w0 a mx) (bw pg po ba bb bd : Nat) (Sa Sb : Nat → Prop) (tv : Value) (T : Tre) (x : Stp) (hk : x.kind = 16) (hxs : x.s.size ≤ 262144) (H : Arcs W pg po ba bb bd Sa Sb tv T) (hb0 : Below w0.heap.size w0 W) (hlo : ∀ g, Sa g ∨ Sb g → w0.heap.size ≤ g) (hhi : ∀ g, Sa g ∨ Sb g → g < W.heap.size) (hdj : ∀ g, Sa g → ¬ Sb g) (hpg : ¬ Sa pg ∧ ¬ Sb pg) :
    Calls Tryz.prog 74 #[.pointer (some ⟨bw, 0, none⟩), .pointer (some ⟨pg, po, none⟩), stpV x] W fun e W' => e = .returned (.bool true) ∧ TreeL W pg po ba bb bd Sa Sb (treeP T (removeT T) x.s) W' := by
  obtain ⟨kd, xa, xb, xd, xs, xt⟩ := x
  simp only at hk hxs
  subst hk
  obtain ⟨W1, hW1⟩ : ∃ W1, W1 = W.alloc (.cells #[.int .i64 16, .int .i64 xa, .int .i64 xb, .int .i64 xd, .string xs, .string xt] 67) := ⟨_, rfl⟩
  have hb1 : Below W.heap.size W W1 := by rw [hW1]; exact (Below.refl _ _).alloc (Nat.le_refl _) _
  have H1 := H.below hb1
  have b4 : W1.cell? ⟨W.heap.size, 4, none⟩ = some (.string xs) := by rw [hW1]; simp
  have b5 : W1.cell? ⟨W.heap.size, 5, none⟩ = some (.string xt) := by rw [hW1]; simp
  have c2 := H1.p2
  obtain ⟨T', hT'⟩ : ∃ T', T' = treeP T (removeT T) xs := ⟨_, rfl⟩
  obtain ⟨c, hc⟩ : ∃ c : Int, c = (codeP (removeE T) xs : Nat) := ⟨_, rfl⟩
  have HW : Hid (WFT T') := by rw [hT']; exact wf_remove H.wf xs
  have hb01 : Below w0.heap.size w0 W1.drew := hb0.trans ⟨hb1.os, hb1.tape, hb1.output, hb1.size, fun k hk => hb1.block k (Nat.lt_of_lt_of_le hk hb0.size)⟩
  have HG : Hid (Calls Tryz.prog 56 #[.pointer (some ⟨ba, 0, none⟩), .string xs] W1.drew fun e w' => e = .returned (.int .i64 c) ∧ Hid (ArcP w' (fun g => Sa g ∨ W1.heap.size ≤ g) ba bd T' ∧ Same Sa W1 w')) := by
    rw [hT', hc]
    refine Calls.mono (plain_remove w0 a mx V0 ba bd Sa T xs W1.drew (H1.arc.on (Same.refl (fun _ => False) W1).drew (fun _ _ h => h)) H1.wf hb01 (fun g h => hlo g (.inl h)) hxs) ?_
    rintro e w' ⟨rfl, h1, h2⟩
    exact ⟨rfl, h1, ⟨h2.os, h2.tape, h2.output, h2.size, h2.block⟩⟩
  have HQ : Hid (∀ V, TreeR V (fun g => Sb g ∧ g ≠ bb) tv T → Calls Tryz.prog 123 #[tv, .string xs] V.drew fun e w' => ∃ ao n cp, e = .returned (.tuple #[.slice ao n cp, .int .i64 c]) ∧ Hid (TreeR w' (fun g => (Sb g ∧ g ≠ bb) ∨ V.heap.size ≤ g) (.slice ao n cp) T' ∧ Same (fun g => Sb g ∧ g ≠ bb) V w')) := fun V hV => by
    rw [hT', hc]
    refine Calls.mono (ref_remove _ tv T xs V.drew (OwnS.on hV (Same.refl (fun _ => False) V).drew (fun _ _ h => h)) H1.wf hxs) ?_
    rintro e w' ⟨v, rfl, h1, h2⟩
    obtain ⟨ao, cp, rfl⟩ := own_shape h1
    exact ⟨ao, _, cp, rfl, h1, ⟨h2.os, h2.tape, h2.output, h2.size, h2.block⟩⟩
  obtain ⟨ao, cp, rfl⟩ := own_shape H.tree
  obtain ⟨n, hn⟩ : ∃ n, n = T.length := ⟨_, rfl⟩
  have H7 : Hid (∀ V, Same Sa W1 V → V.cell? ⟨pg, po + 2, none⟩ = some (.pointer (some ⟨ba, 0, none⟩)) ∧ V.cell? ⟨pg, po + 3, none⟩ = some (.pointer (some ⟨bb, 0, none⟩)) ∧ V.cell? ⟨W.heap.size, 4, none⟩ = some (.string xs) ∧ V.cell? ⟨W.heap.size, 5, none⟩ = some (.string xt) ∧ V.cell? ⟨bb, 7, none⟩ = some (.slice ao n cp) ∧ TreeR V (fun g => Sb g ∧ g ≠ bb) (.slice ao n cp) T ∧ V.frozen? ⟨bb, 7, none⟩ = false) := fun V hs => by
    have nb : ¬ Sa bb := fun h => hdj bb h H.sb
    have nx : ¬ Sa W.heap.size := fun h => Nat.lt_irrefl _ (hhi _ (.inl h))
    obtain ⟨bm, be, k, hr⟩ := H1.row
    rw [hn]
    refine ⟨hs.cell hpg.1 H1.p2, hs.cell hpg.1 H1.p3, hs.cell nx b4, hs.cell nx b5, hs.cell nb H1.c7, OwnS.on H1.tree hs (fun g hg h => hdj g h (H1.tree.2 g hg).1), frozen_of_row V bb 7 _ _ ((hs.block bb (lt_of_heap' hr) nb).trans hr)⟩
  have HE : Hid (∀ W2 W3 v, ArcP W2 (fun g => Sa g ∨ W1.heap.size ≤ g) ba bd T' → Same Sa W1 W2 → TreeR W3 (fun g => (Sb g ∧ g ≠ bb) ∨ W2.heap.size ≤ g) v T' → Same (fun g => Sb g ∧ g ≠ bb) W2 W3 → TreeL W pg po ba bb bd Sa Sb T' (W3.setCell ⟨bb, 7, none⟩ v)) := fun W2 W3 v h1 h2 h3 h4 => H.turn hb1 h1 h2 h3 h4 HW.out hhi hdj hpg
  have HNE : Hid ((⟨bb, 7, none⟩ : Addr).block ≠ (⟨pg, po + 3, none⟩ : Addr).block ∧ (⟨bb, 7, none⟩ : Addr).block ≠ (⟨W.heap.size, 4, none⟩ : Addr).block) := ⟨fun e => hpg.2 (by rw [← show bb = pg from e]; exact H.sb), fun e => Nat.lt_irrefl W.heap.size (by have := hhi bb (.inr H.sb); rw [show bb = W.heap.size from e] at this; exact this)⟩
  have HP : Hid (¬ Sb pg ∧ ¬ Sb W.heap.size ∧ bb < W.heap.size) := ⟨hpg.2, fun h => Nat.lt_irrefl _ (hhi _ (.inr h)), hhi bb (.inr H.sb)⟩
  rw [← hT']
  rw [← hn] at HQ
  clear H1 H V0 hb0 hb01 hb1 hlo hhi hdj hpg hT' hc hxs hn HW
  go_enter Tryz.func74, Tryz.ntmps74
  go_wp2
  rw [← hW1]
  clear hW1
  go_region_held3 (fun w' => w'.cell? ⟨pg, po + 2, none⟩ = some (.pointer (some ⟨ba, 0, none⟩)) ∧ w'.cell? ⟨W.heap.size, 4, none⟩ = some (.string xs)) (((repeat' constructor) <;> first | assumption | (rw [World.cell?_drew]; assumption))) (first | (go_at_call 56; refine HG.out.mono ?_; rintro e W2 ⟨rfl, H2⟩; have c22 : W2.cell? ⟨pg, po + 2, none⟩ = some (.pointer (some ⟨ba, 0, none⟩)) := (H7.out W2 H2.out.2).1; have b42 : W2.cell? ⟨W.heap.size, 4, none⟩ = some (.string xs) := (H7.out W2 H2.out.2).2.2.1; have b52 : W2.cell? ⟨W.heap.size, 5, none⟩ = some (.string xt) := (H7.out W2 H2.out.2).2.2.2.1))
  have HQQ : Hid (Calls Tryz.prog 123 #[.slice ao n cp, .string xs] W2.drew fun e w' => ∃ ao n cp, e = .returned (.tuple #[.slice ao n cp, .int .i64 c]) ∧ Hid (TreeR w' (fun g => (Sb g ∧ g ≠ bb) ∨ W2.heap.size ≤ g) (.slice ao n cp) T' ∧ Same (fun g => Sb g ∧ g ≠ bb) W2 w')) := HQ.out W2 (H7.out W2 H2.out.2).2.2.2.2.2.1
  have c32 : W2.cell? ⟨pg, po + 3, none⟩ = some (.pointer (some ⟨bb, 0, none⟩)) := (H7.out W2 H2.out.2).2.1
  have c72 : W2.cell? ⟨bb, 7, none⟩ = some (.slice ao n cp) := (H7.out W2 H2.out.2).2.2.2.2.1
  have f72 : W2.frozen? ⟨bb, 7, none⟩ = false := (H7.out W2 H2.out.2).2.2.2.2.2.2
  have c7d : W2.drew.cell? ⟨bb, 7, none⟩ = some (.slice ao n cp) := by rw [World.cell?_drew]; exact c72
  have HC2 : Hid (∀ V, Same (fun g => Sb g ∧ g ≠ bb) W2 V → V.cell? ⟨pg, po + 3, none⟩ = some (.pointer (some ⟨bb, 0, none⟩)) ∧ V.cell? ⟨W.heap.size, 4, none⟩ = some (.string xs) ∧ V.cell? ⟨bb, 7, none⟩ = some (.slice ao n cp) ∧ V.frozen? ⟨bb, 7, none⟩ = false) := fun V hs => by
    have e : V.heap[bb]? = W2.heap[bb]? := hs.block bb (block_lt_of_cell c72) (fun h => h.2 rfl)
    refine ⟨hs.cell (fun h => HP.out.1 h.1) c32, hs.cell (fun h => HP.out.2.1 h.1) b42, hs.cell (fun h => h.2 rfl) c72, ?_⟩
    rw [← f72]
    unfold World.frozen?
    rw [e]
  clear HQ HG H7 c22 b4 b5 c2 f72 c72
  go_wp2
  refine wp_region_held_drew (S := (fun w' => w'.cell? ⟨pg, po + 3, none⟩ = some (.pointer (some ⟨bb, 0, none⟩)) ∧ w'.cell? ⟨W.heap.size, 4, none⟩ = some (.string xs))) (by kernel_rfl) ⟨by rw [World.cell?_drew]; exact c32, by rw [World.cell?_drew]; exact b42⟩ (fun hHeld => ?_)
  refine wpAnyH_take (i := 0) (oi := ⟨some 81, _, _, _, _, _⟩) (v := .pointer (some ⟨pg, po, none⟩)) rfl (by kernel_rfl) (by kernel_rfl) (by kernel_rfl) (fun _ _ _ h => h) (Or.inl ⟨by rfl, ?_⟩) hHeld ?_
  · intro w hSw
    obtain ⟨hs1, hs2⟩ := hSw
    go_simp
  simp only [Act.put, List.setIfInBounds_toArray, List.set_cons_zero, List.set_cons_succ]
  refine wpAnyH_take (i := 1) (oi := ⟨some 82, _, _, _, _, _⟩) (v := .pointer (some ⟨pg, po, none⟩)) rfl (by kernel_rfl) (by kernel_rfl) (by kernel_rfl) (fun _ _ _ h => h) (Or.inl ⟨by rfl, ?_⟩) hHeld ?_
  · intro w hSw
    obtain ⟨hs1, hs2⟩ := hSw
    go_simp
  simp only [Act.put, List.setIfInBounds_toArray, List.set_cons_zero, List.set_cons_succ]
  refine wpAnyH_take (i := 2) (oi := ⟨some 83, _, _, _, _, _⟩) (v := .pointer (some ⟨pg, po + 3, none⟩)) rfl (by kernel_rfl) (by kernel_rfl) (by kernel_rfl) (fun _ _ _ h => h) (Or.inl ⟨by rfl, ?_⟩) hHeld ?_
  · intro w hSw
    obtain ⟨hs1, hs2⟩ := hSw
    go_simp
  simp only [Act.put, List.setIfInBounds_toArray, List.set_cons_zero, List.set_cons_succ]
  refine wpAnyH_take (i := 3) (oi := ⟨some 84, _, _, _, _, _⟩) (v := .pointer (some ⟨bb, 0, none⟩)) rfl (by kernel_rfl) (by kernel_rfl) (by kernel_rfl) (fun _ _ _ h => h) (Or.inl ⟨by rfl, ?_⟩) hHeld ?_
  · intro w hSw
    obtain ⟨hs1, hs2⟩ := hSw
    go_simp
  simp only [Act.put, List.setIfInBounds_toArray, List.set_cons_zero, List.set_cons_succ]
  refine wpAnyH_take (i := 4) (oi := ⟨some 85, _, _, _, _, _⟩) (v := .pointer (some ⟨pg, po, none⟩)) rfl (by kernel_rfl) (by kernel_rfl) (by kernel_rfl) (fun _ _ _ h => h) (Or.inl ⟨by rfl, ?_⟩) hHeld ?_
  · intro w hSw
    obtain ⟨hs1, hs2⟩ := hSw
    go_simp
  simp only [Act.put, List.setIfInBounds_toArray, List.set_cons_zero, List.set_cons_succ]
  refine wpAnyH_take (i := 5) (oi := ⟨some 86, _, _, _, _, _⟩) (v := .pointer (some ⟨pg, po, none⟩)) rfl (by kernel_rfl) (by kernel_rfl) (by kernel_rfl) (fun _ _ _ h => h) (Or.inl ⟨by rfl, ?_⟩) hHeld ?_
  · intro w hSw
    obtain ⟨hs1, hs2⟩ := hSw
    go_simp
  simp only [Act.put, List.setIfInBounds_toArray, List.set_cons_zero, List.set_cons_succ]
  refine wpAnyH_take (i := 6) (oi := ⟨some 87, _, _, _, _, _⟩) (v := .pointer (some ⟨pg, po + 3, none⟩)) rfl (by kernel_rfl) (by kernel_rfl) (by kernel_rfl) (fun _ _ _ h => h) (Or.inl ⟨by rfl, ?_⟩) hHeld ?_
  · intro w hSw
    obtain ⟨hs1, hs2⟩ := hSw
    go_simp
  simp only [Act.put, List.setIfInBounds_toArray, List.set_cons_zero, List.set_cons_succ]
  refine wpAnyH_take (i := 7) (oi := ⟨some 88, _, _, _, _, _⟩) (v := .pointer (some ⟨bb, 0, none⟩)) rfl (by kernel_rfl) (by kernel_rfl) (by kernel_rfl) (fun _ _ _ h => h) (Or.inl ⟨by rfl, ?_⟩) hHeld ?_
  · intro w hSw
    obtain ⟨hs1, hs2⟩ := hSw
    go_simp
  simp only [Act.put, List.setIfInBounds_toArray, List.set_cons_zero, List.set_cons_succ]
  refine wpAnyH_take (i := 8) (oi := ⟨some 89, _, _, _, _, _⟩) (v := .pointer (some ⟨bb, 0, none⟩)) rfl (by kernel_rfl) (by kernel_rfl) (by kernel_rfl) (fun _ _ _ h => h) (Or.inl ⟨by rfl, ?_⟩) hHeld ?_
  · intro w hSw
    obtain ⟨hs1, hs2⟩ := hSw
    go_simp
  simp only [Act.put, List.setIfInBounds_toArray, List.set_cons_zero, List.set_cons_succ]
  refine wpAnyH_take (i := 9) (oi := ⟨some 90, _, _, _, _, _⟩) (v := .pointer (some ⟨bb, 7, none⟩)) rfl (by kernel_rfl) (by kernel_rfl) (by kernel_rfl) (fun _ _ _ h => h) (Or.inl ⟨by rfl, ?_⟩) hHeld ?_
  · intro w hSw
    obtain ⟨hs1, hs2⟩ := hSw
    go_simp
  simp only [Act.put, List.setIfInBounds_toArray, List.set_cons_zero, List.set_cons_succ]
  refine wpAnyH_take (i := 11) (oi := ⟨some 92, _, _, _, _, _⟩) (v := .pointer (some ⟨W.heap.size, 4, none⟩)) rfl (by kernel_rfl) (by kernel_rfl) (by kernel_rfl) (fun _ _ _ h => h) (Or.inl ⟨by rfl, ?_⟩) hHeld ?_
  · intro w hSw
    obtain ⟨hs1, hs2⟩ := hSw
    go_simp
  simp only [Act.put, List.setIfInBounds_toArray, List.set_cons_zero, List.set_cons_succ]
  refine wpAnyH_take (i := 12) (oi := ⟨some 93, _, _, _, _, _⟩) (v := .string xs) rfl (by kernel_rfl) (by kernel_rfl) (by kernel_rfl) (fun _ _ _ h => h) (Or.inl ⟨by rfl, ?_⟩) hHeld ?_
  · intro w hSw
    obtain ⟨hs1, hs2⟩ := hSw
    go_simp
  simp only [Act.put, List.setIfInBounds_toArray, List.set_cons_zero, List.set_cons_succ]
  refine wpAnyH_ready (rs := [10]) (by kernel_rfl) (by simp) (AllReadyH.cons (o := ⟨some 91, _, _, _, _, _⟩) rfl (fun K hK => ?_) AllReadyH.nil)
  go_simp
  refine hK.out _ _ hHeld (fun _ => ?_)
  clear hK K
  refine wpAnyH_ready (rs := [13]) (by kernel_rfl) (by simp) (AllReadyH.cons (o := ⟨some 94, _, _, _, _, _⟩) rfl (fun K hK => ?_) AllReadyH.nil)
  go_simp
  refine HQQ.out.mono ?_
  rintro e W3 ⟨ao3, n3, cp3, rfl, H3⟩
  go_wp2_with fail
  have c33 : W3.cell? ⟨pg, po + 3, none⟩ = some (.pointer (some ⟨bb, 0, none⟩)) := (HC2.out W3 H3.out.2).1
  have b43 : W3.cell? ⟨W.heap.size, 4, none⟩ = some (.string xs) := (HC2.out W3 H3.out.2).2.1
  have c73 : W3.cell? ⟨bb, 7, none⟩ = some (.slice ao n cp) := (HC2.out W3 H3.out.2).2.2.1
  have f73 : W3.frozen? ⟨bb, 7, none⟩ = false := (HC2.out W3 H3.out.2).2.2.2
  clear hHeld
  refine hK.out _ _ ⟨c33, b43⟩ (fun hHeld => ?_)
  clear hK K
  refine wpAnyH_take (i := 14) (oi := ⟨some 80, _, _, _, _, _⟩) (v := .tuple #[.slice ao3 n3 cp3, .int .i64 c]) rfl (by kernel_rfl) (by kernel_rfl) (by kernel_rfl) (fun _ _ _ h => h) (Or.inl ⟨by rfl, ?_⟩) hHeld ?_
  · intro w hSw
    obtain ⟨hs1, hs2⟩ := hSw
    go_simp
  simp only [Act.put, List.setIfInBounds_toArray, List.set_cons_zero, List.set_cons_succ]
  refine wpAnyH_take (i := 15) (oi := ⟨some 95, _, _, _, _, _⟩) (v := .slice ao3 n3 cp3) rfl (by kernel_rfl) (by kernel_rfl) (by kernel_rfl) (fun _ _ _ h => h) (Or.inl ⟨by rfl, ?_⟩) hHeld ?_
  · intro w hSw
    obtain ⟨hs1, hs2⟩ := hSw
    go_simp
  simp only [Act.put, List.setIfInBounds_toArray, List.set_cons_zero, List.set_cons_succ]
  refine wpAnyH_take (i := 16) (oi := ⟨some 96, _, _, _, _, _⟩) (v := .int .i64 c) rfl (by kernel_rfl) (by kernel_rfl) (by kernel_rfl) (fun _ _ _ h => h) (Or.inl ⟨by rfl, ?_⟩) hHeld ?_
  · intro w hSw
    obtain ⟨hs1, hs2⟩ := hSw
    go_simp
  simp only [Act.put, List.setIfInBounds_toArray, List.set_cons_zero, List.set_cons_succ]
  refine wpAnyH_take (i := 17) (oi := ⟨some 97, _, _, _, _, _⟩) (v := .pointer (some ⟨bb, 0, none⟩)) rfl (by kernel_rfl) (by kernel_rfl) (by kernel_rfl) (fun _ _ _ h => h) (Or.inl ⟨by rfl, ?_⟩) hHeld ?_
  · intro w hSw
    obtain ⟨hs1, hs2⟩ := hSw
    go_simp
  simp only [Act.put, List.setIfInBounds_toArray, List.set_cons_zero, List.set_cons_succ]
  refine wpAnyH_take (i := 18) (oi := ⟨some 98, _, _, _, _, _⟩) (v := .pointer (some ⟨bb, 7, none⟩)) rfl (by kernel_rfl) (by kernel_rfl) (by kernel_rfl) (fun _ _ _ h => h) (Or.inl ⟨by rfl, ?_⟩) hHeld ?_
  · intro w hSw
    obtain ⟨hs1, hs2⟩ := hSw
    go_simp
  simp only [Act.put, List.setIfInBounds_toArray, List.set_cons_zero, List.set_cons_succ]
  refine wpAnyH_ready (rs := [19]) (by kernel_rfl) (by simp) (AllReadyH.cons (o := ⟨none, _, _, _, _, _⟩) rfl (fun K hK => ?_) AllReadyH.nil)
  go_simp
  clear hHeld
  refine hK.out _ _ ⟨by rw [World.cell?_setCell_far _ _ _ _ HNE.out.1]; exact c33, by rw [World.cell?_setCell_far _ _ _ _ HNE.out.2]; exact b43⟩ (fun hHeld => ?_)
  clear hK K
  refine wpAnyH_take (i := 20) (oi := ⟨some 8, _, _, _, _, _⟩) (v := .int .i64 c) rfl (by kernel_rfl) (by kernel_rfl) (by kernel_rfl) (fun _ _ _ h => h) (Or.inl ⟨by rfl, ?_⟩) hHeld ?_
  · intro w hSw
    obtain ⟨hs1, hs2⟩ := hSw
    go_simp
  simp only [Act.put, List.setIfInBounds_toArray, List.set_cons_zero, List.set_cons_succ]
  refine wpAnyH_done (by kernel_rfl) ?_ _
  go_wp2
  go_ret
  exact ⟨rfl, HE.out W2 W3 _ H2.out.1 H2.out.2 H3.out.1 H3.out.2⟩
end Go.Proofs.YtapijhhmjjplmaaGreatDoor
