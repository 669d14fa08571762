/- OWN TEXT: the steps of Sums. -/
import Derived.Test.YtapijhhmjjplmaaGreatDoorKSum
import Derived.Test.YtapijhhmjjplmaaGreatDoorPCrc
import Derived.Test.YtapijhhmjjplmaaGreatDoorRefCrc
import Derived.Test.YtapijhhmjjplmaaGreatDoorRefSum
import Derived.Test.YtapijhhmjjplmaaGreatDoorLits
import Derived.Test.YtapijhhmjjplmaaGreatDoorDoes
import Derived.Deep.RegionWith
namespace Go.Proofs.YtapijhhmjjplmaaGreatDoor
open Go.RowKit

theorem row_of_own {w : World} {B n : Nat} {e : TypeId} {v : Value} {l : List Nat} (h : w.ownsRow B e 1 v n (iv l)) (hn : 0 < n) : ∃ g cap, v = .slice (some ⟨g, 0, none⟩) n cap ∧ B ≤ g ∧ Row w g (ints l) := by
  obtain ⟨_, h | ⟨g, cap, cur, hv, hB, hg, _, _, _, htk⟩⟩ := h
  · omega
  · refine ⟨g, cap, hv, hB, e, cur.toList.drop (n * 1), ?_⟩
    have e1 : (ints l).map (Value.int .i64) = iv l := by simp [ints, iv]
    rw [e1, ← htk, List.take_append_drop]
    exact hg

/-- What the law's world holds ahead of every step of Sums. -/
def wRow (b : Nat) : Array Value := #[.pointer (some ⟨b, 0, none⟩), .slice none 0 0, .slice none 0 0, .slice none 0 0, .int .i64 0, .int .i64 262144]
structure SInv (w W : World) : Prop where
  below : Below w.heap.size w W
  ex : ∃ b gk ck gh ch, W.heap[w.heap.size]? = some (.cells (wRow b) 73 (0, 0)) ∧
    W.heap[b]? = some (.cells #[.slice (some ⟨gk, 0, none⟩) 64 ck, .slice (some ⟨gh, 0, none⟩) 8 ch] 142 (0, 0)) ∧ Row W gk (ints roundL) ∧ Row W gh (ints startL)
theorem lt_of_heap {W : World} {b : Nat} {o : Obj} (h : W.heap[b]? = some o) : b < W.heap.size := (Array.getElem?_eq_some_iff.1 h).1
theorem SInv.mono {w W W' : World} (h : SInv w W) (hb : Below W.heap.size W W') : SInv w W' := by
  obtain ⟨h1, b, gk, ck, gh, ch, h2, h3, h4, h5⟩ := h
  refine ⟨h1.trans (hb.mono h1.size), b, gk, ck, gh, ch, ?_, ?_, h4.on hb h4.lt, h5.on hb h5.lt⟩
  · rw [hb.block _ (lt_of_heap h2)]; exact h2
  · rw [hb.block _ (lt_of_heap h3)]; exact h3
theorem SInv.init {w w1 : World} {b : Nat} {kv hv : Value} (M : Made (w.alloc (.cells freshW 73)) w1 b kv hv) : SInv w (w1.setCell ⟨w.heap.size, 0, none⟩ (.pointer (some ⟨b, 0, none⟩))) := by
  obtain ⟨gk, ck, rfl, hgk, rk⟩ := row_of_own M.ok (by omega)
  obtain ⟨gh, ch, rfl, hgh, rh⟩ := row_of_own M.oh (by omega)
  have hle := M.le
  simp at hle hgk hgh
  have h0 : w1.heap[w.heap.size]? = some (.cells freshW 73 (0, 0)) := by
    rw [M.below.block _ (by simp)]
    exact heap_alloc_new w _
  refine ⟨?_, b, gk, ck, gh, ch, ?_, ?_, ?_, ?_⟩
  · exact (((Below.refl _ _).alloc (Nat.le_refl _) _).trans (M.below.mono (by simp))).setCell (Nat.le_refl _) _
  · rw [heap_setCell_same w1 _ 0 _ _ _ h0]
    rfl
  · rw [heap_setCell_other _ _ _ _ (by show b ≠ w.heap.size; omega)]
    exact M.blk
  · rw [← kc_lit]
    exact rk.setOther _ (by show w.heap.size ≠ gk; omega) _
  · rw [← hc_lit]
    exact rh.setOther _ (by show w.heap.size ≠ gh; omega) _

theorem mem_bulk {l : List Stp} {x : Stp} (h : x ∈ l) : x.s.size ≤ bulk l := by
  induction l with
  | nil => cases h
  | cons y r ih =>
    have e : bulk (y :: r) = y.s.size + y.t.size + bulk r := by simp [bulk]
    rw [e]
    rcases List.mem_cons.1 h with rfl | h
    · omega
    · have := ih h; omega

/-- The program's two tables, as the walks want them. -/
structure Tabs (w : World) : Prop where
  start : ∃ tg fr, w.heap[13]? = some (.cells (u32s startL) tg fr)
  round : ∀ i, i < 64 → w.cell? ⟨14, i, none⟩ = some (.int .u32 (roundL.getD i 0 : Int))
theorem Tabs.on {w W : World} (h : Tabs w) (hb : Below w.heap.size w W) : Tabs W := by
  obtain ⟨⟨tg, fr, h1⟩, h2⟩ := h
  refine ⟨⟨tg, fr, ?_⟩, fun i hi => ?_⟩
  · rw [hb.block _ (lt_of_heap h1)]; exact h1
  · rw [hb.cell (block_lt_of_cell (h2 i hi))]; exact h2 i hi

set_option maxRecDepth 100000 in
set_option maxHeartbeats 1000000 in
theorem step_sum (w W : World) (x : Stp) (hk : x.kind = 1) (hs : x.s.size ≤ 300000) (T : Tabs w) (I : SInv w W) :
    Calls Tryz.prog 41 #[.pointer (some ⟨w.heap.size, 0, none⟩), stpV x] W fun e W' => e = .returned (.bool true) ∧ SInv w W' := by
  obtain ⟨k, a, b, d, s, t⟩ := x
  simp only at hk hs
  subst hk
  obtain ⟨r, hr⟩ : ∃ r, r = shaB roundL startL (bytesN s) := ⟨_, rfl⟩
  have HA : Hid (∀ V, SInv w V → Calls Tryz.prog 65 #[.string s] V fun e W' => e = .returned (.string ⟨r.toArray⟩) ∧ Hid (Below V.heap.size V W')) := fun V IV => by
    obtain ⟨tg, fr, h1⟩ := (T.on IV.below).start
    rw [hr]
    exact keepSum s roundL startL tg fr V hs rfl startL_lt roundL_lt h1 (T.on IV.below).round
  have HI : Hid (SInv w W) := I
  obtain ⟨-, bm, gk, ck, gh, ch, hw, hm, hgk, hgh⟩ := I
  have HB : Hid (∀ V, Below W.heap.size W V → Calls Tryz.prog 66 #[.pointer (some ⟨bm, 0, none⟩), .string s] V fun e W' => e = .returned (.string ⟨r.toArray⟩) ∧ Hid (Below V.heap.size V W')) := fun V hV => by
    have hm' : V.heap[bm]? = some (.cells #[.slice (some ⟨gk, 0, none⟩) 64 ck, .slice (some ⟨gh, 0, none⟩) 8 ch] 142 (0, 0)) := by rw [hV.block _ (lt_of_heap hm)]; exact hm
    rw [hr]
    exact refSum_any bm gk ck gh ch roundL startL s V (cell_of_row _ _ _ _ _ _ hm') (cell_of_row _ _ _ _ _ _ hm') (hgk.on hV hgk.lt) rfl roundL_lt (hgh.on hV hgh.lt) rfl startL_lt hs
  have HW : Hid (∀ V, Below W.heap.size W V → V.cell? ⟨w.heap.size, 0, none⟩ = some (.pointer (some ⟨bm, 0, none⟩))) := fun V hV => by
    have hw' : V.heap[w.heap.size]? = some (.cells (wRow bm) 73 (0, 0)) := by rw [hV.block _ (lt_of_heap hw)]; exact hw
    exact cell_of_row _ _ _ _ _ _ hw'
  have hWlt := lt_of_heap hw
  clear hr hw hm hgk hgh T
  go_enter Tryz.func41, Tryz.ntmps41
  go_wp2_with fail
  have hal := (Below.refl W.heap.size W).alloc (Nat.le_refl _) (.cells #[.int .i64 1, .int .i64 a, .int .i64 b, .int .i64 d, .string s, .string t] 67)
  refine (HA.out _ (HI.out.mono hal)).mono ?_
  rintro e W1 ⟨rfl, HB1⟩
  have hz := HB1.out.size
  have HV : Hid (Below W.heap.size W W1) := hal.trans (HB1.out.mono (by simp))
  have cw := HW.out W1 HV.out
  have cs : W1.cell? ⟨W.heap.size, 4, none⟩ = some (.string s) := by rw [HB1.out.cell (by simp)]; simp
  clear hal hz HA HB1
  go_wp2
  go_region_with (go_at_call 66; go_must (refine (HB.out _ (by first | exact HV.out | exact HV.out.drew | exact below_drewN' HV.out _)).mono ?_; rintro e W2 ⟨rfl, HB2⟩; have HV2 : Hid (Below W.heap.size W W2) := (by first | exact HV.out | exact HV.out.drew | exact below_drewN' HV.out _ : Below W.heap.size W _).trans (HB2.out.mono (by have := HV.out.size; simpa using this))))
  all_goals
    go_wp2
    go_ret
    exact ⟨rfl, HI.out.mono HV2.out⟩

set_option maxRecDepth 100000 in
set_option maxHeartbeats 1000000 in
theorem step_crc (w W : World) (x : Stp) (hk : x.kind = 2) (hs : x.s.size ≤ 300000) (I : SInv w W) :
    Calls Tryz.prog 41 #[.pointer (some ⟨w.heap.size, 0, none⟩), stpV x] W fun e W' => e = .returned (.bool true) ∧ SInv w W' := by
  obtain ⟨k, a, b, d, s, t⟩ := x
  simp only at hk hs
  subst hk
  obtain ⟨r, hr⟩ : ∃ r, r = crcN s.data.toList := ⟨_, rfl⟩
  have HA : Hid (∀ V, Calls Tryz.prog 67 #[.string s] V fun e W' => e = .returned (.int .i64 (r : Int)) ∧ Hid (Below V.heap.size V W')) := fun V => by
    rw [hr]
    exact plainCrc s V (by omega)
  have HB : Hid (∀ V, Calls Tryz.prog 68 #[.string s] V fun e W' => e = .returned (.int .i64 (r : Int)) ∧ V = W') := fun V => by
    rw [hr]
    exact refCrc s V (by omega)
  have HI : Hid (SInv w W) := I
  clear I hr
  go_enter Tryz.func41, Tryz.ntmps41
  go_wp2_with fail
  have hal := (Below.refl W.heap.size W).alloc (Nat.le_refl _) (.cells #[.int .i64 2, .int .i64 a, .int .i64 b, .int .i64 d, .string s, .string t] 67)
  refine (HA.out _).mono ?_
  rintro e W1 ⟨rfl, HB1⟩
  have HV : Hid (Below W.heap.size W W1) := hal.trans (HB1.out.mono (by simp))
  have cs : W1.cell? ⟨W.heap.size, 4, none⟩ = some (.string s) := by rw [HB1.out.cell (by simp)]; simp
  clear hal HA HB1
  go_wp2_with fail
  refine (HB.out _).mono ?_
  rintro e W2 ⟨rfl, rfl⟩
  go_wp2
  go_ret
  exact ⟨rfl, HI.out.mono HV.out⟩

theorem sums_steps (w : World) (l : List Stp) (hb : l.length + bulk l ≤ 262144) (T : Tabs w) : Steps w 6 l (SInv w) D6 where
  below := fun _ h => h.below
  left := fun W h => by
    obtain ⟨-, b, gk, ck, gh, ch, hw, -⟩ := h
    exact ⟨262144, cell_of_row _ _ _ _ _ _ hw⟩
  mono := fun _ _ h hb => h.mono hb
  init := fun _ _ _ _ M => SInv.init M
  does := fun x _ h1 h2 W => does6 x h1 h2 W
  step := fun x hx h1 h2 hd W I => by
    have hs := mem_bulk hx
    have hk : x.kind = 1 ∨ x.kind = 2 := by simpa [D6] using hd
    rcases hk with hk | hk
    · exact step_sum w W x hk (by omega) T I
    · exact step_crc w W x hk (by omega) I
  looks := fun W h => by
    have h' := h
    obtain ⟨-, b, gk, ck, gh, ch, hw, -⟩ := h
    refine (looks_nil w.heap.size W (cell_of_row _ _ _ _ _ _ hw)).mono ?_
    rintro e W' ⟨rfl, rfl⟩
    exact ⟨rfl, h'⟩

/-- Sums, whatever the script. -/
theorem sums_any (v : Value) (l : List Stp) (w : World) (hs : Scr w v l) (T : Tabs w) :
    Calls Tryz.prog 3 #[v] w fun e w' => e = .returned (.bool true) ∧ Below w.heap.size w w' := by
  have H := plays_of 6 6 false v l w hs (fun w1 hb h => ⟨SInv w1, D6, sums_steps w1 l h (T.on hb)⟩)
  have HH : Hid (Calls Tryz.prog 13 #[v, .int .i64 6, .int .i64 6, .bool false] w fun e w' => PlaysPost w e w') := H
  clear H
  go_enter Tryz.func3, Tryz.ntmps3
  go_wp2_with fail
  refine HH.out.mono ?_
  rintro e w1 ⟨rfl, hb⟩
  have HB : Hid (Below w.heap.size w w1) := hb
  clear hb
  go_wp2
  go_ret
  exact ⟨rfl, HB.out⟩
end Go.Proofs.YtapijhhmjjplmaaGreatDoor
