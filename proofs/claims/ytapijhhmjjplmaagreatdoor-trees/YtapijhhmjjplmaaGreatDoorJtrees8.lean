/- OWN TEXT: joined of: PF8 PF9 LT1 PT10 PT11 PT12 PT13 LT3 LT4. -/
import Derived.LaidEql
import Derived.Test.YtapijhhmjjplmaaGreatDoorJtrees7
namespace Go.Proofs.YtapijhhmjjplmaaGreatDoor
open Go.RowKit Go.Maps
theorem own_empty {w : World} {b : Nat} (h : w.heap[b]? = some (.map #[] 0)) : w.ownsMap Tryz.prog 9 heldR b 0 (.map []) := by
  have hb := lt_of_heap' h
  obtain ⟨W0, hW0⟩ : ∃ W0 : World, W0 = { w with heap := w.heap.extract 0 b } := ⟨_, rfl⟩
  have hs : W0.heap.size = b := by rw [hW0]; show (w.heap.extract 0 b).size = b; rw [Array.size_extract]; omega
  have h1 := World.ownsMap_made W0 Tryz.prog 9 heldR
  have h2 := heap_alloc_new W0 (.map #[] 0)
  rw [hs] at h1 h2
  exact ownsMap_heap h1 (by rw [h, h2])
/-- An empty tree. -/
theorem TreeM.new {w : World} {S : Nat → Prop} {rb : Nat} (h1 : w.heap[rb]? = some (.map #[] 0)) (h2 : w.heap[rb + 1]? = some (.cells #[.string ⟨#[]⟩, .map (some rb)] 274 (0, 0))) (s1 : S rb) (s2 : S (rb + 1)) : TreeM w S (rb + 1) [] (fun _ => rb + 1) (fun _ => rb) := by
  have hn : ∀ p, isNode [] p → p = [] := by
    rintro p (h | h)
    · exact h
    · exact absurd h (by unfold lookT; simp)
  refine ⟨rfl, fun _ _ => s2, fun p hp => ?_, fun _ _ _ => s1, fun p hp _ => ⟨.map [], (own_empty h1).mono (Nat.zero_le _), ⟨⟨[], rfl, by simp⟩, [], rfl, fun l d => ?_⟩⟩, fun p q hp hq _ => by rw [hn p hp, hn q hq], fun p q hp _ hq _ _ => by rw [hn p hp, hn q hq], fun _ _ _ _ _ => by omega⟩
  · have := hn p hp
    subst this
    exact h2
  · constructor
    · intro h; cases h
    · rintro ⟨k, -, h, -⟩
      exact absurd h (by unfold lookT; simp)
set_option maxRecDepth 100000 in
set_option maxHeartbeats 2000000 in
theorem prog_mount_no (a : Nat → Addr) (bd m n : Nat) (S : Nat → Prop) (d : Dsk) (w : World) (h : DskAt w S bd m d) (hn : 0 < n) (hb : n ≤ 4096) (h1 : d.safe.length = n) (hno : n < 4 ∨ d.at 0 (by omega) ≠ headS n) (hE : w.cell? ⟨2, 0, none⟩ = some (rv (a 2))) (hG : ¬ S 2) :
    Calls Tryz.prog 45 #[.pointer (some ⟨bd, 0, none⟩)] w fun e w' => e = .returned (.tuple #[.pointer none, errV a 3]) ∧ DskAt w' S bd m d ∧ Same S w w' := by
  have HH : Hid (DskAt w S bd m d) := h
  have HSC : Hid (Calls Tryz.prog 62 #[.pointer (some ⟨bd, 0, none⟩)] w fun e w' => e = .returned (.int .i64 (n : Int)) ∧ w = w') := by
    have := dsk_sectors bd m S d w h
    rw [h1] at this
    exact this
  have hnot : ∀ (x : Bool) (w : World), (Op.unary .not (.bool x)).run Tryz.prog w = .ok (.bool (!x)) w := fun _ _ => rfl
  by_cases h4 : n < 4
  · have h4i : (n : Int) < 4 := by omega
    clear h hno h1
    go_enter Tryz.func45, Tryz.ntmps45
    go_wp2_with (go_at_call 62; refine HSC.out.mono ?_; rintro e w2 ⟨rfl, rfl⟩; clear HSC)
    go_quiet (fail)
    go_wp2
    refine bodyPost_ret (results_tmp2 rfl _ _ _) rfl ?_
    exact ⟨rfl, HH.out.on (T := fun _ => False) ⟨rfl, rfl, rfl, Nat.le_refl _, fun _ _ _ => rfl⟩ (fun _ _ h => h), ⟨rfl, rfl, rfl, Nat.le_refl _, fun _ _ _ => rfl⟩⟩
  · have h4i : ¬ (n : Int) < 4 := by omega
    have HHH : Hid (Calls Tryz.prog 83 #[.pointer (some ⟨bd, 0, none⟩)] w fun e w' => e = .returned (.bool false) ∧ DskAt w' S bd m d ∧ Same S w w') := by
      have := prog_hasHead bd m n S d w h hn hb h1
      rw [decide_eq_false (by rcases hno with h | h; exact absurd h h4; exact h)] at this
      exact this
    clear h hno h1
    go_enter Tryz.func45, Tryz.ntmps45
    go_wp2_with (first | (go_at_call 62; refine HSC.out.mono ?_; rintro e w2 ⟨rfl, rfl⟩; clear HSC) | (go_at_call 83; refine HHH.out.mono ?_; rintro e w2 ⟨rfl, hd2, hs2⟩; have e2 := hs2.cell hG hE; have HD2 : Hid (DskAt w2 S bd m d ∧ Same S w w2) := ⟨hd2, hs2⟩; clear hd2 hs2 HHH))
    go_quiet (fail)
    go_wp2
    refine bodyPost_ret (results_tmp2 rfl _ _ _) rfl ?_
    obtain ⟨hd2, hs2⟩ := HD2.out
    exact ⟨rfl, hd2.on (T := fun _ => False) ⟨rfl, rfl, rfl, Nat.le_refl _, fun _ _ _ => rfl⟩ (fun _ _ h => h), hs2.trans ⟨rfl, rfl, rfl, Nat.le_refl _, fun _ _ _ => rfl⟩⟩
/-- With the first tip. -/
def arcY (bd c : Nat) : Array Value := #[.pointer (some ⟨bd, 0, none⟩), .pointer none, .int .i64 0, .slice none 0 0, .map none, .map none, .map none, .map none, .int .i64 1, .int .u32 0, .int .u32 (c : Int), .bool false, .int .u32 0, .int .i32 0, .int .u32 0, .int .u32 0, .int .u32 0, .int .u32 0, .int .u32 0, .int .u32 0, .int .u32 0, .int .u32 0, .int .u32 0, .int .u32 0, .int .u32 0, .int .u32 0, .int .u32 0, .int .u32 0, .int .u32 0, .int .u32 0, .int .u32 0]
/-- With what is known, and the root. -/
def arcX (bd c a1 a2 a3 a4 : Nat) (rv : Value) : Array Value := #[.pointer (some ⟨bd, 0, none⟩), rv, .int .i64 0, .slice none 0 0, .map (some a1), .map (some a2), .map (some a3), .map (some a4), .int .i64 1, .int .u32 0, .int .u32 (c : Int), .bool false, .int .u32 0, .int .i32 0, .int .u32 0, .int .u32 0, .int .u32 0, .int .u32 0, .int .u32 0, .int .u32 0, .int .u32 0, .int .u32 0, .int .u32 0, .int .u32 0, .int .u32 0, .int .u32 0, .int .u32 0, .int .u32 0, .int .u32 0, .int .u32 0, .int .u32 0]
def arcZ (bd : Nat) : Array Value := #[.pointer (some ⟨bd, 0, none⟩), .pointer none, .int .i64 0, .slice none 0 0, .map none, .map none, .map none, .map none, .int .i64 0, .int .u32 0, .int .u32 0, .bool false, .int .u32 0, .int .i32 0, .int .u32 0, .int .u32 0, .int .u32 0, .int .u32 0, .int .u32 0, .int .u32 0, .int .u32 0, .int .u32 0, .int .u32 0, .int .u32 0, .int .u32 0, .int .u32 0, .int .u32 0, .int .u32 0, .int .u32 0, .int .u32 0, .int .u32 0]
set_option maxRecDepth 100000 in
set_option maxHeartbeats 2000000 in
theorem prog_mount (a : Nat → Addr) (bd m n : Nat) (S : Nat → Prop) (d : Dsk) (w : World) (h : DskAt w S bd m d) (hn : 4 ≤ n) (hb : n ≤ 4096) (h1 : d.safe.length = n) (hx : d.at 0 (by omega) = headS n) (hz : d.at 1 (by omega) = z64) (h0 : (wipeD (n - 1) 1 d).2 = 0) (hE : w.cell? ⟨1, 0, none⟩ = some (rv (a 1))) (hG : ¬ S 1) (hf : d.fuse ≤ 9223372036854775807) (hwl : d.wait.length ≤ 800000) (hm : m ≤ 800000) (hSl : ∀ g, S g → g < w.heap.size) :
    Calls Tryz.prog 45 #[.pointer (some ⟨bd, 0, none⟩)] w fun e w' => ∃ ba, w.heap.size ≤ ba ∧ ∃ N, ba < N ∧ N ≤ w'.heap.size ∧ e = .returned (.tuple #[.pointer (some ⟨ba, 0, none⟩), .nilIface]) ∧ (∃ m', m' ≤ m + n ∧ DskAt w' (up S N) bd m' (wipeD (n - 1) 1 d).1) ∧ ArcP w' (fun g => w.heap.size ≤ g ∧ g < N) ba bd [] ∧ Same S w w' := by
  have HSC : Hid (Calls Tryz.prog 62 #[.pointer (some ⟨bd, 0, none⟩)] w fun e w' => e = .returned (.int .i64 (n : Int)) ∧ w = w') := by
    have := dsk_sectors bd m S d w h
    rw [h1] at this
    exact this
  have hnot : ∀ (x : Bool) (w : World), (Op.unary .not (.bool x)).run Tryz.prog w = .ok (.bool (!x)) w := fun _ _ => rfl
  have hmf : ∀ (fn : Fn) (first cap : Array Value) (w : World), (Instr.makeFunc fn first cap).run Tryz.prog w = .ok (.func fn first cap) w := fun _ _ _ _ => rfl
  have h4i : ¬ (n : Int) < 4 := by omega
  have HHH : Hid (Calls Tryz.prog 83 #[.pointer (some ⟨bd, 0, none⟩)] w fun e w' => e = .returned (.bool true) ∧ DskAt w' S bd m d ∧ Same S w w') := by
    have := prog_hasHead bd m n S d w h (by omega) hb h1
    rw [decide_eq_true hx] at this
    exact this
  have HNI : Hid (∀ w, Calls Tryz.prog 84 #[] w fun e w' => ∃ b a1 a2 a3 a4 a5, e = .returned (.pointer (some ⟨b, 0, none⟩)) ∧ Below w.heap.size w w' ∧ w.heap.size ≤ b ∧ w'.heap[b]? = some (.cells #[.map (some a1), .map (some a2), .map (some a3), .map (some a4), .slice none 0 0, .map (some a5)] 178 (0, 0))) := prog_newIntake
  have HER : Hid (∀ w2 (tv : Addr) (fn : Fn) (fa fc : Array Value), DskAt w2 S bd m d → w.heap.size ≤ w2.heap.size → Calls Tryz.prog 85 #[.pointer (some ⟨bd, 0, none⟩), .pointer (some tv), .func fn fa fc] w2 fun e w' => e = .returned (.agg #[.int .i64 1, .int .u32 0, .int .u32 (headC n : Int)]) ∧ DskAt w' S bd m d ∧ Same S w2 w') := fun w2 tv fn fa fc hd hs => prog_each0 bd m n S d tv fn fa fc w2 hd hn hb h1 hz (fun g hg => Nat.lt_of_lt_of_le (hSl g hg) hs)
  obtain ⟨c, hc⟩ : ∃ c, c = headC n := ⟨_, rfl⟩
  rw [← hc] at HER
  clear hc hx hz
  go_enter Tryz.func45, Tryz.ntmps45
  go_wp2_with (first | (go_at_call 62; refine HSC.out.mono ?_; rintro e w2 ⟨rfl, rfl⟩; clear HSC) | (go_at_call 83; refine HHH.out.mono ?_; rintro e w2 ⟨rfl, hd2, hs2⟩; have HD2 : Hid (DskAt w2 S bd m d ∧ Same S w w2) := ⟨hd2, hs2⟩; have hsz2 := hs2.size; clear hd2 hs2 HHH))
  refine (HNI.out _).mono ?_
  rintro e w3 ⟨bi, a1, a2, a3, a4, a5, rfl, hb3, hbi, hki⟩
  have hka : w3.heap[w2.heap.size]? = some (.cells (arcZ bd) 129 (0, 0)) := by
    rw [hb3.block _ (by simp)]
    exact heap_alloc_new w2 _
  have hsz3 : w2.heap.size + 1 ≤ w3.heap.size := by have := hb3.size; simp at this; exact this
  have hbi2 : w2.heap.size < bi := by simp at hbi; omega
  have HC3 := fun tv fn fa fc => HER.out w3 tv fn fa fc (HD2.out.1.on (T := fun _ => False) ((Same.alloc0 w2 _).trans (.of_below hb3)) (fun _ _ h => h)) (by omega)
  have HS3 : Hid (Same S w w3) := HD2.out.2.trans ((Same.alloc0 w2 _).trans (.of_below hb3))
  obtain ⟨ba, hba⟩ : ∃ ba, ba = w2.heap.size := ⟨_, rfl⟩
  rw [← hba] at hka hbi2 hsz3 ⊢
  have HB : Hid (w.heap.size ≤ ba ∧ ba < bi) := ⟨by omega, hbi2⟩
  have HK3 : Hid (w3.heap[ba]? = some (.cells (arcZ bd) 129 (0, 0)) ∧ w3.heap[bi]? = some (.cells #[.map (some a1), .map (some a2), .map (some a3), .map (some a4), .slice none 0 0, .map (some a5)] 178 (0, 0))) := ⟨hka, hki⟩
  have HPR : Hid (DskAt w S bd m d ∧ d.safe.length = n ∧ (wipeD (n - 1) 1 d).2 = 0 ∧ d.fuse ≤ 9223372036854775807 ∧ d.wait.length ≤ 800000 ∧ m ≤ 800000) := ⟨h, h1, h0, hf, hwl, hm⟩
  have HEG : Hid (w.cell? ⟨1, 0, none⟩ = some (rv (a 1)) ∧ ¬ S 1) := ⟨hE, hG⟩
  clear hb3 hbi hki hka hba HNI HER HD2 hsz2 h h1 h0 hf hwl hm hE hG hbi2 hsz3
  go_wp2_with fail
  refine (HC3 _ _ _ _).mono ?_
  rintro e w4 ⟨rfl, hd4, hs4⟩
  have hnb : ∀ g, w.heap.size ≤ g → ¬ S g := fun g hg h => by have := hSl g h; omega
  obtain ⟨l1, l2⟩ := HB.out
  have ka : w4.heap[ba]? = some (.cells (arcZ bd) 129 (0, 0)) := by rw [hs4.block _ (lt_of_heap' HK3.out.1) (hnb _ (by omega))]; exact HK3.out.1
  have ki : w4.heap[bi]? = some (.cells #[.map (some a1), .map (some a2), .map (some a3), .map (some a4), .slice none 0 0, .map (some a5)] 178 (0, 0)) := by rw [hs4.block _ (lt_of_heap' HK3.out.2) (hnb _ (by omega))]; exact HK3.out.2
  have c8 : w4.cell? ⟨ba, 8, none⟩ = some (.int .i64 0) := cell_of_row _ _ _ _ _ _ ka
  have c9 : w4.cell? ⟨ba, 9, none⟩ = some (.int .u32 0) := cell_of_row _ _ _ _ _ _ ka
  have c10 : w4.cell? ⟨ba, 10, none⟩ = some (.int .u32 0) := cell_of_row _ _ _ _ _ _ ka
  have f8 := frozen_of_row w4 ba 8 _ _ ka
  have f9 := frozen_of_row w4 ba 9 _ _ ka
  have f10 := frozen_of_row w4 ba 10 _ _ ka
  have HK4 : Hid (w4.heap[ba]? = some (.cells (arcZ bd) 129 (0, 0)) ∧ w4.heap[bi]? = some (.cells #[.map (some a1), .map (some a2), .map (some a3), .map (some a4), .slice none 0 0, .map (some a5)] 178 (0, 0)) ∧ DskAt w4 S bd m d ∧ Same S w w4) := ⟨ka, ki, hd4, HS3.out.trans hs4⟩
  clear ka ki hd4 hs4 HC3 HK3 HS3 l1 l2
  go_upto_region 5 with fail
  obtain ⟨w5, hw5⟩ : ∃ w5, w5 = ((w4.setCell ⟨ba, 8, none⟩ (.int .i64 1)).setCell ⟨ba, 9, none⟩ (.int .u32 0)).setCell ⟨ba, 10, none⟩ (.int .u32 (c : Int)) := ⟨_, rfl⟩
  rw [← hw5]
  obtain ⟨l1, l2⟩ := HB.out
  have HK5 : Hid (w5.heap[ba]? = some (.cells (arcY bd c) 129 (0, 0)) ∧ w5.heap[bi]? = some (.cells #[.map (some a1), .map (some a2), .map (some a3), .map (some a4), .slice none 0 0, .map (some a5)] 178 (0, 0)) ∧ DskAt w5 S bd m d ∧ Same S w w5) := by
    obtain ⟨ka, ki, hd4, hs4⟩ := HK4.out
    have hs5 : Same (· = ba) w4 w5 := by rw [hw5]; exact (((Same.refl (· = ba) w4).setCell ⟨ba, 8, none⟩ rfl _).setCell ⟨ba, 9, none⟩ rfl _).setCell ⟨ba, 10, none⟩ rfl _
    refine ⟨?_, ?_, hd4.on hs5 (fun g hg h => hnb g (by omega) hg), hs4.then (hs5.weak fun g h => .inr (by omega))⟩
    · rw [hw5, heap_setCell_same _ ba 10 _ _ _ (heap_setCell_same _ ba 9 _ _ _ (heap_setCell_same _ ba 8 _ _ _ ka))]
      rfl
    · rw [hs5.block _ (lt_of_heap' ki) (by omega)]
      exact ki
  obtain ⟨ka, ki, -, -⟩ := HK5.out
  have c3 : w5.cell? ⟨ba, 3, none⟩ = some (.slice none 0 0) := cell_of_row _ _ _ _ _ _ ka
  have c4 : w5.cell? ⟨ba, 4, none⟩ = some (.map none) := cell_of_row _ _ _ _ _ _ ka
  have c5 : w5.cell? ⟨ba, 5, none⟩ = some (.map none) := cell_of_row _ _ _ _ _ _ ka
  have c6 : w5.cell? ⟨ba, 6, none⟩ = some (.map none) := cell_of_row _ _ _ _ _ _ ka
  have c7 : w5.cell? ⟨ba, 7, none⟩ = some (.map none) := cell_of_row _ _ _ _ _ _ ka
  have f3 := frozen_of_row w5 ba 3 _ _ ka
  have f4 := frozen_of_row w5 ba 4 _ _ ka
  have f5 := frozen_of_row w5 ba 5 _ _ ka
  have f6 := frozen_of_row w5 ba 6 _ _ ka
  have f7 := frozen_of_row w5 ba 7 _ _ ka
  have i0 : w5.cell? ⟨bi, 0, none⟩ = some (.map (some a1)) := cell_of_row _ _ _ _ _ _ ki
  have i1 : w5.cell? ⟨bi, 1, none⟩ = some (.map (some a2)) := cell_of_row _ _ _ _ _ _ ki
  have i2 : w5.cell? ⟨bi, 2, none⟩ = some (.map (some a3)) := cell_of_row _ _ _ _ _ _ ki
  have i3 : w5.cell? ⟨bi, 3, none⟩ = some (.map (some a4)) := cell_of_row _ _ _ _ _ _ ki
  have i4 : w5.cell? ⟨bi, 4, none⟩ = some (.slice none 0 0) := cell_of_row _ _ _ _ _ _ ki
  have hne : bi ≠ ba := by omega
  have hne' : ba ≠ bi := by omega
  clear ka ki l1 l2 HK4 hw5 c8 c9 c10 f8 f9 f10
  go_big_region
  obtain ⟨w6, hw6⟩ : ∃ w6, w6 = (((((w5.setCell ⟨ba, 4, none⟩ (.map (some a1))).setCell ⟨ba, 5, none⟩ (.map (some a2))).setCell ⟨ba, 6, none⟩ (.map (some a3))).setCell ⟨ba, 7, none⟩ (.map (some a4))).setCell ⟨ba, 3, none⟩ (.slice none 0 0)).drew := ⟨_, rfl⟩
  rw [← hw6]
  obtain ⟨l1, l2⟩ := HB.out
  have HK6 : Hid (w6.heap[ba]? = some (.cells (arcX bd c a1 a2 a3 a4 (.pointer none)) 129 (0, 0)) ∧ DskAt w6 S bd m d ∧ Same S w w6) := by
    obtain ⟨ka, ki, hd5, hs5⟩ := HK5.out
    have hs6 : Same (· = ba) w5 w6 := by rw [hw6]; exact ((((((Same.refl (· = ba) w5).setCell ⟨ba, 4, none⟩ rfl _).setCell ⟨ba, 5, none⟩ rfl _).setCell ⟨ba, 6, none⟩ rfl _).setCell ⟨ba, 7, none⟩ rfl _).setCell ⟨ba, 3, none⟩ rfl _).drew
    refine ⟨?_, hd5.on hs6 (fun g hg h => hnb g (by omega) hg), hs5.then (hs6.weak fun g h => .inr (by omega))⟩
    rw [hw6]
    show ((((((w5.setCell ⟨ba, 4, none⟩ (.map (some a1))).setCell ⟨ba, 5, none⟩ (.map (some a2))).setCell ⟨ba, 6, none⟩ (.map (some a3))).setCell ⟨ba, 7, none⟩ (.map (some a4))).setCell ⟨ba, 3, none⟩ (.slice none 0 0))).heap[ba]? = _
    rw [heap_setCell_same _ ba 3 _ _ _ (heap_setCell_same _ ba 7 _ _ _ (heap_setCell_same _ ba 6 _ _ _ (heap_setCell_same _ ba 5 _ _ _ (heap_setCell_same _ ba 4 _ _ _ ka))))]
    rfl
  have c3' : w6.cell? ⟨ba, 3, none⟩ = some (.slice none 0 0) := cell_of_row _ _ _ _ _ _ HK6.out.1
  have HLT := prog_last0 ba w6 c3'
  clear c3 c4 c5 c6 c7 f3 f4 f5 f6 f7 i0 i1 i2 i3 i4 hne hne' HK5 hw6 l1 l2
  go_wp2_with fail
  refine HLT.mono ?_
  rintro e w7 ⟨rb, rfl, hb7, hrb, hm7, hn7⟩
  have HK7 : Hid (w7.heap[ba]? = some (.cells (arcX bd c a1 a2 a3 a4 (.pointer none)) 129 (0, 0)) ∧ DskAt w7 S bd m d ∧ Same S w w7 ∧ w6.heap.size ≤ rb ∧ w7.heap[rb]? = some (.map #[] 0) ∧ w7.heap[rb + 1]? = some (.cells #[.string ⟨#[]⟩, .map (some rb)] 274 (0, 0)) ∧ ba < w6.heap.size) := by
    obtain ⟨ka, hd6, hs6⟩ := HK6.out
    exact ⟨by rw [hb7.block _ (lt_of_heap' ka)]; exact ka, hd6.on (T := fun _ => False) (.of_below hb7) (fun _ _ h => h), hs6.trans (.of_below hb7), hrb, hm7, hn7, lt_of_heap' ka⟩
  clear HLT HK6 hb7 hrb hm7 hn7 c3'
  obtain ⟨ka, -, -, -, -, -, lb⟩ := HK7.out
  have l7 := lt_of_heap' ka
  have c1 : w7.cell? ⟨ba, 1, none⟩ = some (.pointer none) := cell_of_row _ _ _ _ _ _ ka
  have c2 : w7.cell? ⟨ba, 2, none⟩ = some (.int .i64 0) := cell_of_row _ _ _ _ _ _ ka
  have f1 := frozen_of_row w7 ba 1 _ _ ka
  have f2 := frozen_of_row w7 ba 2 _ _ ka
  have c8 : w7.cell? ⟨ba, 8, none⟩ = some (.int .i64 1) := cell_of_row _ _ _ _ _ _ ka
  have hnl : ∀ w, (binOp BinOp.neq 92 .nilIface .nilIface).run Tryz.prog w = .ok (.bool false) w := fun w => by rfl
  clear ka
  go_wp2_with fail
  obtain ⟨w8, hw8⟩ : ∃ w8, w8 = ((w7.setCell ⟨ba, 1, none⟩ (.pointer (some ⟨rb + 1, 0, none⟩))).setCell ⟨ba, 2, none⟩ (.int .i64 0)).alloc (.cells #[.pointer (some ⟨rb + 1, 0, none⟩), .int .i64 0] 113) := ⟨_, rfl⟩
  rw [← hw8]
  obtain ⟨l1, l2⟩ := HB.out
  have HK8 : Hid (w8.heap[ba]? = some (.cells (arcX bd c a1 a2 a3 a4 (.pointer (some ⟨rb + 1, 0, none⟩))) 129 (0, 0)) ∧ DskAt w8 S bd m d ∧ Same S w w8 ∧ ba < rb ∧ w8.heap[rb]? = some (.map #[] 0) ∧ w8.heap[rb + 1]? = some (.cells #[.string ⟨#[]⟩, .map (some rb)] 274 (0, 0))) := by
    obtain ⟨ka, hd7, hs7, hrb, hm7, hn7, lb⟩ := HK7.out
    have hs8 : Same (· = ba) w7 w8 := by rw [hw8]; exact (((Same.refl (· = ba) w7).setCell ⟨ba, 1, none⟩ rfl _).setCell ⟨ba, 2, none⟩ rfl _).alloc _
    have hl7 := lt_of_heap' ka
    refine ⟨?_, hd7.on hs8 (fun g hg h => hnb g (by omega) hg), hs7.then (hs8.weak fun g h => .inr (by omega)), by omega, ?_, ?_⟩
    · rw [hw8, heapOldI _ _ (by simp [World.setCell]; omega), heap_setCell_same _ ba 2 _ _ _ (heap_setCell_same _ ba 1 _ _ _ ka)]
      rfl
    · rw [hs8.block _ (lt_of_heap' hm7) (by omega)]; exact hm7
    · rw [hs8.block _ (lt_of_heap' hn7) (by omega)]; exact hn7
  have HWP : Hid (Calls Tryz.prog 80 #[.pointer (some ⟨bd, 0, none⟩), .int .i64 1] w8 fun e w' => e = .returned .nilIface ∧ (∃ m', m' ≤ m + n ∧ DskAt w' (tg S w8 w') bd m' (wipeD (n - 1) 1 d).1) ∧ Same S w8 w') := by
    obtain ⟨h, h1, h0, hf, hwl, hm⟩ := HPR.out
    obtain ⟨ka, hd8, hs8, -, -, -⟩ := HK8.out
    have := prog_wipe bd m S d n 1 (a 1) w8 hd8 (hs8.cell HEG.out.2 HEG.out.1) HEG.out.2 hf (by omega) hb h1 (by omega) (by omega) (by omega)
    rw [h0] at this
    exact this
  clear HK7 hw8 c1 c2 f1 f2 c8 lb l7 l1 l2 HPR
  refine HWP.out.mono ?_
  rintro e w9 ⟨rfl, hd9, hs9⟩
  have HK9 : Hid ((∃ m', m' ≤ m + n ∧ DskAt w9 (tg S w8 w9) bd m' (wipeD (n - 1) 1 d).1) ∧ Same S w8 w9) := ⟨hd9, hs9⟩
  clear hd9 hs9 HWP
  go_wp2
  refine bodyPost_ret (results_tmp2 rfl _ _ _) rfl ?_
  obtain ⟨ka, hd8, hs8, hrb, hm8, hn8⟩ := HK8.out
  obtain ⟨⟨m', hm', hd9⟩, hs9⟩ := HK9.out
  obtain ⟨l1, l2⟩ := HB.out
  have la := lt_of_heap' ka
  have lr := lt_of_heap' hm8
  have lr1 := lt_of_heap' hn8
  have ls9 := hs9.size
  refine ⟨ba, l1, rb + 2, by omega, by omega, rfl, ⟨m', hm', hd9.mono ?_⟩, ⟨arcX bd c a1 a2 a3 a4 (.pointer (some ⟨rb + 1, 0, none⟩)), rb + 1, fun _ => rb + 1, fun _ => rb, ?_⟩, hs8.trans hs9⟩
  · rintro g ⟨h | h, -⟩
    · exact .inl h
    · exact .inr (by omega)
  · refine ArcV.mk ?_ ⟨l1, by omega⟩ rfl rfl rfl (TreeM.new (rb := rb) ?_ ?_ ⟨⟨by omega, by omega⟩, by omega⟩ ⟨⟨by omega, by omega⟩, by omega⟩)
    · rw [hs9.block _ la (hnb _ (by omega))]; exact ka
    · rw [hs9.block _ lr (hnb _ (by omega))]; exact hm8
    · rw [hs9.block _ lr1 (hnb _ (by omega))]; exact hn8
end Go.Proofs.YtapijhhmjjplmaaGreatDoor
namespace Go.Proofs.YtapijhhmjjplmaaGreatDoor
open Go.RowKit Go.Maps
set_option maxRecDepth 100000 in
theorem plain_mount_no (w0 : World) (a : Nat → Addr) (S0 : Sent w0 a) (bd m n : Nat) (S : Nat → Prop) (d : Dsk) (w : World) (h : DskAt w S bd m d) (hb0 : Below w0.heap.size w0 w) (hS : ∀ g, S g → w0.heap.size ≤ g) (hn : 0 < n) (hb : n ≤ 4096) (h1 : d.safe.length = n) (hno : n < 4 ∨ d.at 0 (by omega) ≠ headS n) :
    Calls Tryz.prog 26 #[.pointer (some ⟨bd, 0, none⟩)] w fun e w' => e = .returned (.tuple #[.pointer none, .int .i64 3]) ∧ DskAt w' S bd m d ∧ Same S w w' := by
  have hG : ¬ S 2 := fun h => by
    have h1 := hS _ h
    have h2 := cell_lt S0.v2
    exact absurd h2 (by show ¬ 2 < _; omega)
  have HM : Hid (Calls Tryz.prog 45 #[.pointer (some ⟨bd, 0, none⟩)] w fun e w' => e = .returned (.tuple #[.pointer none, errV a 3]) ∧ DskAt w' S bd m d ∧ Same S w w') := prog_mount_no a bd m n S d w h hn hb h1 hno (S0.on hb0).v2 hG
  have HNB : Hid (∀ w', Same S w w' → Calls Tryz.prog 43 #[errV a 3] w' fun e w'' => e = .returned (.tuple #[.int .i64 3, .int .i64 (-1)]) ∧ Below w'.heap.size w' w'') := fun w' hs => number_of 3 (by omega) a w' (hs.sent S0 hb0 hS)
  obtain ⟨v, hv⟩ : ∃ v, v = errV a 3 := ⟨_, rfl⟩
  rw [← hv] at HM HNB
  clear hv h hno h1
  go_enter Tryz.func26, Tryz.ntmps26
  go_wp2_with (first | (go_at_call 45; refine HM.out.mono ?_; rintro e w1 ⟨rfl, hd1, hs1⟩; have HN1 := HNB.out w1 hs1; have HD1 : Hid (DskAt w1 S bd m d ∧ Same S w w1) := ⟨hd1, hs1⟩; clear hd1 hs1 HM HNB) | (go_at_call 43; refine HN1.mono ?_; rintro e w2 ⟨rfl, hb2⟩; have HB2 : Hid (Below w1.heap.size w1 w2) := hb2; clear hb2))
  refine bodyPost_ret (results_tmp2 rfl _ _ _) rfl ?_
  obtain ⟨hd1, hs1⟩ := HD1.out
  exact ⟨rfl, hd1.on (T := fun _ => False) (.of_below HB2.out) (fun _ _ h => h), hs1.trans (.of_below HB2.out)⟩
set_option maxRecDepth 100000 in
theorem plain_mount (w0 : World) (a : Nat → Addr) (S0 : Sent w0 a) (bd m n : Nat) (S : Nat → Prop) (d : Dsk) (w : World) (h : DskAt w S bd m d) (hb0 : Below w0.heap.size w0 w) (hS : ∀ g, S g → w0.heap.size ≤ g) (hn : 4 ≤ n) (hb : n ≤ 4096) (h1 : d.safe.length = n) (hx : d.at 0 (by omega) = headS n) (hz : d.at 1 (by omega) = z64) (h0 : (wipeD (n - 1) 1 d).2 = 0) (hf : d.fuse ≤ 9223372036854775807) (hwl : d.wait.length ≤ 800000) (hm : m ≤ 800000) (hSl : ∀ g, S g → g < w.heap.size) :
    Calls Tryz.prog 26 #[.pointer (some ⟨bd, 0, none⟩)] w fun e w' => ∃ ba, w.heap.size ≤ ba ∧ ∃ N, ba < N ∧ N ≤ w'.heap.size ∧ e = .returned (.tuple #[.pointer (some ⟨ba, 0, none⟩), .int .i64 0]) ∧ (∃ m', m' ≤ m + n ∧ DskAt w' (up S N) bd m' (wipeD (n - 1) 1 d).1) ∧ ArcP w' (fun g => w.heap.size ≤ g ∧ g < N) ba bd [] ∧ Same S w w' := by
  have hG : ¬ S 1 := fun h => by
    have h1 := hS _ h
    have h2 := cell_lt S0.v1
    exact absurd h2 (by show ¬ 1 < _; omega)
  have HM := prog_mount a bd m n S d w h hn hb h1 hx hz h0 (S0.on hb0).v1 hG hf hwl hm hSl
  have HNB : Hid (∀ w', Same S w w' → Calls Tryz.prog 43 #[.nilIface] w' fun e w'' => e = .returned (.tuple #[.int .i64 0, .int .i64 (-1)]) ∧ Below w'.heap.size w' w'') := fun w' hs => number_of 0 (by omega) a w' (hs.sent S0 hb0 hS)
  clear h h1 hx hz h0 hf hwl hm hSl
  go_enter Tryz.func26, Tryz.ntmps26
  go_wp2_with fail
  refine HM.mono ?_
  rintro e w1 ⟨ba, hba, N, hN, hNl, rfl, hd1, ha1, hs1⟩
  have HN1 := HNB.out w1 hs1
  have HD1 : Hid ((∃ m', m' ≤ m + n ∧ DskAt w1 (up S N) bd m' (wipeD (n - 1) 1 d).1) ∧ ArcP w1 (fun g => w.heap.size ≤ g ∧ g < N) ba bd [] ∧ Same S w w1) := ⟨hd1, ha1, hs1⟩
  clear hd1 hs1 ha1 HM HNB
  go_wp2_with (go_at_call 43; refine HN1.mono ?_; rintro e w2 ⟨rfl, hb2⟩; have HB2 : Hid (Below w1.heap.size w1 w2) := hb2; clear hb2)
  refine bodyPost_ret (results_tmp2 rfl _ _ _) rfl ?_
  obtain ⟨⟨m', hm', hd1⟩, ha1, hs1⟩ := HD1.out
  exact ⟨ba, hba, N, hN, Nat.le_trans hNl HB2.out.size, rfl, ⟨m', hm', hd1.on (T := fun _ => False) (.of_below HB2.out) (fun _ _ h => h)⟩, ha1.on (U := fun _ => False) (.of_below HB2.out) (fun _ _ h => h), hs1.trans (.of_below HB2.out)⟩
/-- A disk of n sectors on which nothing is kept: formatted, or as it was made. -/
def secs0 (n : Nat) (b : Bool) : List ByteArray := (if b then headS n else z64) :: List.replicate (n - 1) z64
def d0 (n : Nat) (b : Bool) : Dsk := ⟨secs0 n b, [], 0, false⟩
def r0 (n : Nat) (b : Bool) : RDsk := ⟨secs0 n b, secs0 n b, [], 0, false, false⟩
theorem secs0_len (n : Nat) (b : Bool) (hn : 0 < n) : (secs0 n b).length = n := by unfold secs0; simp; omega
theorem secs0_fresh (n : Nat) (hn : 0 < n) : secs0 n false = List.replicate n z64 := by
  obtain ⟨k, rfl⟩ : ∃ k, n = k + 1 := ⟨n - 1, by omega⟩
  rfl
theorem d0_fresh (n : Nat) (hn : 0 < n) : Dsk.fresh n = d0 n false := by unfold Dsk.fresh d0; rw [secs0_fresh n hn]
theorem secs0_zero (n : Nat) (b : Bool) (i : Nat) (h0 : 0 < i) (hi : i < n) : (secs0 n b)[i]? = some z64 := by
  obtain ⟨k, rfl⟩ : ∃ k, i = k + 1 := ⟨i - 1, by omega⟩
  unfold secs0
  rw [List.getElem?_cons_succ, List.getElem?_replicate, if_pos (by omega)]
theorem d0_op (n : Nat) (b : Bool) : (d0 n b).op = d0 n b := dop_not _ (by show ¬ (0 : Int) < 0; omega)
theorem wipe0 (n : Nat) (b : Bool) : ∀ f i, 0 < i → i + f = n → wipeD f i (d0 n b) = (d0 n b, 0)
  | 0, i, _, _ => by
    unfold wipeD Dsk.flush Dsk.fcode
    rw [d0_op]
    rfl
  | f + 1, i, h0, hi => by
    unfold wipeD
    have hz : (applyAll (d0 n b).wait (d0 n b).safe)[i]? = some z64 := secs0_zero n b i h0 (by omega)
    rw [if_pos hz]
    exact wipe0 n b f (i + 1) (by omega) (by omega)
/-- Behind the first sector's zeros: one write waits. -/
theorem wipe1 (n : Nat) (X : ByteArray) (h : applyAll [(0, z64)] (X :: List.replicate (n - 1) z64) = secs0 n false) : ∀ f i, 0 < i → i + f = n → wipeD f i ⟨X :: List.replicate (n - 1) z64, [(0, z64)], 0, false⟩ = (d0 n false, 0)
  | 0, i, _, _ => by
    have ho : (⟨X :: List.replicate (n - 1) z64, [(0, z64)], 0, false⟩ : Dsk).op = ⟨X :: List.replicate (n - 1) z64, [(0, z64)], 0, false⟩ := dop_not _ (by show ¬ (0 : Int) < 0; omega)
    unfold wipeD Dsk.flush Dsk.fcode
    rw [ho]
    show (({ safe := applyAll [(0, z64)] (X :: List.replicate (n - 1) z64), wait := [], fuse := 0, down := false } : Dsk), 0) = _
    rw [h]
    rfl
  | f + 1, i, h0, hi => by
    unfold wipeD
    rw [if_pos (by show (applyAll [(0, z64)] (X :: List.replicate (n - 1) z64))[i]? = _; rw [h]; exact secs0_zero n false i h0 (by omega))]
    exact wipe1 n X h f (i + 1) (by omega) (by omega)
theorem wipe_d0 (n : Nat) (b : Bool) (hn : 0 < n) : wipeD n 0 (d0 n b) = (d0 n false, 0) := by
  obtain ⟨k, rfl⟩ : ∃ k, n = k + 1 := ⟨n - 1, by omega⟩
  unfold wipeD
  cases b
  · have hz : (applyAll (d0 (k + 1) false).wait (d0 (k + 1) false).safe)[0]? = some z64 := rfl
    rw [if_pos hz]
    exact wipe0 (k + 1) false k 1 (by omega) (by omega)
  · rw [if_neg (by show ¬ some (headS (k + 1)) = some z64; intro e; exact head_ne _ (Option.some.inj e)), d0_op, if_neg (by show ¬ false = true; simp)]
    have e : (d0 (k + 1) true).write 0 z64 = ⟨headS (k + 1) :: List.replicate (k + 1 - 1) z64, [(0, z64)], 0, false⟩ := by
      unfold Dsk.write
      rw [d0_op]
      rfl
    rw [e]
    exact wipe1 (k + 1) (headS (k + 1)) rfl k 1 (by omega) (by omega)
theorem fmt_d0 (n : Nat) (b : Bool) (hn : 4 ≤ n) : fmtD n (d0 n b) = (d0 n true, 0) := by
  rw [fmtD_one n _ (by omega) (by rw [wipe_d0 n b (by omega)]), wipe_d0 n b (by omega)]
  unfold oneD
  rw [d0_op, if_neg (by show ¬ false = true; simp)]
  have e : (d0 n false).write 0 (headS n) = ⟨secs0 n false, [(0, headS n)], 0, false⟩ := by
    unfold Dsk.write
    rw [d0_op]
    rfl
  have ho : (⟨secs0 n false, [(0, headS n)], 0, false⟩ : Dsk).op = ⟨secs0 n false, [(0, headS n)], 0, false⟩ := dop_not _ (by show ¬ (0 : Int) < 0; omega)
  rw [e]
  unfold Dsk.flush Dsk.fcode
  rw [ho]
  rfl
theorem fmt_small (n : Nat) (d : Dsk) (hn : n < 4) : fmtD n d = (d, 1) := by unfold fmtD; rw [if_pos hn]
theorem d0_at0 (n : Nat) (b : Bool) (hn : 0 < n) : (d0 n b).at 0 (by rw [show (d0 n b).safe = secs0 n b from rfl, secs0_len n b hn]; exact hn) = if b then headS n else z64 := rfl
theorem d0_at1 (n : Nat) (b : Bool) (hn : 4 ≤ n) (h : 1 < (d0 n b).safe.length) : (d0 n b).at 1 h = z64 := by
  unfold Dsk.at
  show (secs0 n b)[1] = z64
  have h1 := secs0_zero n b 1 (by omega) (by omega)
  rw [List.getElem?_eq_getElem (by rw [secs0_len n b (by omega)]; omega)] at h1
  exact Option.some.inj h1
end Go.Proofs.YtapijhhmjjplmaaGreatDoor
namespace Go.Proofs.YtapijhhmjjplmaaGreatDoor
open Go.RowKit Go.Maps
theorem Duo.up {w0 W : World} {N N' pg po bd be m : Nat} {Sd Se : Nat → Prop} {d : Dsk} {r : RDsk} (h : Duo w0 W N pg po bd be m Sd Se d r) (hN : N ≤ N') : Duo w0 W N' pg po bd be m Sd Se d r :=
  ⟨h.p0, h.p1, h.dsk, h.ref, h.rel, h.dj, h.np, h.base, h.lo, h.hi, Nat.le_trans h.wl hN, Nat.le_trans h.ml hN⟩
/-- What a step on a pair leaves, the disks told. -/
def Leaves3 (w0 W : World) (N pg po bd be : Nat) (Sd Se : Nat → Prop) (d' : Dsk) (r' : RDsk) (W' : World) : Prop :=
  ∃ m' Sd' Se', Duo w0 W' N pg po bd be m' Sd' Se' d' r' ∧ ∀ g, g < W.heap.size → (Sd' g ↔ Sd g) ∧ (Se' g ↔ Se g)
theorem Duo.both3 {w0 W W1 W2 W3 : World} {N pg po bd be m m' : Nat} {Sd Se : Nat → Prop} {d d' : Dsk} {r r' : RDsk} (h : Duo w0 W1 N pg po bd be m Sd Se d r) (hW : W.heap.size ≤ W1.heap.size)
    (D2 : DskAt W2 (fun g => Sd g ∨ W1.heap.size ≤ g) bd m' d') (s2 : Same Sd W1 W2) (R3 : RefAt W3 (fun g => Se g ∨ W2.heap.size ≤ g) be r') (s3 : Same Se W2 W3) (R : Rel d' r') (hw : d'.wait.length ≤ N) (hm : m' ≤ N) :
    Leaves3 w0 W N pg po bd be Sd Se d' r' W3 ∧ Same (fun g => Sd g ∨ Se g) W1 W3 := by
  have hz2 := s2.size
  have hz3 := s3.size
  have hpg : pg < W1.heap.size := block_lt_of_cell h.p0
  have hb2 : Below w0.heap.size w0 W2 := h.base.trans (s2.below (fun g hg => h.lo g (.inl hg)) h.base.size)
  have hse : ∀ g, (Sd g ∨ W1.heap.size ≤ g) → ¬ Se g := fun g hg he => by
    rcases hg with hg | hg
    · exact h.dj g hg he
    · have := h.hi g (.inr he); omega
  have hbz := h.base.size
  refine ⟨⟨m', fun g => (Sd g ∨ W1.heap.size ≤ g) ∧ g < W2.heap.size, fun g => (Se g ∨ W2.heap.size ≤ g) ∧ g < W3.heap.size, ?_, fun g hg => ⟨⟨fun h' => ?_, fun h' => ⟨.inl h', by omega⟩⟩, ⟨fun h' => ?_, fun h' => ⟨.inl h', by omega⟩⟩⟩⟩, ?_⟩
  · refine ⟨s3.cell h.np.2 (s2.cell h.np.1 h.p0), s3.cell h.np.2 (s2.cell h.np.1 h.p1), D2.tight.on s3 (fun g hg => hse g hg.1), R3.tight, R, ?_, ⟨?_, ?_⟩, ?_, ?_, ?_, hw, hm⟩
    · rintro g ⟨hg, hl⟩ ⟨he | he, -⟩
      · exact hse g hg he
      · omega
    · rintro ⟨hg | hg, -⟩
      · exact h.np.1 hg
      · omega
    · rintro ⟨hg | hg, -⟩
      · exact h.np.2 hg
      · omega
    · exact hb2.trans (s3.below (fun g hg => h.lo g (.inr hg)) hb2.size)
    · rintro g (⟨hg | hg, -⟩ | ⟨hg | hg, -⟩)
      · exact h.lo g (.inl hg)
      · omega
      · exact h.lo g (.inr hg)
      · omega
    · rintro g (⟨-, hg⟩ | ⟨-, hg⟩)
      · omega
      · exact hg
  · rcases h'.1 with h1 | h1
    · exact h1
    · omega
  · rcases h'.1 with h1 | h1
    · exact h1
    · omega
  · exact (s2.weak (fun _ h => .inl h)).trans (s3.weak (fun _ h => .inr h))
set_option maxRecDepth 100000 in
set_option maxHeartbeats 2000000 in
theorem ldisk_format (w0 W : World) (a : Nat → Addr) (S0 : Sent w0 a) (N bw pg po bd be m : Nat) (Sd Se : Nat → Prop) (d : Dsk) (r : RDsk) (x : Stp) (left : Int) (row : Array Value) (rt : TypeId) (hk : x.kind = 12) (H : Duo w0 W N pg po bd be m Sd Se d r) (hN : N ≤ 700000)
    (hb : W.heap[bw]? = some (.cells row rt (0, 0))) (hrow : row[5]? = some (.int .i64 left)) (hlo : -1000000 ≤ left) (hhi : left ≤ 1000000) (hbw : w0.heap.size ≤ bw ∧ ¬ Sd bw ∧ ¬ Se bw ∧ bw ≠ pg) :
    Calls Tryz.prog 72 #[.pointer (some ⟨bw, 0, none⟩), .pointer (some ⟨pg, po, none⟩), stpV x] W fun e W' => e = .returned (.bool true) ∧ Leaves3 w0 W (N + d.safe.length + 1) pg po bd be Sd Se (fmtD d.safe.length d).1 (fmtR d.safe.length r).1 W' ∧ Same (fun g => Sd g ∨ Se g ∨ g = bw) W W' ∧ W'.heap[bw]? = some (.cells (row.setIfInBounds 5 (.int .i64 (left - d.safe.length))) rt (0, 0)) := by
  obtain ⟨kd, xa, xb, xd, xs, xt⟩ := x
  simp only at hk
  subst hk
  obtain ⟨W1, hW1⟩ : ∃ W1, W1 = W.alloc (.cells #[.int .i64 12, .int .i64 xa, .int .i64 xb, .int .i64 xd, .string xs, .string xt] 67) := ⟨_, rfl⟩
  have s1 : Same (fun _ => False) W W1 := by rw [hW1]; exact Same.alloc0 W _
  have H1 := H.on s1 (fun _ h => h.elim) (fun _ _ h => h) (fun h => h)
  have hb1 : W1.heap[bw]? = some (.cells row rt (0, 0)) := by rw [s1.block bw (lt_of_heap' hb) (fun h => h)]; exact hb
  have c1 : W1.cell? ⟨pg, po + 1, none⟩ = some (.pointer (some ⟨be, 0, none⟩)) := H1.p1
  have l1 : W1.cell? ⟨bw, 5, none⟩ = some (.int .i64 left) := by rw [cell_of_row _ _ _ _ _ _ hb1]; exact hrow
  have f1 := frozen_of_row W1 bw 5 _ _ hb1
  obtain ⟨gn, cn, t1, -⟩ := H1.tell
  have hsz := H.rel.size
  have hwl := H.wl
  have hml := H.ml
  have hrs : r.safe.length = d.safe.length := by rw [H.rel.safe]
  have hre : r.seen.length = d.safe.length := H.rel.seenLen
  have hrw : r.wait.length ≤ N := H.wlr
  obtain ⟨n, hn⟩ : ∃ n, n = d.safe.length := ⟨_, rfl⟩
  have HN : Hid (n = d.safe.length) := hn
  rw [← hn] at t1 hsz hrs hre ⊢
  have hwrap : IntKind.i64.wrap (left - (n : Int)) = left - n := by rw [IntKind.wrap_i64]; omega
  have nb1 : bw ≠ pg := hbw.2.2.2
  have nb2 : bw ≠ be := by
    rintro rfl
    obtain ⟨_, _, _, hv⟩ := H.ref
    exact hbw.2.2.1 hv.sb
  have HH2 : Hid (∀ V, V = (W1.drew.setCell ⟨bw, 5, none⟩ (.int .i64 (left - n))) → Duo w0 V N pg po bd be m Sd Se d r ∧ Same (fun g => g = bw) W V ∧ V.heap[bw]? = some (.cells (row.setIfInBounds 5 (.int .i64 (left - n))) rt (0, 0))) := by
    rintro V rfl
    have hs : Same (· = bw) W1.drew (W1.drew.setCell ⟨bw, 5, none⟩ (.int .i64 (left - n))) := Same.setCell (S := (· = bw)) (Same.refl _ _) ⟨bw, 5, none⟩ rfl _
    refine ⟨H1.drew.on hs (by rintro g rfl; exact hbw.1) (by rintro g (hg | hg) rfl; exact hbw.2.1 hg; exact hbw.2.2.1 hg) (fun h => nb1 h.symm), ?_, ?_⟩
    · exact ((s1.weak (fun _ h => h.elim)).drew).trans hs
    · exact heap_setCell_same W1.drew bw 5 _ _ _ hb1
  have hRel := H.rel.fmt n
  have HR : Hid (∀ V, Duo w0 V N pg po bd be m Sd Se d r → Calls Tryz.prog 25 #[.pointer (some ⟨bd, 0, none⟩)] V fun e w' => e = .returned (.int .i64 ((fmtD n d).2 : Int)) ∧ (∃ m', m' ≤ m + n + 1 ∧ DskAt w' (tg Sd V w') bd m' (fmtD n d).1) ∧ Same Sd V w') := fun V hV =>
    plain_format w0 a S0 bd m Sd d n V hV.dsk hV.base (fun g h => hV.lo g (.inl h)) hV.rel.most hsz.1 hsz.2 hn.symm (by omega) (by omega)
  have HQ : Hid (∀ V, RefAt V Se be r → Calls Tryz.prog 119 #[.pointer (some ⟨be, 0, none⟩)] V fun e w' => e = .returned (.int .i64 ((fmtD n d).2 : Int)) ∧ RefAt w' (up Se V.heap.size) be (fmtR n r).1 ∧ Same Se V w') := fun V hV => by
    have h := ref_format be Se r n V hV hsz.1 hsz.2 hre hrs (by omega)
    rw [hRel.2] at h
    exact h
  have HRL : Hid (Rel (fmtD n d).1 (fmtR n r).1) := hRel.1
  have HBW : Hid (¬ Sd bw ∧ ¬ Se bw) := ⟨hbw.2.1, hbw.2.2.1⟩
  have HML : Hid (d.wait.length ≤ N ∧ m ≤ N) := ⟨hwl, hml⟩
  obtain ⟨fc, hfc⟩ : ∃ fc : Int, fc = ((fmtD n d).2 : Nat) := ⟨_, rfl⟩
  rw [← hfc] at HR HQ
  clear H1 H s1 hb hb1 hrow hbw S0 hn hRel hrs hre hrw hwl hml hfc
  go_enter Tryz.func72, Tryz.ntmps72
  go_wp2
  rw [← hW1]
  clear hW1
  have HH3 := HH2.out ((W1.setCell ⟨bw, 5, none⟩ (.int .i64 (left - n))).drew) rfl
  obtain ⟨W2, hW2⟩ : ∃ W2, W2 = (W1.setCell ⟨bw, 5, none⟩ (.int .i64 (left - n))).drew := ⟨_, rfl⟩
  rw [← hW2] at HH3
  have HD2 : Hid (Duo w0 W2 N pg po bd be m Sd Se d r) := HH3.1
  have HS2 : Hid (Same (fun g => g = bw) W W2 ∧ W2.heap[bw]? = some (.cells (row.setIfInBounds 5 (.int .i64 (left - n))) rt (0, 0))) := HH3.2
  clear HH2 HH3
  go_region
  rw [← hW2]
  have hni : (n : Int) ≤ 4096 := by omega
  clear hW2 c1 l1 f1 t1 nb1 nb2 hwrap hlo hhi
  have c0 := HD2.out.p0
  have HR2 := HR.out W2 HD2.out
  go_wp2_with fail
  refine HR2.mono ?_
  rintro e W3 ⟨rfl, D3, S3⟩
  obtain ⟨hp0, hp1, hr3, hb3⟩ := HD2.out.turnD S3
  have HD3 : Hid (∃ m', m' ≤ m + n + 1 ∧ DskAt W3 (tg Sd W2 W3) bd m' (fmtD n d).1) := D3
  have HS3 : Hid (Same Sd W2 W3) := S3
  have HQ3 := HQ.out W3 hr3
  clear D3 S3 HQ HR HR2 hr3 hb3 hp0 c0
  go_wp2_with fail
  refine HQ3.mono ?_
  rintro e W4 ⟨rfl, R4, S4⟩
  have HR4 : Hid (RefAt W4 (up Se W3.heap.size) be (fmtR n r).1) := R4
  have HS4 : Hid (Same Se W3 W4) := S4
  clear R4 S4 HQ3
  go_wp2
  go_ret
  obtain ⟨m', hm', d3⟩ := HD3.out
  have hsz2 := HS2.out.1.size
  have hwf : (fmtD n d).1.wait.length ≤ N + n + 1 := by
    have h1 := (wipeD_len n 0 d).2
    have hw := HML.out.1
    unfold fmtD
    split
    · show d.wait.length ≤ _; omega
    · split
      · omega
      · split
        · show (wipeD n 0 d).1.op.wait.length ≤ _; rw [dop_wait]; omega
        · have h2 := dflush_wait ((wipeD n 0 d).1.write 0 (headS n))
          have h3 := dwrite_wait (wipeD n 0 d).1 0 (headS n)
          show ((wipeD n 0 d).1.write 0 (headS n)).flush.wait.length ≤ _
          omega
  obtain ⟨h1, h2⟩ := (HD2.out.up (N' := N + n + 1) (by omega)).both3 (W := W) hsz2 (d3.mono (fun _ h => h.1)) HS3.out HR4.out HS4.out HRL.out hwf (by have := HML.out.2; omega)
  refine ⟨rfl, h1, (HS2.out.1.weak (fun _ h => .inr (.inr h))).trans (h2.weak (fun g h => h.elim .inl (fun h => .inr (.inl h)))), ?_⟩
  rw [h2.block bw (lt_of_heap' HS2.out.2) (fun h => h.elim HBW.out.1 HBW.out.2)]
  exact HS2.out.2
end Go.Proofs.YtapijhhmjjplmaaGreatDoor
namespace Go.Proofs.YtapijhhmjjplmaaGreatDoor
open Go.RowKit Go.Maps
theorem rv_same (w : World) (p : Addr) : (binOp .neq 92 (rv p) (rv p)).run Tryz.prog w = .ok (.bool false) w := by
  obtain ⟨i, hi, hc⟩ := Option.map_eq_some_iff.1 isComp
  obtain ⟨j, hj, hjs⟩ := Option.map_eq_some_iff.1 isSize
  clear hjs
  simp only [binOp]
  simp [Op.equal, Op.maxDepth, run_equalIn_iface_ptr_same w 9998 p Tryz.underlying92 Tryz.underlying458 hi hc hj]
theorem rv_other (w : World) (p q : Addr) {ca cb : Array Value} {ta tb : TypeId} (hne : p ≠ q) (ha : w.heap[p.block]? = some (.cells ca ta (0, 0))) (hb : w.heap[q.block]? = some (.cells cb tb (0, 0))) : (binOp .neq 92 (rv p) (rv q)).run Tryz.prog w = .ok (.bool true) w := by
  obtain ⟨i, hi, hc⟩ := Option.map_eq_some_iff.1 isComp
  obtain ⟨j, hj, hjs⟩ := Option.map_eq_some_iff.1 isSize
  have hs : j.size ≠ 0 := by rw [hjs]; decide
  simp only [binOp]
  simp [Op.equal, Op.maxDepth, run_equalIn_iface_ptr_other w 9998 Tryz.underlying92 Tryz.underlying458 hi hc hj hs hne ha hb]
theorem nil_other (w : World) (q : Addr) : (binOp .neq 92 .nilIface (rv q)).run Tryz.prog w = .ok (.bool true) w := by
  have h : ∀ d : Nat, (Op.equalIn (d + 1) 92 .nilIface (.iface 458 (.pointer (some q)))).run Tryz.prog w = .ok false w := fun d => by simp [Op.equalIn, run_underlying Tryz.underlying92]
  simp only [binOp]
  simp [Op.equal, Op.maxDepth, h 9999]
theorem put_spot {T : Tre} {s d : ByteArray} (h : codeP (spotE T) s ≠ 0) : codeP (fun l => putE T l d) s = (if 1536 < d.size ∧ codeP (spotE T) s ≠ 5 then 11 else codeP (spotE T) s) ∧ treeP T (fun l => putT T l d) s = T := by
  cases hp : pathOf s with
  | none =>
    rw [codeP_none hp, codeP_none hp]
    exact ⟨by rw [if_neg (fun h => h.2 rfl)], treeP_none hp⟩
  | some l =>
    by_cases h0 : l = []
    · subst h0
      rw [codeP_nil hp, codeP_nil hp]
      exact ⟨by rw [if_neg (fun h => h.2 rfl)], treeP_nil hp⟩
    · rw [codeP_some hp h0] at h ⊢
      rw [codeP_some hp h0, treeP_some hp h0]
      have h5 : spotE T l ≠ 5 := by
        unfold spotE
        have := findE_cases T l.dropLast []
        split
        · omega
        · split <;> omega
      by_cases hb : 1536 < d.size
      · rw [if_pos ⟨hb, h5⟩]
        exact putE_big hb
      · rw [if_neg (fun h => hb h.1)]
        exact putE_spot hb h
theorem put_ok {T : Tre} {s d : ByteArray} {l : List ByteArray} (hp : pathOf s = some l) (h0 : l ≠ []) : codeP (fun l => putE T l d) s = putE T l d ∧ treeP T (fun l => putT T l d) s = putT T l d := ⟨codeP_some hp h0, treeP_some hp h0⟩
/-- A file's bytes turn, in the archive. -/
theorem ArcP.set {w w1 : World} {S : Nat → Prop} {ba bd : Nat} {R : Array Value} {rb : Nat} {nb mb : List ByteArray → Nat} {T : Tre} (h : ArcV w S ba bd R rb nb mb T) {l : List ByteArray} {x : Itm} (hx : lookT T l = some x) (hd : x.dir = false) (d : ByteArray) (hb : Below w.heap.size w w1) :
    ArcP (w1.setCell ⟨nb l, 0, none⟩ (.string d)) (fun g => S g ∨ w.heap.size ≤ g) ba bd (setD T l d) ∧ Same S w (w1.setCell ⟨nb l, 0, none⟩ (.string d)) := by
  have h1 := h.on (U := fun _ => False) (below_sameT hb) (fun _ _ h => h)
  have hsn := h.tree.sn l (.inr (by rw [hx]; rfl))
  refine ⟨ArcP.mono ⟨R, rb, nb, mb, ?_, h.sb, h.r0, h.r1, ?_, h1.tree.set hx hd d⟩ (fun _ h => .inl h), Same.setCell (below_sameT hb) ⟨nb l, 0, none⟩ hsn.1 _⟩
  · rw [heap_setCell_other _ _ _ _ (fun e => hsn.2 e.symm)]
    exact h1.blk
  · rw [setD_length]; exact h.r2
set_option maxRecDepth 100000 in
set_option maxHeartbeats 4000000 in
theorem prog_write (ba bd : Nat) (S : Nat → Prop) (T : Tre) (a : Nat → Addr) (m : Int) (s d : ByteArray) (w : World) (h : ArcP w S ba bd T) (hT : WFT T) (hSl : ∀ g, S g → g < w.heap.size) (hV : Vars w a m) (hs : s.size ≤ 262144) (hd : d.size ≤ 262144) :
    Calls Tryz.prog 161 #[.pointer (some ⟨ba, 1, none⟩), .string s, .string d] w fun e w' => TPost w a S ba bd (treeP T (fun l => putT T l d) s) (codeP (fun l => putE T l d) s) e w' := by
  have hnot : ∀ (x : Bool) (w : World), (Op.unary .not (.bool x)).run Tryz.prog w = .ok (.bool (!x)) w := fun _ _ => rfl
  have hdi : (d.size : Int) ≤ 262144 := by omega
  have HA : Hid (ArcP w S ba bd T) := h
  obtain ⟨R, rb, nb, mb, h⟩ := h
  have HH : Hid (ArcV w S ba bd R rb nb mb T) := h
  have HT : Hid (WFT T) := hT
  have HSL : Hid (∀ g, S g → g < w.heap.size) := hSl
  have HP : Hid (Calls Tryz.prog 153 #[.pointer (some ⟨ba, 1, none⟩), .string s] w fun e w' => PPlace w a T nb s e w') := prog_place ba _ rb T nb mb a m s w h.tree hT h.c1 hV hs
  have HON : Hid (∀ w', Below w.heap.size w w' → Vars w' a m ∧ ArcV w' S ba bd R rb nb mb T) := fun w' hb => ⟨hV.on hb, h.on (U := fun _ => False) (below_sameT hb) (fun _ _ h => h)⟩
  have HCL : Hid (∀ w1, Calls Tryz.prog 158 #[.string d] w1 fun e w' => e = .returned (.string d) ∧ Below w1.heap.size w1 w') := fun w1 => prog_clone d w1 (by omega)
  obtain ⟨cde, hcde⟩ : ∃ c, c = codeP (fun l => putE T l d) s := ⟨_, rfl⟩
  obtain ⟨T2, hT2⟩ : ∃ t, t = treeP T (fun l => putT T l d) s := ⟨_, rfl⟩
  rw [← hcde, ← hT2]
  have HX : Hid (cde = codeP (fun l => putE T l d) s ∧ T2 = treeP T (fun l => putT T l d) s) := ⟨hcde, hT2⟩
  clear h hT hcde hT2 hV hSl
  go_enter Tryz.func161, Tryz.ntmps161
  go_wp2_with fail
  refine HP.out.mono ?_
  rintro e w1 ⟨dv, nm, rfl, hb1, ⟨hc0, rfl, rfl⟩ | ⟨l, hl, h0, hsp, rfl, rfl⟩⟩
  · have HB1 : Hid (Below w.heap.size w w1) := hb1
    obtain ⟨e1, e2⟩ := put_spot (d := d) hc0
    have HZ := hid_two HX.out.1 HX.out.2 e1 e2
    obtain ⟨hV1, -⟩ := HON.out w1 hb1
    have hle := spotR_le T s
    obtain ⟨c, hc⟩ : ∃ c, c = codeP (spotE T) s := ⟨_, rfl⟩
    rw [← hc] at hc0 HZ hle ⊢
    have hev : errV a c = rv (a (c - 1)) := by unfold errV; rw [if_neg hc0]
    rw [hev]
    have hE4 := hV1.sent.v4
    have hE10 := hV1.sent.v10
    have hcmp : (binOp .neq 92 (rv (a (c - 1))) (rv (a 4))).run Tryz.prog w1 = .ok (.bool (decide (c ≠ 5))) w1 := by
      by_cases h5 : c = 5
      · subst h5
        exact rv_same w1 (a 4)
      · rw [decide_eq_true h5]
        obtain ⟨c1, t1, hr1⟩ := hV1.sent.row (c - 1) (by omega)
        obtain ⟨c2, t2, hr2⟩ := hV1.sent.row 4 (by omega)
        exact rv_other w1 _ _ (hV1.sent.inj _ _ (by omega) (by omega) (by omega)) hr1 hr2
    obtain ⟨ad, had⟩ : ∃ ad, ad = a (c - 1) := ⟨_, rfl⟩
    obtain ⟨a4, ha4⟩ : ∃ x, x = a 4 := ⟨_, rfl⟩
    obtain ⟨a10, ha10⟩ : ∃ x, x = a 10 := ⟨_, rfl⟩
    rw [← had] at hev hcmp ⊢
    rw [← ha4] at hcmp hE4
    rw [← ha10] at hE10
    have HEV : Hid (errV a c = rv ad) := hev
    have HE11 : Hid (errV a 11 = rv a10) := by show _ = _; rw [ha10]; rfl
    clear hb1 e1 e2 hc hev had ha4 ha10 hV1 hle
    by_cases hbig : 1536 < d.size
    · by_cases h5 : c = 5
      · rw [decide_eq_false (fun h => h h5)] at hcmp
        rw [if_neg (fun h => h.2 h5)] at HZ
        clear h5 hc0
        go_wp2
        go_ret
        rw [HZ.out.1, HZ.out.2]
        show TPost _ _ _ _ _ _ _ (.returned (rv ad)) _
        rw [← HEV.out]
        exact TPost.refused HA.out HB1.out
      · rw [decide_eq_true h5] at hcmp
        rw [if_pos ⟨hbig, h5⟩] at HZ
        clear h5 hc0
        go_wp2
        go_ret
        rw [HZ.out.1, HZ.out.2]
        show TPost _ _ _ _ _ _ 11 (.returned (rv a10)) _
        rw [← HE11.out]
        exact TPost.refused HA.out HB1.out
    · rw [if_neg (fun h => hbig h.1)] at HZ
      clear hc0
      go_wp2
      go_ret
      rw [HZ.out.1, HZ.out.2]
      show TPost _ _ _ _ _ _ _ (.returned (rv ad)) _
      rw [← HEV.out]
      exact TPost.refused HA.out HB1.out
  · have HB1 : Hid (Below w.heap.size w w1) := hb1
    have hce : codeP (spotE T) s = 0 := by rw [codeP_some hl h0]; exact hsp
    rw [hce, show errV a 0 = .nilIface from rfl]
    obtain ⟨o1, o2⟩ := put_ok (T := T) (d := d) hl h0
    have HX1 : Hid (cde = putE T l d ∧ T2 = putT T l d) := ⟨HX.out.1.trans o1, HX.out.2.trans o2⟩
    obtain ⟨hV1, hA1⟩ := HON.out w1 hb1
    have hE4 := hV1.sent.v4
    have hE6 := hV1.sent.v6
    have hE10 := hV1.sent.v10
    have hcmp := nil_other w1 (a 4)
    obtain ⟨a4, ha4⟩ : ∃ x, x = a 4 := ⟨_, rfl⟩
    obtain ⟨a6, ha6⟩ : ∃ x, x = a 6 := ⟨_, rfl⟩
    obtain ⟨a10, ha10⟩ : ∃ x, x = a 10 := ⟨_, rfl⟩
    rw [← ha4] at hcmp hE4
    rw [← ha6] at hE6
    rw [← ha10] at hE10
    have HE11 : Hid (errV a 11 = rv a10) := by show _ = _; rw [ha10]; rfl
    have HE7 : Hid (errV a 7 = rv a6) := by show _ = _; rw [ha6]; rfl
    by_cases hbig : 1536 < d.size
    · obtain ⟨e1, e2⟩ := putE_big (T := T) (l := l) hbig
      have HZ := hid_two HX1.out.1 HX1.out.2 e1 e2
      obtain ⟨bq, hbq⟩ : ∃ bq, bq = nb l.dropLast := ⟨_, rfl⟩
      have hpq : ptrV (nb l.dropLast) = .pointer (some ⟨bq, 0, none⟩) := by rw [hbq]; rfl
      rw [hpq]
      clear hb1 hl h0 hsp hce o1 o2 hV1 hA1 ha4 ha6 ha10 e1 e2 hbq hpq
      go_wp2
      go_ret
      rw [HZ.out.1, HZ.out.2]
      show TPost _ _ _ _ _ _ 11 (.returned (rv a10)) _
      rw [← HE11.out]
      exact TPost.refused HA.out HB1.out
    · obtain ⟨hq, hqf, -⟩ := spot_node hsp
      obtain ⟨D, hD, hK⟩ := hA1.tree.map _ hq hqf
      have hrow := hA1.tree.node _ hq
      rw [rowN_dir hqf] at hrow
      have c1 : w1.cell? ⟨nb l.dropLast, 1, none⟩ = some (.map (some (mb l.dropLast))) := cell_of_row _ _ _ _ _ _ hrow
      have hnms : (lastN l).size ≤ 16 := (nmB_size ((pathOf_valid hl).1 _ (lastN_mem h0))).2
      have HD : Hid (w1.ownsMap Tryz.prog 9 heldR (mb l.dropLast) 256 D) := hD
      have HK : Hid (Kids T nb l.dropLast D) := hK
      have HADD : Hid (∀ w2, Same (fun _ => False) w1 w2 → ∀ b, Calls Tryz.prog 154 #[.pointer (some ⟨ba, 1, none⟩), ptrV (nb l.dropLast), .string (lastN l), ptrV b] w2 fun e w' => AddPost w2 a ba (mb l.dropLast) T l.dropLast D (lastN l) b e w') := fun w2 hs2 b => by
        have hA2 := hA1.on hs2 (fun _ _ h => h)
        have hb2 : Below w1.heap.size w1 w2 := ⟨hs2.os, hs2.tape, hs2.output, hs2.size, fun k hk => hs2.block k hk (fun h => h)⟩
        exact prog_add ba _ rb T nb mb a l.dropLast (lastN l) b D w2 hA2.tree HT.out hq hqf (ownsMap_heap hD (hs2.block _ (ownsMap_lt hD) (fun h => h))) hK (by omega) hA2.c2 (frozen_of_row _ _ _ _ _ hA2.blk) (fun h => h.2 rfl) (hV1.on hb2).sent.v9
      have hlk : lookT T (l.dropLast ++ [lastN l]) = lookT T l := by rw [names_join h0]
      have hnl : l.dropLast ++ [lastN l] = l := names_join h0
      have HLL : Hid (l ≠ [] ∧ spotE T l = 0 ∧ pathOf s = some l) := ⟨h0, hsp, hl⟩
      obtain ⟨q, hqq⟩ : ∃ q, q = l.dropLast := ⟨_, rfl⟩
      obtain ⟨nm, hnm⟩ : ∃ nm, nm = lastN l := ⟨_, rfl⟩
      have HQ : Hid (q = l.dropLast ∧ nm = lastN l) := ⟨hqq, hnm⟩
      rw [← hqq] at c1 HD HK HADD hlk hnl
      rw [← hnm] at hnms HADD hlk hnl
      rw [← hqq, ← hnm]
      obtain ⟨bq, hbq⟩ : ∃ bq, bq = nb q := ⟨_, rfl⟩
      have hpq : ptrV (nb q) = .pointer (some ⟨bq, 0, none⟩) := by rw [hbq]; rfl
      rw [← hbq] at c1
      rw [hpq] at HADD ⊢
      obtain ⟨bm, hbm⟩ : ∃ bm, bm = mb q := ⟨_, rfl⟩
      have HBM : Hid (bm = mb q) := hbm
      rw [← hbm] at c1 HD HADD
      clear hb1 hl h0 hsp hce hD hK hrow hqq hnm hbq hpq hbm hq hqf o1 o2 ha4 ha6 ha10
      cases hx : lookT T l with
      | some x =>
        obtain ⟨e1, e2⟩ := putE_some hbig HLL.out.2.1 hx
        have HZ := hid_two HX1.out.1 HX1.out.2 e1 e2
        have hln : isNode T l := .inr (by rw [hx]; rfl)
        have HL0 : Hid ((lookT T (q ++ [nm])).isSome = true ∧ (if (lookT T (q ++ [nm])).isSome then ptrV (nb (q ++ [nm])) else Value.pointer none) = .pointer (some ⟨nb l, 0, none⟩)) := ⟨by rw [hlk, hx]; rfl, by rw [hlk, hx, hnl]; rfl⟩
        have HIS : Hid (Calls Tryz.prog 226 #[.pointer (some ⟨nb l, 0, none⟩)] w1 fun e w' => e = .returned (.bool (!isF T l)) ∧ w1 = w') := hA1.tree.isDir l hln
        have hisf : isF T l = !x.dir := by unfold isF; rw [hx]
        rw [hisf, Bool.not_not] at HIS
        have hrl := hA1.tree.node l hln
        have HSET : Hid (∀ w2, Below w.heap.size w w2 → x.dir = false → TPost w a S ba bd (setD T l d) 0 (.returned .nilIface) (w2.setCell ⟨nb l, 0, none⟩ (.string d))) := fun w2 hb2 hxd => by
          have := ArcP.set HH.out hx hxd d hb2
          exact ⟨rfl, this.1, this.2⟩
        have c0 : w1.cell? ⟨nb l, 0, none⟩ = some (.string (datT T l)) := by rw [cell_of_row _ _ _ _ _ _ hrl]; rfl
        have f0 := frozen_of_row w1 (nb l) 0 _ _ hrl
        have hbl := lt_of_heap' hrl
        obtain ⟨bl_, hbl_⟩ : ∃ b, b = nb l := ⟨_, rfl⟩
        rw [← hbl_] at HL0 HIS HSET c0 f0 hbl
        clear e1 e2 hx hlk HADD hnl hA1 hV1 hisf hrl hln hbl_
        cases hxd : x.dir
        · rw [hxd] at HZ HIS
          have HSE2 : Hid (∀ w2, Below w.heap.size w w2 → TPost w a S ba bd (setD T l d) 0 (.returned .nilIface) (w2.setCell ⟨bl_, 0, none⟩ (.string d))) := fun w2 hb2 => HSET.out w2 hb2 hxd
          clear hxd HSET
          go_wp2_with (first | (at_lookup; refine wpList_lookup_node rfl _ _ rfl bm 256 D T nb q HK.out rfl HD.out nm rfl (by omega) _ _ HL0.out.2 HL0.out.1 ?_) | (go_at_call 226; refine HIS.out.mono ?_; rintro e w2 ⟨rfl, rfl⟩) | (go_at_call 158; refine (HCL.out _).mono ?_; rintro e w2 ⟨rfl, hb2⟩; have HB2 : Hid (Below w.heap.size w w2) := HB1.out.trans (hb2.mono HB1.out.size); have c02 : w2.cell? ⟨bl_, 0, none⟩ = some (.string (datT T l)) := (by rw [hb2.cell hbl]; exact c0); have f02 : w2.frozen? ⟨bl_, 0, none⟩ = false := (by rw [hb2.frozen hbl]; exact f0); clear hb2))
          go_ret
          rw [HZ.out.1, HZ.out.2]
          exact HSE2.out _ HB2.out
        · rw [hxd] at HZ HIS
          clear hxd HSET
          go_wp2_with (first | (at_lookup; refine wpList_lookup_node rfl _ _ rfl bm 256 D T nb q HK.out rfl HD.out nm rfl (by omega) _ _ HL0.out.2 HL0.out.1 ?_) | (go_at_call 226; refine HIS.out.mono ?_; rintro e w2 ⟨rfl, rfl⟩))
          go_ret
          rw [HZ.out.1, HZ.out.2]
          show TPost _ _ _ _ _ _ 7 (.returned (rv a6)) _
          rw [← HE7.out]
          exact TPost.refused HA.out HB1.out
      | none =>
        obtain ⟨e1, e2⟩ := putE_none hbig HLL.out.2.1 hx
        have HZ := hid_two HX1.out.1 HX1.out.2 e1 e2
        have HL0 : Hid ((lookT T (q ++ [nm])).isSome = false ∧ (if (lookT T (q ++ [nm])).isSome then ptrV (nb (q ++ [nm])) else Value.pointer none) = .pointer none) := ⟨by rw [hlk, hx]; rfl, by rw [hlk, hx]; rfl⟩
        have HN : Hid (lookT T l = none) := hx
        clear e1 e2 hx hlk hA1 hV1 hnl
        go_wp2_with (first | (at_lookup; refine wpList_lookup_node rfl _ _ rfl bm 256 D T nb q HK.out rfl HD.out nm rfl (by omega) _ _ HL0.out.2 HL0.out.1 ?_) | (go_at_call 158; refine (HCL.out _).mono ?_; rintro e w2 ⟨rfl, hb2⟩; have HB2 : Hid (Below w1.heap.size w1 w2) := hb2; clear hb2))
        obtain ⟨W2, hW2⟩ : ∃ W2, W2 = w2.alloc (.cells #[.string d, .map none] 274) := ⟨_, rfl⟩
        rw [← hW2]
        have hs2 : Same (fun _ => False) w1 W2 := by rw [hW2]; exact (below_sameT HB2.out).alloc _
        have hz2 := HB2.out.size
        refine (HADD.out W2 hs2 w2.heap.size).mono ?_
        rintro e w3 (⟨hf, rfl, rfl⟩ | ⟨hf, rfl, w3', hj, rfl⟩)
        · rw [← HQ.out.1, hf] at HZ
          obtain ⟨ad, had⟩ : ∃ ad, ad = a 9 := ⟨_, rfl⟩
          have hev : errV a 10 = rv ad := by rw [had]; rfl
          rw [hev]
          have HEV : Hid (errV a 10 = rv ad) := hev
          have HBW : Hid (Below w.heap.size w W2) := HB1.out.trans (Below.mono (B := w1.heap.size) ⟨hs2.os, hs2.tape, hs2.output, hs2.size, fun k hk => hs2.block k hk (fun h => h)⟩ HB1.out.size)
          clear hf hev had hs2 hW2
          go_wp2
          go_ret
          rw [HZ.out.1, HZ.out.2]
          show TPost _ _ _ _ _ _ 10 (.returned (rv ad)) _
          rw [← HEV.out]
          exact TPost.refused HA.out HBW.out
        · rw [← HQ.out.1, hf] at HZ
          have HF : Hid (TPost w a S ba bd (T ++ [⟨l, false, d⟩]) 0 (.returned .nilIface) (w3'.setCell ⟨ba, 2, none⟩ (.int .i64 ((T.length : Int) + 1)))) := by
            obtain ⟨l0, l1, l2⟩ := HLL.out
            have hfu : fullT T l.dropLast = false := by rw [← HQ.out.1]; exact hf
            have hrow2 : W2.heap[w2.heap.size]? = some (.cells #[.string d, .map none] 274 (0, 0)) := by rw [hW2]; exact heap_alloc_new w2 _
            have hm := ArcP.more HH.out HT.out l0 HN.out l1 ⟨l, false, d⟩ rfl w2.heap.size 0 D (HT.out.append (pathOf_valid l2).1 (pathOf_valid l2).2 l0 l1 HN.out hfu false d (fun h => by cases h) (by omega)) HSL.out HB1.out hs2 ⟨hz2, by rw [hW2]; simp⟩ (fun h => by cases h) hrow2 (by rw [← HQ.out.1, ← HBM.out]; exact HD.out) (by rw [← HQ.out.1, ← HQ.out.2, ← HBM.out]; exact hj)
            exact ⟨rfl, hm.1, hm.2⟩
          clear hf hj hs2 hW2
          go_wp2
          go_ret
          rw [HZ.out.1, HZ.out.2]
          exact HF.out
end Go.Proofs.YtapijhhmjjplmaaGreatDoor
namespace Go.Proofs.YtapijhhmjjplmaaGreatDoor
open Go.RowKit Go.Maps
theorem file_kids {T : Tre} (hT : WFT T) {l : List ByteArray} (h0 : l ≠ []) (hf : isF T l = true) : kidsU T l = [] := by
  cases hk : kidsU T l with
  | nil => rfl
  | cons n r =>
    have h1 : n ∈ kidsU T l := by rw [hk]; simp
    rw [mem_kidsU hT] at h1
    obtain ⟨x, hx⟩ := Option.isSome_iff_exists.1 h1
    obtain ⟨h2, h3⟩ := look_some hx
    have h4 := hT.up x h2
    rw [h3, List.dropLast_concat] at h4
    obtain ⟨y, hy, hd⟩ := h4 h0
    unfold isF at hf
    rw [hy] at hf
    simp [hd] at hf
theorem ArcP.less {w w1 w2 : World} {S : Nat → Prop} {ba bd : Nat} {R : Array Value} {rb : Nat} {nb mb : List ByteArray → Nat} {T : Tre} (h : ArcV w S ba bd R rb nb mb T) (hT : WFT T) {l : List ByteArray} (h0 : l ≠ []) {x : Itm} (hx : lookT T l = some x) (hsp : spotE T l = 0) (D : DataW Value) (hb1 : Below w.heap.size w w1)
    (hD : w1.ownsMap Tryz.prog 9 heldR (mb l.dropLast) 256 D) (ho : w2.ownsMap Tryz.prog 9 heldR (mb l.dropLast) 256 (D.del (.string (bl (lastN l))))) (hs : Same (· = mb l.dropLast) w1 w2) :
    ArcP (w2.setCell ⟨ba, 2, none⟩ (.int .i64 ((T.length : Int) - 1))) (fun g => S g ∨ w.heap.size ≤ g) ba bd (dropT T l) ∧ Same S w (w2.setCell ⟨ba, 2, none⟩ (.int .i64 ((T.length : Int) - 1))) := by
  obtain ⟨hq, hqf, -⟩ := spot_node hsp
  have h1 := h.on (U := fun _ => False) (below_sameT hb1) (fun _ _ h => h)
  have hmq := h.tree.sm _ hq hqf
  have hless := h1.tree.less h0 hq hqf hs (fun D' hD' => by
    have e : D' = D := by
      obtain ⟨es, c, e1, -, -, e2⟩ := hD'
      obtain ⟨es', c', e1', -, -, e2'⟩ := hD
      rw [e1'] at e1
      cases e1
      rw [e2, e2']
    rw [e]
    exact ho)
  have hne : ba ≠ mb l.dropLast := fun e => hmq.2 e.symm
  have hblk : w2.heap[ba]? = some (.cells R 129 (0, 0)) := by
    rw [hs.block ba (lt_of_heap' h1.blk) hne]
    exact h1.blk
  have hl := dropT_length hT.dis hx
  refine ⟨ArcP.mono ⟨_, _, _, _, ArcV.count hblk h.sb h.r0 h.r1 h.r2 hless _ (by omega)⟩ (fun _ h => .inl h), ?_⟩
  refine Same.setCell ?_ ⟨ba, 2, none⟩ h.sb _
  have s1 : Same S w w1 := below_sameT hb1
  exact s1.trans (hs.weak (by rintro g rfl; exact hmq.1))
theorem turned_same {w w' : World} {b : Nat} (h : w.mapTurned w' b) : Same (· = b) w w' := by
  have := h.grown
  exact ⟨this.os, this.tape, this.output, this.size, fun k hk hn => this.block k hk (fun e => hn (Option.some.inj e))⟩
set_option maxRecDepth 100000 in
set_option maxHeartbeats 4000000 in
theorem prog_remove (ba bd : Nat) (S : Nat → Prop) (T : Tre) (a : Nat → Addr) (m : Int) (s : ByteArray) (w : World) (h : ArcP w S ba bd T) (hT : WFT T) (hV : Vars w a m) (hs : s.size ≤ 262144) :
    Calls Tryz.prog 169 #[.pointer (some ⟨ba, 1, none⟩), .string s] w fun e w' => TPost w a S ba bd (treeP T (removeT T) s) (codeP (removeE T) s) e w' := by
  have hnot : ∀ (x : Bool) (w : World), (Op.unary .not (.bool x)).run Tryz.prog w = .ok (.bool (!x)) w := fun _ _ => rfl
  have HA : Hid (ArcP w S ba bd T) := h
  obtain ⟨R, rb, nb, mb, h⟩ := h
  have HH : Hid (ArcV w S ba bd R rb nb mb T) := h
  have HT : Hid (WFT T) := hT
  have HP : Hid (Calls Tryz.prog 153 #[.pointer (some ⟨ba, 1, none⟩), .string s] w fun e w' => PPlace w a T nb s e w') := prog_place ba _ rb T nb mb a m s w h.tree hT h.c1 hV hs
  have HON : Hid (∀ w', Below w.heap.size w w' → Vars w' a m ∧ ArcV w' S ba bd R rb nb mb T) := fun w' hb => ⟨hV.on hb, h.on (U := fun _ => False) (below_sameT hb) (fun _ _ h => h)⟩
  obtain ⟨cde, hcde⟩ : ∃ c, c = codeP (removeE T) s := ⟨_, rfl⟩
  obtain ⟨T2, hT2⟩ : ∃ t, t = treeP T (removeT T) s := ⟨_, rfl⟩
  rw [← hcde, ← hT2]
  have HX : Hid (cde = codeP (removeE T) s ∧ T2 = treeP T (removeT T) s) := ⟨hcde, hT2⟩
  clear h hT hcde hT2 hV
  go_enter Tryz.func169, Tryz.ntmps169
  go_wp2_with fail
  refine HP.out.mono ?_
  rintro e w1 ⟨dv, nm, rfl, hb1, ⟨hc0, rfl, rfl⟩ | ⟨l, hl, h0, hsp, rfl, rfl⟩⟩
  · have HB1 : Hid (Below w.heap.size w w1) := hb1
    obtain ⟨e1, e2⟩ := remove_spot hc0
    have HZ := hid_two HX.out.1 HX.out.2 e1 e2
    obtain ⟨c, hc⟩ : ∃ c, c = codeP (spotE T) s := ⟨_, rfl⟩
    rw [← hc] at hc0 HZ ⊢
    have hev : errV a c = rv (a (c - 1)) := by unfold errV; rw [if_neg hc0]
    rw [hev]
    obtain ⟨ad, had⟩ : ∃ ad, ad = a (c - 1) := ⟨_, rfl⟩
    rw [← had] at hev ⊢
    have HEV : Hid (errV a c = rv ad) := hev
    clear hb1 hc0 e1 e2 hc hev had
    go_wp2
    go_ret
    rw [HZ.out.1, HZ.out.2]
    show TPost _ _ _ _ _ _ _ (.returned (rv ad)) _
    rw [← HEV.out]
    exact TPost.refused HA.out HB1.out
  · have HB1 : Hid (Below w.heap.size w w1) := hb1
    have hce : codeP (spotE T) s = 0 := by rw [codeP_some hl h0]; exact hsp
    rw [hce, show errV a 0 = .nilIface from rfl]
    obtain ⟨ok1, ok2⟩ := remove_ok hl h0 hsp
    obtain ⟨hV1, hA1⟩ := HON.out w1 hb1
    obtain ⟨hq, hqf, -⟩ := spot_node hsp
    obtain ⟨D, hD, hK⟩ := hA1.tree.map _ hq hqf
    have hrow := hA1.tree.node _ hq
    rw [rowN_dir hqf] at hrow
    have c1 : w1.cell? ⟨nb l.dropLast, 1, none⟩ = some (.map (some (mb l.dropLast))) := cell_of_row _ _ _ _ _ _ hrow
    have hnms : (lastN l).size ≤ 16 := (nmB_size ((pathOf_valid hl).1 _ (lastN_mem h0))).2
    have hE5 := hV1.sent.v5
    have hE8 := hV1.sent.v8
    have c2 := hA1.c2
    have f2 := frozen_of_row w1 ba 2 _ _ hA1.blk
    have hbal := lt_of_heap' hA1.blk
    have hnba : ba ≠ mb l.dropLast := fun e => (hA1.tree.sm _ hq hqf).2 e.symm
    have HD : Hid (w1.ownsMap Tryz.prog 9 heldR (mb l.dropLast) 256 D) := hD
    have HK : Hid (Kids T nb l.dropLast D) := hK
    have hlk : lookT T (l.dropLast ++ [lastN l]) = lookT T l := by rw [names_join h0]
    have hnl : l.dropLast ++ [lastN l] = l := names_join h0
    have HLL : Hid (l ≠ [] ∧ spotE T l = 0 ∧ pathOf s = some l) := ⟨h0, hsp, hl⟩
    have hTl := HT.out.len
    obtain ⟨q, hqq⟩ : ∃ q, q = l.dropLast := ⟨_, rfl⟩
    obtain ⟨nm, hnm⟩ : ∃ nm, nm = lastN l := ⟨_, rfl⟩
    have HQ : Hid (q = l.dropLast ∧ nm = lastN l) := ⟨hqq, hnm⟩
    rw [← hqq] at c1 HD HK hlk hnl hnba
    rw [← hnm] at hnms hlk hnl
    rw [← hqq, ← hnm]
    obtain ⟨bq, hbq⟩ : ∃ bq, bq = nb q := ⟨_, rfl⟩
    have hpq : ptrV (nb q) = .pointer (some ⟨bq, 0, none⟩) := by rw [hbq]; rfl
    rw [← hbq] at c1
    rw [hpq]
    obtain ⟨bm, hbm⟩ : ∃ bm, bm = mb q := ⟨_, rfl⟩
    have HBM : Hid (bm = mb q) := hbm
    rw [← hbm] at c1 HD hnba
    obtain ⟨a5, ha5⟩ : ∃ x, x = a 5 := ⟨_, rfl⟩
    obtain ⟨a8, ha8⟩ : ∃ x, x = a 8 := ⟨_, rfl⟩
    rw [← ha5] at hE5
    rw [← ha8] at hE8
    have HE6 : Hid (errV a 6 = rv a5) := by show _ = _; rw [ha5]; rfl
    have HE9 : Hid (errV a 9 = rv a8) := by show _ = _; rw [ha8]; rfl
    clear hb1 hl hsp hce hD hK hrow hqq hnm hbq hpq hbm hq hqf hV1 ha5 ha8
    cases hx : lookT T l with
    | none =>
      obtain ⟨e1, e2⟩ := ok1 hx
      have HZ := hid_two HX.out.1 HX.out.2 e1 e2
      have HL0 : Hid ((lookT T (q ++ [nm])).isSome = false ∧ (if (lookT T (q ++ [nm])).isSome then ptrV (nb (q ++ [nm])) else Value.pointer none) = .pointer none) := ⟨by rw [hlk, hx]; rfl, by rw [hlk, hx]; rfl⟩
      clear ok1 ok2 e1 e2 hx hlk hnl hA1
      go_wp2_with (at_lookup; refine wpList_lookup_node rfl _ _ rfl bm 256 D T nb q HK.out rfl HD.out nm rfl (by omega) _ _ HL0.out.2 HL0.out.1 ?_)
      go_ret
      rw [HZ.out.1, HZ.out.2]
      show TPost _ _ _ _ _ _ 6 (.returned (rv a5)) _
      rw [← HE6.out]
      exact TPost.refused HA.out HB1.out
    | some x =>
      obtain ⟨k1, k2⟩ := ok2 x hx
      have hln : isNode T l := .inr (by rw [hx]; rfl)
      have HL0 : Hid ((lookT T (q ++ [nm])).isSome = true ∧ (if (lookT T (q ++ [nm])).isSome then ptrV (nb (q ++ [nm])) else Value.pointer none) = .pointer (some ⟨nb l, 0, none⟩)) := ⟨by rw [hlk, hx]; rfl, by rw [hlk, hx, hnl]; rfl⟩
      have hrl := hA1.tree.node l hln
      have HXX : Hid (lookT T l = some x) := hx
      -- how many stand in it
      obtain ⟨mo, hmo, hlen⟩ : ∃ mo, w1.cell? ⟨nb l, 1, none⟩ = some (.map mo) ∧ ∀ ty, (Builtin.len_ #[272] ty #[.map mo]).run Tryz.prog w1 = .ok (.int .i64 ((kidsU T l).length : Int)) w1 := by
        cases hf : isF T l
        · rw [rowN_dir hf] at hrl
          obtain ⟨D', hD', hK'⟩ := hA1.tree.map l hln hf
          refine ⟨some (mb l), by rw [cell_of_row _ _ _ _ _ _ hrl]; rfl, fun ty => ?_⟩
          have := hD'.len Tryz.underlying272 ty
          rw [(hK'.keys HT.out).2] at this
          exact this
        · rw [rowN_file hf] at hrl
          refine ⟨none, by rw [cell_of_row _ _ _ _ _ _ hrl]; rfl, fun ty => ?_⟩
          rw [file_kids HT.out h0 hf]
          rfl
      have hkl : (kidsU T l).length ≤ 256 := Nat.le_trans (kids_len _ _) HT.out.len
      obtain ⟨K, hKK⟩ : ∃ K, K = (kidsU T l).length := ⟨_, rfl⟩
      rw [← hKK] at hlen hkl
      obtain ⟨bl_, hbl_⟩ : ∃ b, b = nb l := ⟨_, rfl⟩
      rw [← hbl_] at HL0 hmo
      by_cases hk : kidsU T l = []
      · obtain ⟨e1, e2⟩ := k2 hk
        have HZ := hid_two HX.out.1 HX.out.2 e1 e2
        have hK0 : K = 0 := by rw [hKK, hk]; rfl
        subst hK0
        have hwrap : IntKind.i64.wrap ((T.length : Int) - 1) = (T.length : Int) - 1 := by rw [IntKind.wrap_i64]; omega
        have HDEL : Hid (∀ w2, w2.ownsMap Tryz.prog 9 heldR bm 256 (D.del (.string (bl nm))) → w1.mapTurned w2 bm → w2.cell? ⟨ba, 2, none⟩ = some (.int .i64 (T.length : Int)) ∧ w2.frozen? ⟨ba, 2, none⟩ = false ∧ Hid (TPost w a S ba bd (dropT T l) 0 (.returned .nilIface) (w2.setCell ⟨ba, 2, none⟩ (.int .i64 ((T.length : Int) - 1))))) := fun w2 ho ht => by
          have hs2 := turned_same ht
          refine ⟨hs2.cell (by exact hnba) c2, by rw [World.frozen?_of_block (w := w1) (hs2.block ba hbal hnba)]; exact f2, ?_⟩
          obtain ⟨l0, l1, -⟩ := HLL.out
          have hm := ArcP.less HH.out HT.out l0 HXX.out l1 D HB1.out (by rw [← HQ.out.1, ← HBM.out]; exact HD.out) (by rw [← HQ.out.1, ← HQ.out.2, ← HBM.out]; exact ho) (by rw [← HQ.out.1, ← HBM.out]; exact hs2)
          exact ⟨rfl, hm.1, hm.2⟩
        have hkey : keyOf Tryz.prog 9 (.string nm) = some (.string (bl nm)) := WideMaps.keyOf_string_mk Tryz.underlying9 (by unfold maxLen; omega)
        have HKEY : Hid (keyOf Tryz.prog 9 (.string nm) = some (.string (bl nm))) := hkey
        clear k1 k2 ok1 ok2 e1 e2 hx hlk hnl hA1 hk hKK hbl_ hrl hln h0 hnba hbal c2 f2 hkey
        go_wp2_with (first | (at_lookup; refine wpList_lookup_node rfl _ _ rfl bm 256 D T nb q HK.out rfl HD.out nm rfl (by omega) _ _ HL0.out.2 HL0.out.1 ?_) | (at_delete; refine wpList_delete_own _ rfl _ _ 272 9 rfl 111 strKey Tryz.underlying272 heldR bm 256 D rfl HD.out _ _ rfl HKEY.out ?_; intro w2 hown2 hturn2; obtain ⟨c22, f22, HFIN⟩ := HDEL.out w2 hown2 hturn2; clear hown2 hturn2))
        go_ret
        rw [HZ.out.1, HZ.out.2]
        exact HFIN.out
      · obtain ⟨e1, e2⟩ := k1 hk
        have HZ := hid_two HX.out.1 HX.out.2 e1 e2
        have hK0 : 0 < K := by rw [hKK]; exact List.length_pos_iff.2 hk
        clear k1 k2 ok1 ok2 e1 e2 hx hlk hnl hA1 hk hKK hbl_ hrl hln h0
        go_wp2_with (at_lookup; refine wpList_lookup_node rfl _ _ rfl bm 256 D T nb q HK.out rfl HD.out nm rfl (by omega) _ _ HL0.out.2 HL0.out.1 ?_)
        go_ret
        rw [HZ.out.1, HZ.out.2]
        show TPost _ _ _ _ _ _ 9 (.returned (rv a8)) _
        rw [← HE9.out]
        exact TPost.refused HA.out HB1.out
end Go.Proofs.YtapijhhmjjplmaaGreatDoor
namespace Go.Proofs.YtapijhhmjjplmaaGreatDoor
open Go.RowKit Go.Maps
def gdat (T : Tre) (l : List ByteArray) : ByteArray := if getE T l ≠ 0 then ⟨#[]⟩ else datT T l
theorem getE_bad {T : Tre} {l : List ByteArray} (h : findE T [] l ≠ 0) : getE T l = findE T [] l ∧ gdat T l = ⟨#[]⟩ := by
  have e : getE T l = findE T [] l := by unfold getE; rw [if_pos h]
  exact ⟨e, by unfold gdat; rw [if_pos (by rw [e]; exact h)]⟩
theorem getE_dir {T : Tre} {l : List ByteArray} (h : findE T [] l = 0) (hf : isF T l = false) : getE T l = 7 ∧ gdat T l = ⟨#[]⟩ := by
  have e : getE T l = 7 := by
    unfold getE
    rw [if_neg (by rw [h]; simp)]
    unfold isF at hf
    split
    · rename_i x hx; rw [hx] at hf; simp at hf; rw [if_pos hf]
    · rfl
  exact ⟨e, by unfold gdat; rw [if_pos (by rw [e]; decide)]⟩
theorem getE_file {T : Tre} {l : List ByteArray} (h : findE T [] l = 0) (hf : isF T l = true) : getE T l = 0 ∧ gdat T l = datT T l := by
  have e : getE T l = 0 := by
    unfold getE
    rw [if_neg (by rw [h]; simp)]
    unfold isF at hf
    split
    · rename_i x hx; rw [hx] at hf; simp at hf; rw [if_neg (by rw [hf]; simp)]
    · rename_i hx; rw [hx] at hf; cases hf
  exact ⟨e, by unfold gdat; rw [if_neg (by rw [e]; simp)]⟩
theorem found_node {T : Tre} {l : List ByteArray} (h : findE T [] l = 0) : isNode T l := by
  by_cases h0 : l = []
  · exact .inl h0
  · have := findE_ok h h0
    exact .inr this
set_option maxRecDepth 100000 in
set_option maxHeartbeats 2000000 in
theorem prog_read (ba : Nat) (S : Nat → Prop) (rb : Nat) (T : Tre) (nb mb : List ByteArray → Nat) (a : Nat → Addr) (m : Int) (nv : Value) (l : List ByteArray) (w : World) (h : TreeM w S rb T nb mb) (hT : WFT T) (hv : Valid l) (h8 : l.length ≤ 8) (hn : StrsAt w nv l) (hr : w.cell? ⟨ba, 1, none⟩ = some (ptrV rb)) (hV : Vars w a m) :
    Calls Tryz.prog 167 #[.pointer (some ⟨ba, 1, none⟩), nv] w fun e w' => e = .returned (.tuple #[.string (gdat T l), errV a (getE T l)]) ∧ Below w.heap.size w w' := by
  have HF : Hid (Calls Tryz.prog 225 #[.pointer (some ⟨ba, 1, none⟩), nv] w fun e w' => e = .returned (.tuple #[foundV T nb l, errV a (findE T [] l)]) ∧ Below w.heap.size w w') := prog_find ba S rb T nb mb a nv l w h hT hv h8 hn hr hV.sent.v5 hV.sent.v6
  have HON : Hid (∀ w', Below w.heap.size w w' → Vars w' a m ∧ TreeM w' S rb T nb mb) := fun w' hb => ⟨hV.on hb, h.on (U := fun _ => False) (below_sameT hb) (fun _ _ h => h)⟩
  clear h hT hn hr hV
  rcases findE_cases T l [] with hz | hz | hz
  · have hnd := found_node hz
    have hfv : foundV T nb l = .pointer (some ⟨nb l, 0, none⟩) := by unfold foundV; rw [if_pos hz]; rfl
    rw [hz, hfv, show errV a 0 = .nilIface from rfl] at HF
    cases hf : isF T l
    · obtain ⟨e1, e2⟩ := getE_dir hz hf
      rw [e1, e2]
      have HN : Hid (∀ w1, Below w.heap.size w w1 → w1.cell? ⟨6, 0, none⟩ = some (rv (a 6)) ∧ Calls Tryz.prog 226 #[.pointer (some ⟨nb l, 0, none⟩)] w1 fun e w' => e = .returned (.bool true) ∧ w1 = w') := fun w1 hb => by
        obtain ⟨hV1, hM1⟩ := HON.out w1 hb
        have := hM1.isDir l hnd
        rw [hf] at this
        exact ⟨hV1.sent.v6, this⟩
      clear hz hnd hfv hf e1 e2
      go_enter Tryz.func167, Tryz.ntmps167
      go_wp2_with (first | (go_at_call 225; refine HF.out.mono ?_; rintro e w1 ⟨rfl, hb1⟩; obtain ⟨hE1, hI1⟩ := HN.out w1 hb1; have HI1 : Hid (Calls Tryz.prog 226 #[.pointer (some ⟨nb l, 0, none⟩)] w1 fun e w' => e = .returned (.bool true) ∧ w1 = w') := hI1; have HB1 : Hid (Below w.heap.size w w1) := hb1; clear hb1 hI1) | (go_at_call 226; refine HI1.out.mono ?_; rintro e w2 ⟨rfl, rfl⟩))
      go_quiet (fail)
      go_wp2
      refine bodyPost_ret (results_tmp2 rfl _ _ _) rfl ?_
      exact ⟨rfl, below_drewN' HB1.out _⟩
    · obtain ⟨e1, e2⟩ := getE_file hz hf
      rw [e1, e2]
      have HN : Hid (∀ w1, Below w.heap.size w w1 → w1.cell? ⟨nb l, 0, none⟩ = some (.string (datT T l)) ∧ Calls Tryz.prog 226 #[.pointer (some ⟨nb l, 0, none⟩)] w1 fun e w' => e = .returned (.bool false) ∧ w1 = w') := fun w1 hb => by
        obtain ⟨hV1, hM1⟩ := HON.out w1 hb
        have := hM1.isDir l hnd
        rw [hf] at this
        exact ⟨by rw [cell_of_row _ _ _ _ _ _ (hM1.node l hnd)]; rfl, this⟩
      clear hz hnd hfv hf e1 e2
      go_enter Tryz.func167, Tryz.ntmps167
      go_wp2_with (first | (go_at_call 225; refine HF.out.mono ?_; rintro e w1 ⟨rfl, hb1⟩; obtain ⟨hE1, hI1⟩ := HN.out w1 hb1; have HI1 : Hid (Calls Tryz.prog 226 #[.pointer (some ⟨nb l, 0, none⟩)] w1 fun e w' => e = .returned (.bool false) ∧ w1 = w') := hI1; have HB1 : Hid (Below w.heap.size w w1) := hb1; clear hb1 hI1) | (go_at_call 226; refine HI1.out.mono ?_; rintro e w2 ⟨rfl, rfl⟩))
      refine bodyPost_ret (results_tmp2 rfl _ _ _) rfl ?_
      exact ⟨rfl, HB1.out⟩
  all_goals
    obtain ⟨e1, e2⟩ := getE_bad (T := T) (l := l) (by rw [hz]; decide)
    have hfv : foundV T nb l = .pointer none := by unfold foundV; rw [if_neg (by rw [hz]; decide)]
    rw [e1, e2]
    obtain ⟨ad, had⟩ : ∃ ad, ad = a (findE T [] l - 1) := ⟨_, rfl⟩
    have hev : errV a (findE T [] l) = rv ad := by rw [had, hz]; rfl
    rw [hev]
    rw [hfv, hev] at HF
    clear hz hfv e1 e2 hev had
    go_enter Tryz.func167, Tryz.ntmps167
    go_wp2_with (go_at_call 225; refine HF.out.mono ?_; rintro e w1 ⟨rfl, hb1⟩; have HB1 : Hid (Below w.heap.size w w1) := hb1; clear hb1)
    refine bodyPost_ret (results_tmp2 rfl _ _ _) rfl ?_
    exact ⟨rfl, HB1.out⟩
set_option maxRecDepth 100000 in
set_option maxHeartbeats 2000000 in
theorem arc_read (ba bd : Nat) (S : Nat → Prop) (T : Tre) (a : Nat → Addr) (m : Int) (s : ByteArray) (w : World) (h : ArcP w S ba bd T) (hT : WFT T) (hV : Vars w a m) (hs : s.size ≤ 262144) :
    Calls Tryz.prog 94 #[.pointer (some ⟨ba, 0, none⟩), .int .i64 0, .string s] w fun e w' => e = .returned (.tuple #[.string (getD T s), errV a (getC T s)]) ∧ Below w.heap.size w w' := by
  obtain ⟨R, rb, nb, mb, h⟩ := h
  have HN : Hid (Calls Tryz.prog 89 #[.string s] w fun e w' => PNames w a s e w') := prog_names s w a m hV.sent.v4 hV.max hs
  have HON : Hid (∀ w', Below w.heap.size w w' → ∀ nv l, pathOf s = some l → NamesV w' nv l → Calls Tryz.prog 167 #[.pointer (some ⟨ba, 1, none⟩), nv] w' fun e w'' => e = .returned (.tuple #[.string (gdat T l), errV a (getE T l)]) ∧ Below w'.heap.size w' w'') := fun w' hb nv l hl hnv => by
    have h1 := h.on (U := fun _ => False) (below_sameT hb) (fun _ _ h => h)
    have hv := pathOf_valid hl
    exact prog_read ba _ rb T nb mb a m nv l w' h1.tree hT hv.1 hv.2 hnv.at h1.c1 (hV.on hb)
  obtain ⟨cc, hcc⟩ : ∃ c, c = errV a (getC T s) := ⟨_, rfl⟩
  obtain ⟨dd, hdd⟩ : ∃ c, c = getD T s := ⟨_, rfl⟩
  rw [← hcc, ← hdd]
  have HX : Hid (cc = errV a (getC T s) ∧ dd = getD T s) := ⟨hcc, hdd⟩
  clear h hT hV hcc hdd
  go_enter Tryz.func94, Tryz.ntmps94
  go_wp2_with fail
  refine HN.out.mono ?_
  rintro e w1 ⟨v, c, rfl, hb1, ⟨l, hl, rfl, hnv⟩ | ⟨hl, rfl⟩⟩
  · have HB1 : Hid (Below w.heap.size w w1) := hb1
    rw [show errV a 0 = .nilIface from rfl]
    have HR : Hid (Calls Tryz.prog 167 #[.pointer (some ⟨ba, 1, none⟩), v] w1 fun e w'' => e = .returned (.tuple #[.string dd, cc]) ∧ Below w1.heap.size w1 w'') := by
      have h1 := HON.out w1 hb1 v l hl hnv
      have e1 : getC T s = getE T l := by unfold getC; rw [hl]
      have e2 : getD T s = gdat T l := by
        unfold getD gdat
        rw [e1, hl]
        by_cases h0 : getE T l ≠ 0
        · rw [if_pos h0, if_pos h0]
        · rw [if_neg h0, if_neg h0]
          rfl
      rw [← e1, ← e2, ← HX.out.1, ← HX.out.2] at h1
      exact h1
    clear hb1 hl hnv
    go_wp2_with (go_at_call 167; refine HR.out.mono ?_; rintro e w2 ⟨rfl, hb2⟩; have HB2 : Hid (Below w.heap.size w w2) := HB1.out.trans (hb2.mono HB1.out.size); clear hb2)
    refine bodyPost_ret (results_tmp2 rfl _ _ _) rfl ?_
    exact ⟨rfl, HB2.out⟩
  · have HB1 : Hid (Below w.heap.size w w1) := hb1
    obtain ⟨e1, e2⟩ := get_none (T := T) hl
    obtain ⟨ad, had⟩ : ∃ ad, ad = a 4 := ⟨_, rfl⟩
    have hev : errV a 5 = rv ad := by rw [had]; rfl
    rw [hev]
    have HZ : Hid (cc = rv ad ∧ dd = ⟨#[]⟩) := ⟨by rw [HX.out.1, e1, hev], HX.out.2.trans e2⟩
    clear hb1 hl e1 e2 hev had
    go_wp2
    refine bodyPost_ret (results_tmp2 rfl _ _ _) rfl ?_
    rw [HZ.out.1, HZ.out.2]
    exact ⟨rfl, HB1.out⟩
section
variable (w0 : World) (a : Nat → Addr) (m : Int) (V0 : Vars w0 a m) (ba bd : Nat) (S : Nat → Prop) (T : Tre) (s d : ByteArray) (w : World)
theorem vars_on {w0 w : World} {a : Nat → Addr} {m : Int} (V0 : Vars w0 a m) (hb : Below w0.heap.size w0 w) : Vars w a m := V0.on hb
set_option maxRecDepth 100000 in
theorem plain_put (w0 : World) (a : Nat → Addr) (m : Int) (V0 : Vars w0 a m) (ba bd : Nat) (S : Nat → Prop) (T : Tre) (s d : ByteArray) (w : World) (h : ArcP w S ba bd T) (hT : WFT T) (hb : Below w0.heap.size w0 w) (hS : ∀ g, S g → w0.heap.size ≤ g) (hSl : ∀ g, S g → g < w.heap.size) (hs : s.size ≤ 262144) (hd : d.size ≤ 262144) :
    Calls Tryz.prog 49 #[.pointer (some ⟨ba, 0, none⟩), .string s, .string d] w fun e w' => e = .returned (.int .i64 (codeP (fun l => putE T l d) s : Nat)) ∧ ArcP w' (fun g => S g ∨ w.heap.size ≤ g) ba bd (treeP T (fun l => putT T l d) s) ∧ Same S w w' := by
  have HP : Hid (Calls Tryz.prog 161 #[.pointer (some ⟨ba, 1, none⟩), .string s, .string d] w fun e w' => TPost w a S ba bd (treeP T (fun l => putT T l d) s) (codeP (fun l => putE T l d) s) e w') := prog_write ba bd S T a m s d w h hT hSl (vars_on V0 hb) hs hd
  have hc12 : codeP (fun l => putE T l d) s ≤ 12 := by
    unfold codeP
    split
    · decide
    · decide
    · rename_i l _ _
      have := spotR_le T s
      show putE T l d ≤ 12
      unfold putE
      have h2 : spotE T l ≤ 7 := by
        unfold spotE
        have := findE_cases T l.dropLast []
        split
        · omega
        · split <;> omega
      split
      · decide
      · split
        · omega
        · split
          · split <;> decide
          · split <;> decide
  obtain ⟨c, hc⟩ : ∃ c, c = codeP (fun l => putE T l d) s := ⟨_, rfl⟩
  obtain ⟨T2, hT2⟩ : ∃ t, t = treeP T (fun l => putT T l d) s := ⟨_, rfl⟩
  rw [← hc, ← hT2] at HP ⊢
  rw [← hc] at hc12
  obtain ⟨ev, hev⟩ : ∃ ev, ev = errV a c := ⟨_, rfl⟩
  have HN : Hid (∀ w', Same S w w' → Calls Tryz.prog 43 #[ev] w' fun e w2 => e = .returned (.tuple #[.int .i64 (c : Int), .int .i64 (-1)]) ∧ Below w'.heap.size w' w2) := fun w' s' => by
    rw [hev]
    exact number_of c hc12 a w' ((vars_on V0 (hb.trans (s'.below hS hb.size))).sent)
  have HPP : Hid (Calls Tryz.prog 161 #[.pointer (some ⟨ba, 1, none⟩), .string s, .string d] w fun e w' => e = .returned ev ∧ ArcP w' (fun g => S g ∨ w.heap.size ≤ g) ba bd T2 ∧ Same S w w') := by rw [hev]; exact HP.out
  have HW : Hid (Calls Tryz.prog 92 #[.pointer (some ⟨ba, 0, none⟩), .string s, .string d] w fun e w' => e = .returned ev ∧ Hid (ArcP w' (fun g => S g ∨ w.heap.size ≤ g) ba bd T2) ∧ Hid (Same S w w')) := by
    clear HN hc hT2 hev h hT HP V0 hS hSl hb hs hd hc12
    go_enter Tryz.func92, Tryz.ntmps92
    go_wp2_with (go_at_call 161; refine HPP.out.mono ?_; rintro e w1 ⟨rfl, H1, S1⟩)
    go_ret
    exact ⟨rfl, H1, S1⟩
  clear hc hT2 hev h hT HP HPP hc12 V0 hS hSl hb
  go_enter Tryz.func49, Tryz.ntmps49
  go_wp2_with (first | (go_at_call 92; refine HW.out.mono ?_; rintro e w1 ⟨rfl, H1, S1⟩) | (go_at_call 43; refine (HN.out _ S1.out).mono ?_; rintro e w2 ⟨rfl, B2⟩; have HB2 : Hid (Below w1.heap.size w1 w2) := B2; clear B2))
  go_ret
  exact ⟨rfl, H1.out.on (U := fun _ => False) (below_sameT HB2.out) (fun _ _ h => h), S1.out.trans (below_sameT HB2.out)⟩
end
end Go.Proofs.YtapijhhmjjplmaaGreatDoor
namespace Go.Proofs.YtapijhhmjjplmaaGreatDoor
open Go.RowKit Go.Maps
theorem spotE_le (T : Tre) (l : List ByteArray) : spotE T l ≤ 7 := by
  unfold spotE
  have := findE_cases T l.dropLast []
  split
  · omega
  · split <;> omega
theorem mkdir_le (T : Tre) (s : ByteArray) : codeP (mkdirE T) s ≤ 12 := by
  unfold codeP
  split
  · decide
  · decide
  · rename_i l _ _
    have := spotE_le T l
    unfold mkdirE
    split
    · omega
    · split
      · decide
      · split <;> decide
theorem remove_le (T : Tre) (s : ByteArray) : codeP (removeE T) s ≤ 12 := by
  unfold codeP
  split
  · decide
  · decide
  · rename_i l _ _
    have := spotE_le T l
    unfold removeE
    split
    · omega
    · split
      · decide
      · split <;> decide
theorem get_le (T : Tre) (s : ByteArray) : getC T s ≤ 12 := by
  unfold getC
  split
  · decide
  · rename_i l _
    have := findE_cases T l []
    unfold getE
    split
    · omega
    · split
      · split <;> decide
      · decide
section
variable (w0 : World) (a : Nat → Addr) (m : Int) (V0 : Vars w0 a m) (ba bd : Nat) (S : Nat → Prop) (T : Tre) (s : ByteArray) (w : World)
set_option maxRecDepth 100000 in
theorem plain_mkdir (w0 : World) (a : Nat → Addr) (m : Int) (V0 : Vars w0 a m) (ba bd : Nat) (S : Nat → Prop) (T : Tre) (s : ByteArray) (w : World) (h : ArcP w S ba bd T) (hT : WFT T) (hb : Below w0.heap.size w0 w) (hS : ∀ g, S g → w0.heap.size ≤ g) (hSl : ∀ g, S g → g < w.heap.size) (hs : s.size ≤ 262144) :
    Calls Tryz.prog 27 #[.pointer (some ⟨ba, 0, none⟩), .string s] w fun e w' => e = .returned (.int .i64 (codeP (mkdirE T) s : Nat)) ∧ ArcP w' (fun g => S g ∨ w.heap.size ≤ g) ba bd (treeP T (mkdirT T) s) ∧ Same S w w' := by
  have HP : Hid (Calls Tryz.prog 88 #[.pointer (some ⟨ba, 1, none⟩), .string s] w fun e w' => TPost w a S ba bd (treeP T (mkdirT T) s) (codeP (mkdirE T) s) e w') := prog_mkdir ba bd S T a m s w h hT hSl (vars_on V0 hb) hs
  have hc12 := mkdir_le T s
  obtain ⟨c, hc⟩ : ∃ c, c = codeP (mkdirE T) s := ⟨_, rfl⟩
  obtain ⟨T2, hT2⟩ : ∃ t, t = treeP T (mkdirT T) s := ⟨_, rfl⟩
  rw [← hc, ← hT2] at HP ⊢
  rw [← hc] at hc12
  obtain ⟨ev, hev⟩ : ∃ ev, ev = errV a c := ⟨_, rfl⟩
  have HN : Hid (∀ w', Same S w w' → Calls Tryz.prog 43 #[ev] w' fun e w2 => e = .returned (.tuple #[.int .i64 (c : Int), .int .i64 (-1)]) ∧ Below w'.heap.size w' w2) := fun w' s' => by
    rw [hev]
    exact number_of c hc12 a w' ((vars_on V0 (hb.trans (s'.below hS hb.size))).sent)
  have HPP : Hid (Calls Tryz.prog 88 #[.pointer (some ⟨ba, 1, none⟩), .string s] w fun e w' => e = .returned ev ∧ ArcP w' (fun g => S g ∨ w.heap.size ≤ g) ba bd T2 ∧ Same S w w') := by rw [hev]; exact HP.out
  have HW : Hid (Calls Tryz.prog 46 #[.pointer (some ⟨ba, 0, none⟩), .string s] w fun e w' => e = .returned ev ∧ Hid (ArcP w' (fun g => S g ∨ w.heap.size ≤ g) ba bd T2) ∧ Hid (Same S w w')) := by
    clear HN hc hT2 hev h hT HP V0 hS hSl hb hs hc12
    go_enter Tryz.func46, Tryz.ntmps46
    go_wp2_with (go_at_call 88; refine HPP.out.mono ?_; rintro e w1 ⟨rfl, H1, S1⟩)
    go_ret
    exact ⟨rfl, H1, S1⟩
  clear hc hT2 hev h hT HP HPP hc12 V0 hS hSl hb
  go_enter Tryz.func27, Tryz.ntmps27
  go_wp2_with (first | (go_at_call 46; refine HW.out.mono ?_; rintro e w1 ⟨rfl, H1, S1⟩) | (go_at_call 43; refine (HN.out _ S1.out).mono ?_; rintro e w2 ⟨rfl, B2⟩; have HB2 : Hid (Below w1.heap.size w1 w2) := B2; clear B2))
  go_ret
  exact ⟨rfl, H1.out.on (U := fun _ => False) (below_sameT HB2.out) (fun _ _ h => h), S1.out.trans (below_sameT HB2.out)⟩
set_option maxRecDepth 100000 in
theorem plain_remove (w0 : World) (a : Nat → Addr) (m : Int) (V0 : Vars w0 a m) (ba bd : Nat) (S : Nat → Prop) (T : Tre) (s : ByteArray) (w : World) (h : ArcP w S ba bd T) (hT : WFT T) (hb : Below w0.heap.size w0 w) (hS : ∀ g, S g → w0.heap.size ≤ g) (hs : s.size ≤ 262144) :
    Calls Tryz.prog 56 #[.pointer (some ⟨ba, 0, none⟩), .string s] w fun e w' => e = .returned (.int .i64 (codeP (removeE T) s : Nat)) ∧ ArcP w' (fun g => S g ∨ w.heap.size ≤ g) ba bd (treeP T (removeT T) s) ∧ Same S w w' := by
  have HP : Hid (Calls Tryz.prog 169 #[.pointer (some ⟨ba, 1, none⟩), .string s] w fun e w' => TPost w a S ba bd (treeP T (removeT T) s) (codeP (removeE T) s) e w') := prog_remove ba bd S T a m s w h hT (vars_on V0 hb) hs
  have hc12 := remove_le T s
  obtain ⟨c, hc⟩ : ∃ c, c = codeP (removeE T) s := ⟨_, rfl⟩
  obtain ⟨T2, hT2⟩ : ∃ t, t = treeP T (removeT T) s := ⟨_, rfl⟩
  rw [← hc, ← hT2] at HP ⊢
  rw [← hc] at hc12
  obtain ⟨ev, hev⟩ : ∃ ev, ev = errV a c := ⟨_, rfl⟩
  have HN : Hid (∀ w', Same S w w' → Calls Tryz.prog 43 #[ev] w' fun e w2 => e = .returned (.tuple #[.int .i64 (c : Int), .int .i64 (-1)]) ∧ Below w'.heap.size w' w2) := fun w' s' => by
    rw [hev]
    exact number_of c hc12 a w' ((vars_on V0 (hb.trans (s'.below hS hb.size))).sent)
  have HPP : Hid (Calls Tryz.prog 169 #[.pointer (some ⟨ba, 1, none⟩), .string s] w fun e w' => e = .returned ev ∧ ArcP w' (fun g => S g ∨ w.heap.size ≤ g) ba bd T2 ∧ Same S w w') := by rw [hev]; exact HP.out
  have HW : Hid (Calls Tryz.prog 98 #[.pointer (some ⟨ba, 0, none⟩), .string s] w fun e w' => e = .returned ev ∧ Hid (ArcP w' (fun g => S g ∨ w.heap.size ≤ g) ba bd T2) ∧ Hid (Same S w w')) := by
    clear HN hc hT2 hev h hT HP V0 hS hb hs hc12
    go_enter Tryz.func98, Tryz.ntmps98
    go_wp2_with (go_at_call 169; refine HPP.out.mono ?_; rintro e w1 ⟨rfl, H1, S1⟩)
    go_ret
    exact ⟨rfl, H1, S1⟩
  clear hc hT2 hev h hT HP HPP hc12 V0 hS hb
  go_enter Tryz.func56, Tryz.ntmps56
  go_wp2_with (first | (go_at_call 98; refine HW.out.mono ?_; rintro e w1 ⟨rfl, H1, S1⟩) | (go_at_call 43; refine (HN.out _ S1.out).mono ?_; rintro e w2 ⟨rfl, B2⟩; have HB2 : Hid (Below w1.heap.size w1 w2) := B2; clear B2))
  go_ret
  exact ⟨rfl, H1.out.on (U := fun _ => False) (below_sameT HB2.out) (fun _ _ h => h), S1.out.trans (below_sameT HB2.out)⟩
set_option maxRecDepth 100000 in
theorem plain_get (w0 : World) (a : Nat → Addr) (m : Int) (V0 : Vars w0 a m) (ba bd : Nat) (S : Nat → Prop) (T : Tre) (s : ByteArray) (w : World) (h : ArcP w S ba bd T) (hT : WFT T) (hb : Below w0.heap.size w0 w) (hs : s.size ≤ 262144) :
    Calls Tryz.prog 51 #[.pointer (some ⟨ba, 0, none⟩), .int .i64 0, .string s] w fun e w' => e = .returned (.tuple #[.string (getD T s), .int .i64 (getC T s : Nat), .int .i64 (-1)]) ∧ Below w.heap.size w w' := by
  have HR : Hid (Calls Tryz.prog 94 #[.pointer (some ⟨ba, 0, none⟩), .int .i64 0, .string s] w fun e w' => e = .returned (.tuple #[.string (getD T s), errV a (getC T s)]) ∧ Below w.heap.size w w') := arc_read ba bd S T a m s w h hT (vars_on V0 hb) hs
  have hc12 := get_le T s
  obtain ⟨c, hc⟩ : ∃ c, c = getC T s := ⟨_, rfl⟩
  obtain ⟨dd, hdd⟩ : ∃ c, c = getD T s := ⟨_, rfl⟩
  rw [← hc, ← hdd] at HR ⊢
  rw [← hc] at hc12
  obtain ⟨ev, hev⟩ : ∃ ev, ev = errV a c := ⟨_, rfl⟩
  rw [← hev] at HR
  have HN : Hid (∀ w', Below w.heap.size w w' → Calls Tryz.prog 43 #[ev] w' fun e w2 => e = .returned (.tuple #[.int .i64 (c : Int), .int .i64 (-1)]) ∧ Below w'.heap.size w' w2) := fun w' h' => by
    rw [hev]
    exact number_of c hc12 a w' ((vars_on V0 (hb.trans (h'.mono hb.size))).sent)
  clear hc hdd hev h hT hc12 V0 hb
  go_enter Tryz.func51, Tryz.ntmps51
  go_wp2_with (first | (go_at_call 94; refine HR.out.mono ?_; rintro e w1 ⟨rfl, hb1⟩; have HB1 : Hid (Below w.heap.size w w1) := hb1; clear hb1) | (go_at_call 43; refine (HN.out _ HB1.out).mono ?_; rintro e w2 ⟨rfl, B2⟩; have HB2 : Hid (Below w.heap.size w w2) := HB1.out.trans (B2.mono HB1.out.size); clear B2))
  refine bodyPost_ret (results_tmp3 rfl _ _ _) rfl ?_
  exact ⟨rfl, HB2.out⟩
end
end Go.Proofs.YtapijhhmjjplmaaGreatDoor
namespace Go.Proofs.YtapijhhmjjplmaaGreatDoor
open Go.RowKit Go.Maps
/-- The archives of a pair. -/
structure Arcs (W : World) (pg po ba bb bd : Nat) (Sa Sb : Nat → Prop) (tv : Value) (T : Tre) : Prop where
  p2 : W.cell? ⟨pg, po + 2, none⟩ = some (.pointer (some ⟨ba, 0, none⟩))
  p3 : W.cell? ⟨pg, po + 3, none⟩ = some (.pointer (some ⟨bb, 0, none⟩))
  arc : ArcP W Sa ba bd T
  wf : WFT T
  row : ∃ bm be c, W.heap[bb]? = some (.cells (arcR bm be c tv) 218 (0, 0))
  sb : Sb bb
  tree : TreeR W (fun g => Sb g ∧ g ≠ bb) tv T
theorem Arcs.on {W W' : World} {U : Nat → Prop} {pg po ba bb bd : Nat} {Sa Sb : Nat → Prop} {tv : Value} {T : Tre} (h : Arcs W pg po ba bb bd Sa Sb tv T) (hs : Same U W W') (h1 : ∀ g, Sa g ∨ Sb g → ¬ U g) (h2 : ¬ U pg) : Arcs W' pg po ba bb bd Sa Sb tv T := by
  obtain ⟨bm, be, c, hr⟩ := h.row
  exact ⟨hs.cell h2 h.p2, hs.cell h2 h.p3, h.arc.on hs (fun g hg => h1 g (.inl hg)), h.wf, ⟨bm, be, c, by rw [hs.block bb (lt_of_heap' hr) (h1 bb (.inr h.sb))]; exact hr⟩, h.sb, OwnS.on h.tree hs (fun g hg => h1 g (.inr (h.tree.2 g hg).1))⟩
theorem Arcs.c7 {W : World} {pg po ba bb bd : Nat} {Sa Sb : Nat → Prop} {tv : Value} {T : Tre} (h : Arcs W pg po ba bb bd Sa Sb tv T) : W.cell? ⟨bb, 7, none⟩ = some tv := by
  obtain ⟨bm, be, c, hr⟩ := h.row
  exact cell_of_row _ _ _ _ _ _ hr
theorem Arcs.below {W W' : World} {pg po ba bb bd : Nat} {Sa Sb : Nat → Prop} {tv : Value} {T : Tre} (h : Arcs W pg po ba bb bd Sa Sb tv T) (hb : Below W.heap.size W W') : Arcs W' pg po ba bb bd Sa Sb tv T := h.on (U := fun _ => False) (.of_below hb) (fun _ _ h => h) (fun h => h)
set_option maxRecDepth 100000 in
set_option maxHeartbeats 2000000 in
theorem ltold_get (W : World) (a : Nat → Addr) (mx : Int) (bw pg po ba bb bd : Nat) (Sa Sb : Nat → Prop) (tv : Value) (T : Tre) (x : Stp) (hk : x.kind = 19) (hxa : x.a = 0) (hxs : x.s.size ≤ 262144) (H : Arcs W pg po ba bb bd Sa Sb tv T) (hV : Vars W a mx) :
    Calls Tryz.prog 76 #[.pointer (some ⟨bw, 0, none⟩), .pointer (some ⟨pg, po, none⟩), stpV x] W fun e W' => e = .returned (.bool true) ∧ Below W.heap.size W W' := by
  obtain ⟨kd, xa, xb, xd, xs, xt⟩ := x
  simp only at hk hxa hxs
  subst hk
  subst hxa
  obtain ⟨W1, hW1⟩ : ∃ W1, W1 = W.alloc (.cells #[.int .i64 19, .int .i64 0, .int .i64 xb, .int .i64 xd, .string xs, .string xt] 67) := ⟨_, rfl⟩
  have hb1 : Below W.heap.size W W1 := by rw [hW1]; exact (Below.refl _ _).alloc (Nat.le_refl _) _
  have H1 := H.below hb1
  have V1 := hV.on hb1
  have b1 : W1.cell? ⟨W.heap.size, 1, none⟩ = some (.int .i64 0) := by rw [hW1]; simp
  have b4 : W1.cell? ⟨W.heap.size, 4, none⟩ = some (.string xs) := by rw [hW1]; simp
  have c2 := H1.p2
  have HG : Hid (∀ V, Below W1.heap.size W1 V → Calls Tryz.prog 51 #[.pointer (some ⟨ba, 0, none⟩), .int .i64 0, .string xs] V fun e w' => e = .returned (.tuple #[.string (getD T xs), .int .i64 (getC T xs : Nat), .int .i64 (-1)]) ∧ Below V.heap.size V w') := fun V hb => plain_get V a mx (V1.on hb) ba bd Sa T xs V (H1.below hb).arc H1.wf (Below.refl _ _) hxs
  have HQ : Hid (∀ V, Below W1.heap.size W1 V → Calls Tryz.prog 129 #[.pointer (some ⟨bb, 0, none⟩), .int .i64 0, .string xs] V fun e w' => e = .returned (.tuple #[.string (getD T xs), .int .i64 (getC T xs : Nat), .int .i64 (-1)]) ∧ Below V.heap.size V w') := fun V hb => ref_get bb _ tv T xs V (H1.below hb).c7 (H1.below hb).tree H1.wf hxs
  have HH1 : Hid (∀ V, Below W1.heap.size W1 V → V.cell? ⟨pg, po + 2, none⟩ = some (.pointer (some ⟨ba, 0, none⟩)) ∧ V.cell? ⟨pg, po + 3, none⟩ = some (.pointer (some ⟨bb, 0, none⟩)) ∧ V.cell? ⟨W.heap.size, 1, none⟩ = some (.int .i64 0) ∧ V.cell? ⟨W.heap.size, 4, none⟩ = some (.string xs)) := fun V hb => ⟨(H1.below hb).p2, (H1.below hb).p3, by rw [hb.cell (block_lt_of_cell b1)]; exact b1, by rw [hb.cell (block_lt_of_cell b4)]; exact b4⟩
  have HB1 : Hid (Below W.heap.size W W1) := hb1
  obtain ⟨y, hy⟩ : ∃ y, y = getD T xs := ⟨_, rfl⟩
  obtain ⟨c, hc⟩ : ∃ c : Int, c = (getC T xs : Nat) := ⟨_, rfl⟩
  rw [← hy, ← hc] at HG HQ
  have HGG : Hid (Calls Tryz.prog 51 #[.pointer (some ⟨ba, 0, none⟩), .int .i64 0, .string xs] W1.drew fun e w' => e = .returned (.tuple #[.string y, .int .i64 c, .int .i64 (-1)]) ∧ Below W1.heap.size W1 w') := by
    refine Calls.mono (HG.out W1.drew ⟨rfl, rfl, rfl, Nat.le_refl _, fun _ _ => rfl⟩) ?_
    rintro e w' ⟨rfl, h⟩
    exact ⟨rfl, ⟨h.os, h.tape, h.output, h.size, h.block⟩⟩
  have hne : (y.toList == y.toList) = true := by rw [str_beq, decide_eq_true_iff]
  clear H1 H hV V1 hb1 hy hc HG
  go_enter Tryz.func76, Tryz.ntmps76
  go_wp2
  rw [← hW1]
  clear hW1
  go_region_held3 (fun w' => w'.cell? ⟨pg, po + 2, none⟩ = some (.pointer (some ⟨ba, 0, none⟩)) ∧ w'.cell? ⟨W.heap.size, 1, none⟩ = some (.int .i64 0) ∧ w'.cell? ⟨W.heap.size, 4, none⟩ = some (.string xs)) (((repeat' constructor) <;> first | assumption | (rw [World.cell?_drew]; assumption))) (first | (go_at_call 51; refine HGG.out.mono ?_; rintro e W2 ⟨rfl, B2⟩; have c22 : W2.cell? ⟨pg, po + 2, none⟩ = some (.pointer (some ⟨ba, 0, none⟩)) := (HH1.out W2 B2).1; have b12 : W2.cell? ⟨W.heap.size, 1, none⟩ = some (.int .i64 0) := (HH1.out W2 B2).2.2.1; have b42 : W2.cell? ⟨W.heap.size, 4, none⟩ = some (.string xs) := (HH1.out W2 B2).2.2.2; have HB2 : Hid (Below W1.heap.size W1 W2) := B2; clear B2))
  have HQQ : Hid (Calls Tryz.prog 129 #[.pointer (some ⟨bb, 0, none⟩), .int .i64 0, .string xs] W2.drew fun e w' => e = .returned (.tuple #[.string y, .int .i64 c, .int .i64 (-1)]) ∧ Below W2.heap.size W2 w') := by
    refine Calls.mono (HQ.out W2.drew ⟨HB2.out.os, HB2.out.tape, HB2.out.output, HB2.out.size, HB2.out.block⟩) ?_
    rintro e w' ⟨rfl, h⟩
    exact ⟨rfl, ⟨h.os, h.tape, h.output, h.size, h.block⟩⟩
  have c32 : W2.cell? ⟨pg, po + 3, none⟩ = some (.pointer (some ⟨bb, 0, none⟩)) := (HH1.out W2 HB2.out).2.1
  have HW2 : Hid (Below W.heap.size W W2) := HB1.out.trans (HB2.out.mono HB1.out.size)
  have HC2 : Hid (∀ V, Below W2.heap.size W2 V → V.cell? ⟨pg, po + 3, none⟩ = some (.pointer (some ⟨bb, 0, none⟩)) ∧ V.cell? ⟨W.heap.size, 1, none⟩ = some (.int .i64 0) ∧ V.cell? ⟨W.heap.size, 4, none⟩ = some (.string xs)) := fun V hb => ⟨by rw [hb.cell (block_lt_of_cell c32)]; exact c32, by rw [hb.cell (block_lt_of_cell b12)]; exact b12, by rw [hb.cell (block_lt_of_cell b42)]; exact b42⟩
  clear HQ HGG HH1 HB1 c22 b1 b4 c2 HB2
  go_wp2
  go_region_held3 (fun w' => w'.cell? ⟨pg, po + 3, none⟩ = some (.pointer (some ⟨bb, 0, none⟩)) ∧ w'.cell? ⟨W.heap.size, 1, none⟩ = some (.int .i64 0) ∧ w'.cell? ⟨W.heap.size, 4, none⟩ = some (.string xs)) (((repeat' constructor) <;> first | assumption | (rw [World.cell?_drew]; assumption))) (first | (go_at_call 129; refine HQQ.out.mono ?_; rintro e W3 ⟨rfl, B3⟩; have c33 : W3.cell? ⟨pg, po + 3, none⟩ = some (.pointer (some ⟨bb, 0, none⟩)) := (HC2.out W3 B3).1; have b13 : W3.cell? ⟨W.heap.size, 1, none⟩ = some (.int .i64 0) := (HC2.out W3 B3).2.1; have b43 : W3.cell? ⟨W.heap.size, 4, none⟩ = some (.string xs) := (HC2.out W3 B3).2.2; have HB3 : Hid (Below W2.heap.size W2 W3) := B3; clear B3))
  clear HQQ HC2
  go_wp2
  all_goals
    go_ret
    exact ⟨rfl, HW2.out.trans (HB3.out.mono HW2.out.size)⟩
end Go.Proofs.YtapijhhmjjplmaaGreatDoor
namespace Go.Proofs.YtapijhhmjjplmaaGreatDoor
open Go.RowKit Go.Maps
set_option maxRecDepth 100000 in
set_option maxHeartbeats 2000000 in
theorem lmount_no (w0 W : World) (a : Nat → Addr) (S0 : Sent w0 a) (N bw bm pg po bd be m : Nat) (Sd Se : Nat → Prop) (d : Dsk) (r : RDsk) (left : Int) (row : Array Value) (rt : TypeId) (prow : Array Value) (pt : TypeId) (H : Duo w0 W N pg po bd be m Sd Se d r)
    (hb : W.heap[bw]? = some (.cells row rt (0, 0))) (hrow : row[5]? = some (.int .i64 left)) (hrow0 : row[0]? = some (.pointer (some ⟨bm, 0, none⟩))) (hlo : -1000000 ≤ left) (hhi : left ≤ 1000000) (hbw : w0.heap.size ≤ bw ∧ ¬ Sd bw ∧ ¬ Se bw ∧ bw ≠ pg)
    (hp : W.heap[pg]? = some (.cells prow pt (0, 0))) (hp2 : ∃ v, prow[po + 2]? = some v) (hp3 : ∃ v, prow[po + 3]? = some v) (hno : d.safe.length < 4 ∨ d.at 0 H.rel.size.1 ≠ headS d.safe.length) (hnr : d.safe.length < 4 ∨ r.seen[0]? ≠ some (headS d.safe.length)) :
    Calls Tryz.prog 73 #[.pointer (some ⟨bw, 0, none⟩), .pointer (some ⟨pg, po, none⟩)] W fun e W' => e = .returned (.bool true) ∧ Same (fun g => Sd g ∨ g = bw ∨ g = pg) W W' ∧ DskAt W' Sd bd m d ∧ W'.heap[bw]? = some (.cells (row.setIfInBounds 5 (.int .i64 (left - d.safe.length))) rt (0, 0)) ∧ W'.heap[pg]? = some (.cells ((prow.setIfInBounds (po + 2) (.pointer none)).setIfInBounds (po + 3) (.pointer none)) pt (0, 0)) := by
  have c1 : W.cell? ⟨pg, po + 1, none⟩ = some (.pointer (some ⟨be, 0, none⟩)) := H.p1
  have l1 : W.cell? ⟨bw, 5, none⟩ = some (.int .i64 left) := by rw [cell_of_row _ _ _ _ _ _ hb]; exact hrow
  have f1 := frozen_of_row W bw 5 _ _ hb
  obtain ⟨gn, cn, t1, -⟩ := H.tell
  have hsz := H.rel.size
  have hre : r.seen.length = d.safe.length := H.rel.seenLen
  have HM : Hid (∀ V, Duo w0 V N pg po bd be m Sd Se d r → Calls Tryz.prog 26 #[.pointer (some ⟨bd, 0, none⟩)] V fun e w' => e = .returned (.tuple #[.pointer none, .int .i64 3]) ∧ DskAt w' Sd bd m d ∧ Same Sd V w') := fun V hV => plain_mount_no w0 a S0 bd m d.safe.length Sd d V hV.dsk hV.base (fun g h => hV.lo g (.inl h)) hsz.1 hsz.2 rfl hno
  have HQ : Hid (∀ V, RefAt V Se be r → Calls Tryz.prog 120 #[.pointer (some ⟨bm, 0, none⟩), .pointer (some ⟨be, 0, none⟩)] V fun e w' => e = .returned (.tuple #[.pointer none, .int .i64 3]) ∧ Below V.heap.size V w') := fun V hV => ref_mount_no _ be d.safe.length Se r V hV hsz.1 hsz.2 hre hnr
  obtain ⟨n, hn⟩ : ∃ n, n = d.safe.length := ⟨_, rfl⟩
  rw [← hn] at t1 hsz ⊢
  have hwrap : IntKind.i64.wrap (left - (n : Int)) = left - n := by rw [IntKind.wrap_i64]; omega
  have nb1 : bw ≠ pg := hbw.2.2.2
  have nb2 : bw ≠ be := by
    rintro rfl
    obtain ⟨_, _, _, hv⟩ := H.ref
    exact hbw.2.2.1 hv.sb
  have HH2 : Hid (∀ V, V = (W.drew.setCell ⟨bw, 5, none⟩ (.int .i64 (left - n))) → Duo w0 V N pg po bd be m Sd Se d r ∧ Same (fun g => g = bw) W V ∧ V.heap[bw]? = some (.cells (row.setIfInBounds 5 (.int .i64 (left - n))) rt (0, 0)) ∧ V.heap[pg]? = some (.cells prow pt (0, 0))) := by
    rintro V rfl
    have hs : Same (· = bw) W.drew (W.drew.setCell ⟨bw, 5, none⟩ (.int .i64 (left - n))) := Same.setCell (S := (· = bw)) (Same.refl _ _) ⟨bw, 5, none⟩ rfl _
    refine ⟨H.drew.on hs (by rintro g rfl; exact hbw.1) (by rintro g (hg | hg) rfl; exact hbw.2.1 hg; exact hbw.2.2.1 hg) (fun h => nb1 h.symm), ?_, ?_, ?_⟩
    · exact ((Same.refl (· = bw) W).drew).trans hs
    · exact heap_setCell_same W.drew bw 5 _ _ _ hb
    · rw [hs.block pg (lt_of_heap' hp) (fun h => nb1 h.symm)]; exact hp
  have HNP : Hid (¬ Sd pg ∧ ¬ Sd bw ∧ bw ≠ pg) := ⟨H.np.1, hbw.2.1, nb1⟩
  have HR0 : Hid ((row.setIfInBounds 5 (.int .i64 (left - n)))[0]? = some (.pointer (some ⟨bm, 0, none⟩))) := by
    show _ = _
    rw [Array.getElem?_setIfInBounds_ne (by decide)]
    exact hrow0
  have HP : Hid ((∃ v, prow[po + 2]? = some v) ∧ ∃ v, prow[po + 3]? = some v) := ⟨hp2, hp3⟩
  clear H hb hrow hrow0 hbw S0 hn hno hnr hre hp hp2 hp3
  go_enter Tryz.func73, Tryz.ntmps73
  go_wp2
  have HH3 := HH2.out ((W.setCell ⟨bw, 5, none⟩ (.int .i64 (left - n))).drew) rfl
  obtain ⟨W2, hW2⟩ : ∃ W2, W2 = (W.setCell ⟨bw, 5, none⟩ (.int .i64 (left - n))).drew := ⟨_, rfl⟩
  rw [← hW2] at HH3
  have HD2 : Hid (Duo w0 W2 N pg po bd be m Sd Se d r) := HH3.1
  have HS2 : Hid (Same (fun g => g = bw) W W2 ∧ W2.heap[bw]? = some (.cells (row.setIfInBounds 5 (.int .i64 (left - n))) rt (0, 0)) ∧ W2.heap[pg]? = some (.cells prow pt (0, 0))) := HH3.2
  clear HH2 HH3
  go_region
  rw [← hW2]
  clear hW2 c1 l1 f1 t1 nb2 hwrap hlo hhi
  have c0 := HD2.out.p0
  have HM2 := HM.out W2 HD2.out
  go_wp2_with fail
  refine HM2.mono ?_
  rintro e W3 ⟨rfl, D3, S3⟩
  obtain ⟨hp0, hp1, hr3, hb3⟩ := HD2.out.turnD S3
  have g3 : W3.heap[pg]? = some (.cells prow pt (0, 0)) := by rw [S3.block pg (lt_of_heap' HS2.out.2.2) HNP.out.1]; exact HS2.out.2.2
  have g4 : W3.heap[bw]? = some (.cells (row.setIfInBounds 5 (.int .i64 (left - n))) rt (0, 0)) := by rw [S3.block bw (lt_of_heap' HS2.out.2.1) HNP.out.2.1]; exact HS2.out.2.1
  have m0 : W3.cell? ⟨bw, 0, none⟩ = some (.pointer (some ⟨bm, 0, none⟩)) := by rw [cell_of_row _ _ _ _ _ _ g4]; exact HR0.out
  have HK3 : Hid (W3.heap[pg]? = some (.cells prow pt (0, 0)) ∧ W3.heap[bw]? = some (.cells (row.setIfInBounds 5 (.int .i64 (left - n))) rt (0, 0)) ∧ DskAt W3 Sd bd m d ∧ Same (fun g => Sd g ∨ g = bw ∨ g = pg) W W3) := ⟨g3, g4, D3, (HS2.out.1.weak (fun _ h => .inr (.inl h))).trans (S3.weak (fun _ h => .inl h))⟩
  have HQQ : Hid (Calls Tryz.prog 120 #[.pointer (some ⟨bm, 0, none⟩), .pointer (some ⟨be, 0, none⟩)] W3.drew fun e w' => e = .returned (.tuple #[.pointer none, .int .i64 3]) ∧ Below W3.heap.size W3 w') := by
    refine Calls.mono (HQ.out W3.drew (hr3.on (Same.refl (fun _ => False) W3).drew (fun _ _ h => h))) ?_
    rintro e w' ⟨rfl, h⟩
    exact ⟨rfl, ⟨h.os, h.tape, h.output, h.size, h.block⟩⟩
  have HC3 : Hid (∀ V, Below W3.heap.size W3 V → V.cell? ⟨bw, 0, none⟩ = some (.pointer (some ⟨bm, 0, none⟩)) ∧ V.cell? ⟨pg, po + 1, none⟩ = some (.pointer (some ⟨be, 0, none⟩))) := fun V hb => ⟨by rw [hb.cell (block_lt_of_cell m0)]; exact m0, by rw [hb.cell (block_lt_of_cell hp1)]; exact hp1⟩
  clear D3 S3 HM HM2 hr3 hb3 hp0 c0 g3 g4 HQ HD2 HS2
  go_wp2
  go_region_held3 (fun w' => w'.cell? ⟨bw, 0, none⟩ = some (.pointer (some ⟨bm, 0, none⟩)) ∧ w'.cell? ⟨pg, po + 1, none⟩ = some (.pointer (some ⟨be, 0, none⟩))) ((constructor <;> first | assumption | (rw [World.cell?_drew]; assumption))) (first | (go_at_call 120; refine HQQ.out.mono ?_; rintro e W4 ⟨rfl, B4⟩; have c04 : W4.cell? ⟨bw, 0, none⟩ = some (.pointer (some ⟨bm, 0, none⟩)) := (HC3.out W4 B4).1; have c14 : W4.cell? ⟨pg, po + 1, none⟩ = some (.pointer (some ⟨be, 0, none⟩)) := (HC3.out W4 B4).2; have HB4 : Hid (Below W3.heap.size W3 W4) := B4; clear B4))
  have k4 : W4.heap[pg]? = some (.cells prow pt (0, 0)) := by rw [HB4.out.block pg (lt_of_heap' HK3.out.1)]; exact HK3.out.1
  obtain ⟨⟨v2, hv2⟩, v3, hv3⟩ := HP.out
  have q2 : W4.cell? ⟨pg, po + 2, none⟩ = some v2 := by rw [cell_of_row _ _ _ _ _ _ k4]; exact hv2
  have q3 : W4.cell? ⟨pg, po + 3, none⟩ = some v3 := by rw [cell_of_row _ _ _ _ _ _ k4]; exact hv3
  have z2 := frozen_of_row W4 pg (po + 2) _ _ k4
  have z3 := frozen_of_row W4 pg (po + 3) _ _ k4
  have HK4 : Hid (W4.heap[pg]? = some (.cells prow pt (0, 0))) := k4
  clear HQQ HC3 c04 c14 m0 hp1 k4 hv2 hv3 HP
  go_wp2
  all_goals
    go_ret
    obtain ⟨g3, g4, D3, S3⟩ := HK3.out
    have hs5 : Same (· = pg) W4 ((W4.setCell ⟨pg, po + 2, none⟩ (.pointer none)).setCell ⟨pg, po + 3, none⟩ (.pointer none)) := ((Same.refl (· = pg) W4).setCell ⟨pg, po + 2, none⟩ rfl _).setCell ⟨pg, po + 3, none⟩ rfl _
    have hs6 : Same (· = pg) W3 ((W4.setCell ⟨pg, po + 2, none⟩ (.pointer none)).setCell ⟨pg, po + 3, none⟩ (.pointer none)) := (Same.of_below HB4.out).trans hs5
    refine ⟨rfl, S3.trans (hs6.weak (fun _ h => .inr (.inr h))), D3.on hs6 (fun g hg h => HNP.out.1 (by rw [← h]; exact hg)), ?_, ?_⟩
    · rw [hs6.block bw (lt_of_heap' g4) HNP.out.2.2]; exact g4
    · rw [heap_setCell_same _ pg (po + 3) _ _ _ (heap_setCell_same _ pg (po + 2) _ _ _ HK4.out)]
end Go.Proofs.YtapijhhmjjplmaaGreatDoor
