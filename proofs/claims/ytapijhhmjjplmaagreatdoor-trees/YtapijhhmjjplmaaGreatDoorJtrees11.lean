/- OWN TEXT: joined of: PT19 LT2 LT10 LT11 TS4L TS6 TM1 TS7 Laid CardFacts TreesCard. -/
import Derived.BigQuiet
import Derived.Deep.AppendLies
import Derived.Deep.RegionLaw
import Derived.Test.YtapijhhmjjplmaaGreatDoorRows
import Derived.ProofKit
import Derived.LaidMore
import Derived.LaidLaws
import Derived.LaidHandle
import Derived.SevenTiedAt
import Derived.Test.YtapijhhmjjplmaaGreatDoorCards
import Derived.Test.YtapijhhmjjplmaaGreatDoorTie
import Derived.Carry
import Derived.Stop.Joined
import Derived.Test.YtapijhhmjjplmaaGreatDoorJtrees10
namespace Go.Proofs.YtapijhhmjjplmaaGreatDoor
open Go.RowKit Go.Maps
def W6 (w : World) (most : Int) : World := (((((w.alloc (.cells #[.int .i64 most] 3)).alloc (.cells #[.slice none 0 0] 48)).alloc (.cells #[.int .i64 0] 3)).alloc (.cells #[.int .i64 (-1)] 3)).alloc (.cells #[.bool false] 4)).alloc (.cells #[.bool false] 4)
theorem W6_size (w : World) (most : Int) : (W6 w most).heap.size = w.heap.size + 6 := by simp [W6]
theorem W6_below (w : World) (most : Int) : Below w.heap.size w (W6 w most) := by
  unfold W6
  exact ((((((Below.refl _ _).alloc (Nat.le_refl _) _).alloc (by simp) _).alloc (by simp; omega) _).alloc (by simp; omega) _).alloc (by simp; omega) _).alloc (by simp; omega) _
theorem heap_at (w : World) (o : Obj) (n : Nat) (h : w.heap.size = n) : (w.alloc o).heap[n]? = some o := by rw [← h]; exact heap_alloc_new w o
theorem W6_box (w : World) (most : Int) : LBox (W6 w most) w.heap.size (w.heap.size + 6) most (.slice none 0 0) [] 0 false := by
  have hs := W6_size w most
  refine ⟨?_, ?_, ?_, ?_, ?_, ?_, ⟨rfl, .inl ⟨rfl, rfl⟩⟩, ⟨Nat.le_refl _, by omega⟩⟩ <;> unfold W6
  · rw [heapOldI _ _ (by simp <;> omega), heapOldI _ _ (by simp <;> omega), heapOldI _ _ (by simp <;> omega), heapOldI _ _ (by simp <;> omega), heapOldI _ _ (by simp)]
    exact heap_alloc_new w _
  · rw [heapOldI _ _ (by simp <;> omega), heapOldI _ _ (by simp <;> omega), heapOldI _ _ (by simp <;> omega), heapOldI _ _ (by simp)]
    exact heap_at _ _ _ (by simp)
  · rw [heapOldI _ _ (by simp <;> omega), heapOldI _ _ (by simp <;> omega), heapOldI _ _ (by simp)]
    exact heap_at _ _ _ (by simp)
  · rw [heapOldI _ _ (by simp <;> omega), heapOldI _ _ (by simp)]
    exact heap_at _ _ _ (by simp)
  · rw [heapOldI _ _ (by simp)]
    exact heap_at _ _ _ (by simp)
  · exact heap_at _ _ _ (by simp)
theorem LBox.on {w w' : World} {H B : Nat} {most : Int} {ec : Int} {ov : Bool} (h : LBox w H B most (.slice none 0 0) [] ec ov) (hb : Below w.heap.size w w') : LBox w' H w'.heap.size most (.slice none 0 0) [] ec ov := by
  obtain ⟨h1, h2⟩ := h.hB
  have hs := hb.size
  exact ⟨by rw [hb.block _ (by omega)]; exact h.most, by rw [hb.block _ (by omega)]; exact h.l, by rw [hb.block _ (by omega)]; exact h.e, by rw [hb.block _ (by omega)]; exact h.at_, by rw [hb.block _ (by omega)]; exact h.over, by rw [hb.block _ (by omega)]; exact h.more, ⟨rfl, .inl ⟨rfl, rfl⟩⟩, ⟨by omega, Nat.le_refl _⟩⟩
/-- What plain.List leaves. -/
def PlainL (w : World) (T : Tre) (s : ByteArray) (most : Int) (e : Ending) (w' : World) : Prop := ∃ v, e = .returned (.tuple #[v, .int .i64 (listC T s : Nat), .int .i64 (-1), .bool false]) ∧ Below w.heap.size w w' ∧ ((listC T s ≠ 0 ∧ v = .slice none 0 0) ∨ ∃ l, pathOf s = some l ∧ listC T s = 0 ∧ w'.ownsRow w.heap.size 52 3 v (takeM most (entsT T l)).length (entsV (takeM most (entsT T l))))
/-- The variables behind the sequence. -/
def EndL (w : World) (T : Tre) (s : ByteArray) (most : Int) (w' : World) : Prop := ∃ v, w'.cell? ⟨w.heap.size + 1, 0, none⟩ = some v ∧ w'.cell? ⟨w.heap.size + 2, 0, none⟩ = some (.int .i64 (listC T s : Nat)) ∧ w'.cell? ⟨w.heap.size + 3, 0, none⟩ = some (.int .i64 (-1)) ∧ w'.cell? ⟨w.heap.size + 5, 0, none⟩ = some (.bool false) ∧ Below w.heap.size w w' ∧ ((listC T s ≠ 0 ∧ v = .slice none 0 0) ∨ ∃ l, pathOf s = some l ∧ listC T s = 0 ∧ w'.ownsRow w.heap.size 52 3 v (takeM most (entsT T l)).length (entsV (takeM most (entsT T l))))
set_option maxRecDepth 100000 in
set_option maxHeartbeats 2000000 in
theorem plain_list (ba bd : Nat) (S : Nat → Prop) (T : Tre) (a : Nat → Addr) (m : Int) (s : ByteArray) (most : Int) (w : World) (h : ArcP w S ba bd T) (hT : WFT T) (hV : Vars w a m) (hs : s.size ≤ 262144) (hm : inR most) :
    Calls Tryz.prog 28 #[.pointer (some ⟨ba, 0, none⟩), .int .i64 0, .string s, .int .i64 most] w fun e w' => PlainL w T s most e w' := by
  have hmf : ∀ (fn : Fn) (first cap : Array Value) (w : World), (Instr.makeFunc fn first cap).run Tryz.prog w = .ok (.func fn first cap) w := fun _ _ _ _ => rfl
  have heq : ∀ (fn : Fn) (caps : Array Value) (w : World), (binOp BinOp.eql 97 (.func fn #[] caps) .nilFunc).run Tryz.prog w = .ok (.bool false) w := fun _ _ _ => by rfl
  have HA : Hid (Calls Tryz.prog 47 #[.pointer (some ⟨ba, 0, none⟩), .int .i64 0, .string s] (W6 w most) fun e w' => ArcL (W6 w most) a ba s e w') := arc_List ba s _ a m (hV.on (W6_below w most)) hs
  have HSQ : Hid (∀ w1 b0 b1 b2 b3 nv ev, Below (W6 w most).heap.size (W6 w most) w1 → w1.cell? ⟨b0, 0, none⟩ = some (.pointer (some ⟨ba, 0, none⟩)) → w1.cell? ⟨b1, 0, none⟩ = some (.int .i64 0) → w1.cell? ⟨b2, 0, none⟩ = some nv → w1.cell? ⟨b3, 0, none⟩ = some ev → ((∃ l, pathOf s = some l ∧ ev = .nilIface ∧ NamesV w1 nv l) ∨ (pathOf s = none ∧ ev = rv (a 4))) → Calls Tryz.prog 90 #[.func (.func 48) #[] #[.pointer (some ⟨w.heap.size + 4, 0, none⟩), .pointer (some ⟨w.heap.size + 5, 0, none⟩), .pointer (some ⟨w.heap.size + 2, 0, none⟩), .pointer (some ⟨w.heap.size + 3, 0, none⟩), .pointer (some ⟨w.heap.size + 1, 0, none⟩), .pointer (some ⟨w.heap.size, 0, none⟩)], .pointer (some ⟨b3, 0, none⟩), .pointer (some ⟨b0, 0, none⟩), .pointer (some ⟨b1, 0, none⟩), .pointer (some ⟨b2, 0, none⟩)] w1 fun e w' => e = .returned (.tuple #[]) ∧ Hid (EndL w T s most w')) := by
    intro w1 b0 b1 b2 b3 nv ev hb1 k0 k1 k2 k3 hor
    have hbw : Below w.heap.size w w1 := (W6_below w most).trans (hb1.mono (by rw [W6_size]; omega))
    have hlb : LBox w1 w.heap.size w1.heap.size most (.slice none 0 0) [] 0 false := (W6_box w most).on hb1
    have fin : ∀ (B : Nat) (lv : Value) (R : List (ByteArray × Bool × Nat)) (ec : Int) (ov : Bool) (w' : World), LBox w' w.heap.size B most lv R ec ov → Same (fun g => w.heap.size ≤ g) w1 w' → w'.cell? ⟨w.heap.size + 1, 0, none⟩ = some lv ∧ w'.cell? ⟨w.heap.size + 2, 0, none⟩ = some (.int .i64 ec) ∧ w'.cell? ⟨w.heap.size + 3, 0, none⟩ = some (.int .i64 (-1)) ∧ w'.cell? ⟨w.heap.size + 5, 0, none⟩ = some (.bool false) ∧ Below w.heap.size w w' := fun B lv R ec ov w' h hs =>
      ⟨cell_of_row _ _ _ _ _ _ h.l, cell_of_row _ _ _ _ _ _ h.e, cell_of_row _ _ _ _ _ _ h.at_, cell_of_row _ _ _ _ _ _ h.more, hbw.trans (hs.below (fun _ h => h) hbw.size)⟩
    rcases hor with ⟨l, hl, rfl, hnv⟩ | ⟨hl, rfl⟩
    · have hvl := pathOf_valid hl
      refine (prog_seq w.heap.size most ba bd S T a m nv l b0 b1 b2 b3 w1 hm (h.on (U := fun _ => False) (below_sameT hbw) (fun _ _ h => h)) hT hvl.1 hvl.2 hnv.at (hV.on hbw) hlb k0 k1 k2 k3).mono ?_
      rintro e w' ⟨rfl, ⟨B, lv, hg, hbad⟩, hs'⟩
      have hlc : listC T s = listE T l := by unfold listC; rw [hl]
      refine ⟨rfl, ?_⟩
      by_cases hz : listE T l = 0
      · obtain ⟨ov, hl'⟩ := hg hz
        obtain ⟨g1, g2, g3, g4, g5⟩ := fin _ _ _ _ _ w' hl' hs'
        refine ⟨lv, g1, ?_, g3, g4, g5, .inr ⟨l, hl, by rw [hlc, hz], own_base hl'.own (by have := hl'.hB.1; omega)⟩⟩
        rw [g2, hlc, hz]
        rfl
      · obtain ⟨hlv, hl'⟩ := hbad hz
        obtain ⟨g1, g2, g3, g4, g5⟩ := fin _ _ _ _ _ w' hl' hs'
        exact ⟨lv, g1, by rw [g2, hlc], g3, g4, g5, .inl ⟨by rw [hlc]; exact hz, hlv⟩⟩
    · refine (prog_seq_bad w.heap.size most a b0 b1 b2 b3 w1 (hV.on hbw).sent hlb k3).mono ?_
      rintro e w' ⟨rfl, hl', hs'⟩
      have hlc : listC T s = 5 := list_none hl
      obtain ⟨g1, g2, g3, g4, g5⟩ := fin _ _ _ _ _ w' hl' hs'
      exact ⟨rfl, _, g1, by rw [g2, hlc]; rfl, g3, g4, g5, .inl ⟨by rw [hlc]; decide, rfl⟩⟩
  obtain ⟨c, hc⟩ : ∃ c, c = listC T s := ⟨_, rfl⟩
  have HWW : Hid (W6 w most = (((((w.alloc (.cells #[.int .i64 most] 3)).alloc (.cells #[.slice none 0 0] 48)).alloc (.cells #[.int .i64 0] 3)).alloc (.cells #[.int .i64 (-1)] 3)).alloc (.cells #[.bool false] 4)).alloc (.cells #[.bool false] 4)) := rfl
  clear h hT hV hs
  go_enter Tryz.func28, Tryz.ntmps28
  go_wp2_with fail
  rw [← HWW.out]
  refine HA.out.mono ?_
  rintro e w1 ⟨b0, b1, b2, b3, nv, ev, rfl, hb1, k0, k1, k2, k3, hor⟩
  have HS1 := HSQ.out w1 b0 b1 b2 b3 nv ev hb1 k0 k1 k2 k3 hor
  clear HA HSQ HWW hb1 k0 k1 k2 k3 hor
  go_wp2_with fail
  refine HS1.mono ?_
  rintro e w2 ⟨rfl, HE⟩
  obtain ⟨v, g1, g2, g3, g5, hb, hor⟩ := HE.out
  rw [← hc] at g2
  obtain ⟨ao, n, cp, rfl⟩ : ∃ ao n cp, v = .slice ao n cp := by
    rcases hor with ⟨-, h⟩ | ⟨l, -, -, h⟩
    · exact ⟨_, _, _, h⟩
    · obtain ⟨ao, cp, h⟩ := own_sh h
      exact ⟨_, _, _, h⟩
  have g2 : w2.cell? ⟨w.heap.size + 1 + 1, 0, none⟩ = some (.int .i64 (c : Int)) := g2
  have g3 : w2.cell? ⟨w.heap.size + 1 + 1 + 1, 0, none⟩ = some (.int .i64 (-1)) := g3
  have g5 : w2.cell? ⟨w.heap.size + 1 + 1 + 1 + 1 + 1, 0, none⟩ = some (.bool false) := g5
  have HF : Hid (∀ k, PlainL w T s most (.returned (.tuple #[.slice ao n cp, .int .i64 (c : Int), .int .i64 (-1), .bool false])) (w2.drewN k)) := fun k => ⟨_, by rw [← hc], hb.trans ⟨rfl, rfl, rfl, Nat.le_refl _, fun _ _ => rfl⟩, hor⟩
  clear hb hor HE HS1 hc
  go_wp2
  go_quiet (fail)
  go_wp2
  refine bodyPost_ret (results_tmp4 rfl _ _ _) rfl ?_
  exact HF.out _
end Go.Proofs.YtapijhhmjjplmaaGreatDoor
namespace Go.Proofs.YtapijhhmjjplmaaGreatDoor
open Go.RowKit
def DT (x : Stp) : Bool := decide (x.kind = 3) || (decide (12 ≤ x.kind) && decide (x.kind ≤ 16)) || ((decide (x.kind = 19) || decide (x.kind = 20)) && decide (x.a = 0))
set_option maxHeartbeats 2000000 in
theorem doesT (x : Stp) (h1 : 1 ≤ x.kind) (h2 : x.kind ≤ 22) (W : World) :
    Calls Tryz.prog 40 #[stpV x, .int .i64 1699848] W fun e W' => e = .returned (.bool (DT x)) ∧ Below W.heap.size W W' := by
  obtain ⟨k, a, b, d, s, t⟩ := x
  by_cases h0 : a = 0
  · subst h0
    have hk : k = 1 ∨ k = 2 ∨ k = 3 ∨ k = 4 ∨ k = 5 ∨ k = 6 ∨ k = 7 ∨ k = 8 ∨ k = 9 ∨ k = 10 ∨ k = 11 ∨ k = 12 ∨ k = 13 ∨ k = 14 ∨ k = 15 ∨ k = 16 ∨ k = 17 ∨ k = 18 ∨ k = 19 ∨ k = 20 ∨ k = 21 ∨ k = 22 := by simp only at h1 h2; omega
    clear h1 h2
    rcases hk with rfl | rfl | rfl | rfl | rfl | rfl | rfl | rfl | rfl | rfl | rfl | rfl | rfl | rfl | rfl | rfl | rfl | rfl | rfl | rfl | rfl | rfl
    all_goals
      go_enter Tryz.func40, Tryz.ntmps40
      go_wp2
      all_goals
        go_ret
        exact ⟨rfl, (Below.refl _ _).alloc (Nat.le_refl _) _⟩
  · have hb : ((a : Int) == 0) = false := by rw [beq_eq_false_iff_ne]; exact h0
    have HD : Hid (decide (a = 0) = false) := decide_eq_false h0
    have hk : k = 1 ∨ k = 2 ∨ k = 3 ∨ k = 4 ∨ k = 5 ∨ k = 6 ∨ k = 7 ∨ k = 8 ∨ k = 9 ∨ k = 10 ∨ k = 11 ∨ k = 12 ∨ k = 13 ∨ k = 14 ∨ k = 15 ∨ k = 16 ∨ k = 17 ∨ k = 18 ∨ k = 19 ∨ k = 20 ∨ k = 21 ∨ k = 22 := by simp only at h1 h2; omega
    clear h1 h2
    rcases hk with rfl | rfl | rfl | rfl | rfl | rfl | rfl | rfl | rfl | rfl | rfl | rfl | rfl | rfl | rfl | rfl | rfl | rfl | rfl | rfl | rfl | rfl
    all_goals
      go_enter Tryz.func40, Tryz.ntmps40
      go_wp2
      all_goals
        go_ret
        refine ⟨?_, (Below.refl _ _).alloc (Nat.le_refl _) _⟩
        unfold DT
        simp only [HD.out]
        rfl
/-- A list of entries in memory, read. -/
def EntsAt (w : World) (v : Value) (E : List (ByteArray × Bool × Nat)) : Prop := ∃ ao cp, v = .slice ao E.length cp ∧ (0 < E.length → ∃ g, ao = some ⟨g, 0, none⟩ ∧ g < w.heap.size ∧ ∀ k (hk : k < E.length), w.cell? ⟨g, k * 3, none⟩ = some (.string E[k].1) ∧ w.cell? ⟨g, k * 3 + 1, none⟩ = some (.bool E[k].2.1) ∧ w.cell? ⟨g, k * 3 + 2, none⟩ = some (.int .i64 (E[k].2.2 : Int)))
theorem EntsAt.of_own {w : World} {B : Nat} {t : TypeId} {v : Value} {E : List (ByteArray × Bool × Nat)} (h : w.ownsRow B t 3 v E.length (entsV E)) : EntsAt w v E := by
  obtain ⟨ao, cp, rfl⟩ := own_sh h
  refine ⟨ao, cp, rfl, fun hn => ?_⟩
  obtain ⟨g, cap, hv, -, h2, h3⟩ := ents_cells h hn
  exact ⟨g, by injection hv, h2, h3⟩
theorem EntsAt.on {w w' : World} {v : Value} {E : List (ByteArray × Bool × Nat)} (h : EntsAt w v E) (hb : Below w.heap.size w w') : EntsAt w' v E := by
  obtain ⟨ao, cp, hv, h⟩ := h
  refine ⟨ao, cp, hv, fun hn => ?_⟩
  obtain ⟨g, hg, hl, hc⟩ := h hn
  refine ⟨g, hg, Nat.lt_of_lt_of_le hl hb.size, fun k hk => ?_⟩
  obtain ⟨h1, h2, h3⟩ := hc k hk
  exact ⟨by rw [hb.cell hl]; exact h1, by rw [hb.cell hl]; exact h2, by rw [hb.cell hl]; exact h3⟩
set_option maxRecDepth 100000 in
set_option maxHeartbeats 2000000 in
theorem same_entries (v u : Value) (E : List (ByteArray × Bool × Nat)) (w : World) (hv : EntsAt w v E) (hu : EntsAt w u E) (hE : E.length ≤ 256) :
    Calls Tryz.prog 132 #[v, u] w fun e w' => e = .returned (.bool true) ∧ Below w.heap.size w w' := by
  have HV : Hid (EntsAt w v E) := hv
  have HU : Hid (EntsAt w u E) := hu
  obtain ⟨ao, cp, rfl, hv⟩ := hv
  obtain ⟨bo, cq, rfl, hu⟩ := hu
  have HA : Hid (0 < E.length → ∃ g, ao = some ⟨g, 0, none⟩ ∧ g < w.heap.size ∧ ∀ k (hk : k < E.length), w.cell? ⟨g, k * 3, none⟩ = some (.string E[k].1) ∧ w.cell? ⟨g, k * 3 + 1, none⟩ = some (.bool E[k].2.1) ∧ w.cell? ⟨g, k * 3 + 2, none⟩ = some (.int .i64 (E[k].2.2 : Int))) := hv
  have HB : Hid (0 < E.length → ∃ g, bo = some ⟨g, 0, none⟩ ∧ g < w.heap.size ∧ ∀ k (hk : k < E.length), w.cell? ⟨g, k * 3, none⟩ = some (.string E[k].1) ∧ w.cell? ⟨g, k * 3 + 1, none⟩ = some (.bool E[k].2.1) ∧ w.cell? ⟨g, k * 3 + 2, none⟩ = some (.int .i64 (E[k].2.2 : Int))) := hu
  obtain ⟨n, hn⟩ : ∃ n, n = E.length := ⟨_, rfl⟩
  have HN : Hid (n = E.length) := hn
  rw [← hn] at hE ⊢
  have hni : (n : Int) ≤ 256 := by omega
  clear hv hu hn HV HU
  go_enter Tryz.func132, Tryz.ntmps132
  go_wp2
  go_loopw [5] (fun iv_ wr => ∃ k : Nat, k ≤ n ∧ iv_ = .int .i64 (k : Int) ∧ Hid (Below w.heap.size w wr)) (fun iv_ _ => n - (intOf iv_).toNat)
  case atStart => exact ⟨0, by omega, rfl, Below.refl _ _⟩
  case round =>
    obtain ⟨k, hk, rfl, HW⟩ := hrel
    by_cases hlt : k < n
    · have hkE : k < E.length := by rw [← HN.out]; exact hlt
      obtain ⟨g, rfl, hg, hc⟩ := HA.out (by omega)
      obtain ⟨g', rfl, hg', hc'⟩ := HB.out (by omega)
      obtain ⟨q0, q1, q2⟩ := hc k hkE
      obtain ⟨q3, q4, q5⟩ := hc' k hkE
      obtain ⟨⟨nm, dr, sz⟩, hx⟩ : ∃ x, x = E[k] := ⟨_, rfl⟩
      rw [← hx] at q0 q1 q2 q3 q4 q5
      have r0 : wr.cell? ⟨g, k * 3, none⟩ = some (.string nm) := by rw [HW.out.cell hg]; exact q0
      have r1 : wr.cell? ⟨g, k * 3 + 1, none⟩ = some (.bool dr) := by rw [HW.out.cell hg]; exact q1
      have r2 : wr.cell? ⟨g, k * 3 + 2, none⟩ = some (.int .i64 (sz : Int)) := by rw [HW.out.cell hg]; exact q2
      have r3 : wr.cell? ⟨g', k * 3, none⟩ = some (.string nm) := by rw [HW.out.cell hg']; exact q3
      have r4 : wr.cell? ⟨g', k * 3 + 1, none⟩ = some (.bool dr) := by rw [HW.out.cell hg']; exact q4
      have r5 : wr.cell? ⟨g', k * 3 + 2, none⟩ = some (.int .i64 (sz : Int)) := by rw [HW.out.cell hg']; exact q5
      have hki : (k : Int) < n := by omega
      have hne : (nm.toList == nm.toList) = true := by rw [str_beq, decide_eq_true_iff]
      clear hc hc' q0 q1 q2 q3 q4 q5 hx hkE
      go_wp2
      go_quiet (fail)
      go_wp2
      go_roundw
      case rel => exact ⟨k + 1, by omega, by go_num, HW.out.trans ⟨rfl, rfl, rfl, Nat.le_refl _, fun _ _ => rfl⟩⟩
      case measure => (simp [intOf]; try omega)
    · have hki : ¬ (k : Int) < n := by omega
      go_wp2
      go_ret
      exact ⟨rfl, HW.out⟩
end Go.Proofs.YtapijhhmjjplmaaGreatDoor
namespace Go.Proofs.YtapijhhmjjplmaaGreatDoor
open Go.RowKit Go.Maps
theorem ents_len {T : Tre} (hT : WFT T) (l : List ByteArray) : (entsT T l).length ≤ 256 := by
  unfold entsT
  rw [List.length_map, (kidsT_perm T l).length_eq]
  exact Nat.le_trans (kids_len _ _) hT.len
theorem takeM_whole {most : Int} {E : List (ByteArray × Bool × Nat)} (h : most ≤ 0 ∨ ¬ most < (E.length : Int)) : takeM most E = E := by
  unfold takeM
  split
  · exact List.take_of_length_le (by omega)
  · rfl
theorem takeM_cut {most : Int} {E : List (ByteArray × Bool × Nat)} {q : Nat} (h0 : 0 < most) (hq : most = (q : Int)) : takeM most E = E.take q := by
  unfold takeM
  rw [if_pos h0, hq]
  rfl
/-- The first q of a list of entries. -/
theorem EntsAt.take {w : World} {ao : Option Addr} {cp : Nat} {E : List (ByteArray × Bool × Nat)} (h : EntsAt w (.slice ao E.length cp) E) (q : Nat) (hq : q ≤ E.length) : EntsAt w (.slice ao q cp) (E.take q) := by
  obtain ⟨ao', cp', hv, h⟩ := h
  cases hv
  have e : (E.take q).length = q := by rw [List.length_take]; omega
  refine ⟨ao, cp, by rw [e], fun hn => ?_⟩
  obtain ⟨g, h1, h2, h3⟩ := h (by omega)
  refine ⟨g, h1, h2, fun k hk => ?_⟩
  have hkE : k < E.length := by omega
  have := h3 k hkE
  rw [List.getElem_take]
  exact this
set_option maxRecDepth 100000 in
set_option maxHeartbeats 2000000 in
theorem ltold_list_no (W : World) (a : Nat → Addr) (mx : Int) (bw pg po ba bb bd : Nat) (Sa Sb : Nat → Prop) (tv : Value) (T : Tre) (x : Stp) (hk : x.kind = 20) (hxa : x.a = 0) (hxs : x.s.size ≤ 262144) (hxb : inR x.b) (H : Arcs W pg po ba bb bd Sa Sb tv T) (hV : Vars W a mx) (hno : listC T x.s ≠ 0) :
    Calls Tryz.prog 76 #[.pointer (some ⟨bw, 0, none⟩), .pointer (some ⟨pg, po, none⟩), stpV x] W fun e W' => e = .returned (.bool true) ∧ Below W.heap.size W W' := by
  obtain ⟨kd, xa, xb, xd, xs, xt⟩ := x
  simp only at hk hxa hxs hxb hno
  subst hk
  subst hxa
  obtain ⟨W1, hW1⟩ : ∃ W1, W1 = W.alloc (.cells #[.int .i64 20, .int .i64 0, .int .i64 xb, .int .i64 xd, .string xs, .string xt] 67) := ⟨_, rfl⟩
  have hb1 : Below W.heap.size W W1 := by rw [hW1]; exact (Below.refl _ _).alloc (Nat.le_refl _) _
  have H1 := H.below hb1
  have V1 := hV.on hb1
  have b1 : W1.cell? ⟨W.heap.size, 1, none⟩ = some (.int .i64 0) := by rw [hW1]; simp
  have b2 : W1.cell? ⟨W.heap.size, 2, none⟩ = some (.int .i64 xb) := by rw [hW1]; simp
  have b4 : W1.cell? ⟨W.heap.size, 4, none⟩ = some (.string xs) := by rw [hW1]; simp
  have c2 := H1.p2
  obtain ⟨c, hc⟩ : ∃ c : Int, c = (listC T xs : Nat) := ⟨_, rfl⟩
  have hd0 : Below W1.heap.size W1 W1.drew := ⟨rfl, rfl, rfl, Nat.le_refl _, fun _ _ => rfl⟩
  have HGG : Hid (Calls Tryz.prog 28 #[.pointer (some ⟨ba, 0, none⟩), .int .i64 0, .string xs, .int .i64 xb] W1.drew fun e w' => e = .returned (.tuple #[.slice none 0 0, .int .i64 c, .int .i64 (-1), .bool false]) ∧ Below W1.heap.size W1 w') := by
    refine Calls.mono (plain_list ba bd Sa T a mx xs xb W1.drew (H1.below hd0).arc H1.wf (V1.on hd0) hxs hxb) ?_
    rintro e w' ⟨v, rfl, hb, ⟨-, rfl⟩ | ⟨l, -, h0, -⟩⟩
    · exact ⟨by rw [hc], ⟨hb.os, hb.tape, hb.output, hb.size, hb.block⟩⟩
    · exact (hno h0).elim
  have HQ : Hid (∀ V, Below W1.heap.size W1 V → Calls Tryz.prog 131 #[.pointer (some ⟨bb, 0, none⟩), .int .i64 0, .string xs] V.drew fun e w' => e = .returned (.tuple #[.slice none 0 0, .int .i64 c, .int .i64 (-1)]) ∧ Below V.heap.size V w') := fun V hb => by
    have hbd : Below W1.heap.size W1 V.drew := ⟨hb.os, hb.tape, hb.output, hb.size, hb.block⟩
    refine Calls.mono (ref_list bb _ tv T xs V.drew (H1.below hbd).c7 (H1.below hbd).tree H1.wf hxs) ?_
    rintro e w' ⟨v, rfl, h, h1, -⟩
    rw [h1 hno]
    exact ⟨by rw [hc], ⟨h.os, h.tape, h.output, h.size, h.block⟩⟩
  have HH1 : Hid (∀ V, Below W1.heap.size W1 V → V.cell? ⟨pg, po + 2, none⟩ = some (.pointer (some ⟨ba, 0, none⟩)) ∧ V.cell? ⟨pg, po + 3, none⟩ = some (.pointer (some ⟨bb, 0, none⟩)) ∧ V.cell? ⟨W.heap.size, 1, none⟩ = some (.int .i64 0) ∧ V.cell? ⟨W.heap.size, 2, none⟩ = some (.int .i64 xb) ∧ V.cell? ⟨W.heap.size, 4, none⟩ = some (.string xs)) := fun V hb => ⟨(H1.below hb).p2, (H1.below hb).p3, by rw [hb.cell (block_lt_of_cell b1)]; exact b1, by rw [hb.cell (block_lt_of_cell b2)]; exact b2, by rw [hb.cell (block_lt_of_cell b4)]; exact b4⟩
  have HB1 : Hid (Below W.heap.size W W1) := hb1
  have hcz : ¬ c = 0 := by rw [hc]; omega
  clear H1 H hV V1 hb1 hc hno hd0
  go_enter Tryz.func76, Tryz.ntmps76
  go_wp2
  rw [← hW1]
  clear hW1
  go_region_held3 (fun w' => w'.cell? ⟨pg, po + 2, none⟩ = some (.pointer (some ⟨ba, 0, none⟩)) ∧ w'.cell? ⟨W.heap.size, 1, none⟩ = some (.int .i64 0) ∧ w'.cell? ⟨W.heap.size, 2, none⟩ = some (.int .i64 xb) ∧ w'.cell? ⟨W.heap.size, 4, none⟩ = some (.string xs)) (((repeat' constructor) <;> first | assumption | (rw [World.cell?_drew]; assumption))) (first | (go_at_call 28; refine HGG.out.mono ?_; rintro e W2 ⟨rfl, B2⟩; have c22 : W2.cell? ⟨pg, po + 2, none⟩ = some (.pointer (some ⟨ba, 0, none⟩)) := (HH1.out W2 B2).1; have b12 : W2.cell? ⟨W.heap.size, 1, none⟩ = some (.int .i64 0) := (HH1.out W2 B2).2.2.1; have b22 : W2.cell? ⟨W.heap.size, 2, none⟩ = some (.int .i64 xb) := (HH1.out W2 B2).2.2.2.1; have b42 : W2.cell? ⟨W.heap.size, 4, none⟩ = some (.string xs) := (HH1.out W2 B2).2.2.2.2; have HB2 : Hid (Below W1.heap.size W1 W2) := B2; clear B2))
  have HQQ := HQ.out W2 HB2.out
  have c32 : W2.cell? ⟨pg, po + 3, none⟩ = some (.pointer (some ⟨bb, 0, none⟩)) := (HH1.out W2 HB2.out).2.1
  have HW2 : Hid (Below W.heap.size W W2) := HB1.out.trans (HB2.out.mono HB1.out.size)
  have HC2 : Hid (∀ V, Below W2.heap.size W2 V → V.cell? ⟨pg, po + 3, none⟩ = some (.pointer (some ⟨bb, 0, none⟩)) ∧ V.cell? ⟨W.heap.size, 1, none⟩ = some (.int .i64 0) ∧ V.cell? ⟨W.heap.size, 4, none⟩ = some (.string xs)) := fun V hb => ⟨by rw [hb.cell (block_lt_of_cell c32)]; exact c32, by rw [hb.cell (block_lt_of_cell b12)]; exact b12, by rw [hb.cell (block_lt_of_cell b42)]; exact b42⟩
  clear HQ HGG HH1 HB1 c22 b1 b2 b4 c2 HB2 b22
  go_wp2
  go_region_held3 (fun w' => w'.cell? ⟨pg, po + 3, none⟩ = some (.pointer (some ⟨bb, 0, none⟩)) ∧ w'.cell? ⟨W.heap.size, 1, none⟩ = some (.int .i64 0) ∧ w'.cell? ⟨W.heap.size, 4, none⟩ = some (.string xs)) (((repeat' constructor) <;> first | assumption | (rw [World.cell?_drew]; assumption))) (first | (go_at_call 131; refine HQQ.mono ?_; rintro e W3 ⟨rfl, B3⟩; have c33 : W3.cell? ⟨pg, po + 3, none⟩ = some (.pointer (some ⟨bb, 0, none⟩)) := (HC2.out W3 B3).1; have b13 : W3.cell? ⟨W.heap.size, 1, none⟩ = some (.int .i64 0) := (HC2.out W3 B3).2.1; have b43 : W3.cell? ⟨W.heap.size, 4, none⟩ = some (.string xs) := (HC2.out W3 B3).2.2; have HB3 : Hid (Below W2.heap.size W2 W3) := B3; clear B3))
  clear HQQ HC2
  go_wp2
  all_goals
    go_ret
    exact ⟨rfl, HW2.out.trans (HB3.out.mono HW2.out.size)⟩
end Go.Proofs.YtapijhhmjjplmaaGreatDoor
namespace Go.Proofs.YtapijhhmjjplmaaGreatDoor
open Go.RowKit Go.Maps
theorem EntsAt.cells {w : World} {ao : Option Addr} {n cp : Nat} {E : List (ByteArray × Bool × Nat)} (h : EntsAt w (.slice ao n cp) E) (hn : 0 < E.length) : ∃ g, ao = some ⟨g, 0, none⟩ ∧ g < w.heap.size ∧ ∀ k (hk : k < E.length), w.cell? ⟨g, k * 3, none⟩ = some (.string E[k].1) ∧ w.cell? ⟨g, k * 3 + 1, none⟩ = some (.bool E[k].2.1) ∧ w.cell? ⟨g, k * 3 + 2, none⟩ = some (.int .i64 (E[k].2.2 : Int)) := by
  obtain ⟨ao', cp', hv, h⟩ := h
  cases hv
  exact h hn
set_option maxRecDepth 100000 in
set_option maxHeartbeats 4000000 in
theorem ltold_list_yes (W : World) (a : Nat → Addr) (mx : Int) (bw pg po ba bb bd : Nat) (Sa Sb : Nat → Prop) (tv : Value) (T : Tre) (x : Stp) (hk : x.kind = 20) (hxa : x.a = 0) (hxs : x.s.size ≤ 262144) (hxb : inR x.b) (H : Arcs W pg po ba bb bd Sa Sb tv T) (hV : Vars W a mx) (hyes : listC T x.s = 0) (l : List ByteArray) (hl : pathOf x.s = some l) :
    Calls Tryz.prog 76 #[.pointer (some ⟨bw, 0, none⟩), .pointer (some ⟨pg, po, none⟩), stpV x] W fun e W' => e = .returned (.bool true) ∧ Below W.heap.size W W' := by
  obtain ⟨kd, xa, xb, xd, xs, xt⟩ := x
  simp only at hk hxa hxs hxb hyes hl
  subst hk
  subst hxa
  obtain ⟨W1, hW1⟩ : ∃ W1, W1 = W.alloc (.cells #[.int .i64 20, .int .i64 0, .int .i64 xb, .int .i64 xd, .string xs, .string xt] 67) := ⟨_, rfl⟩
  have hb1 : Below W.heap.size W W1 := by rw [hW1]; exact (Below.refl _ _).alloc (Nat.le_refl _) _
  have H1 := H.below hb1
  have V1 := hV.on hb1
  have b1 : W1.cell? ⟨W.heap.size, 1, none⟩ = some (.int .i64 0) := by rw [hW1]; simp
  have b2 : W1.cell? ⟨W.heap.size, 2, none⟩ = some (.int .i64 xb) := by rw [hW1]; simp
  have b4 : W1.cell? ⟨W.heap.size, 4, none⟩ = some (.string xs) := by rw [hW1]; simp
  have c2 := H1.p2
  obtain ⟨E, hE⟩ : ∃ E, E = entsT T l := ⟨_, rfl⟩
  obtain ⟨E1, hE1⟩ : ∃ E1, E1 = takeM xb E := ⟨_, rfl⟩
  obtain ⟨n2, hn2⟩ : ∃ n2, n2 = E.length := ⟨_, rfl⟩
  obtain ⟨m, hm⟩ : ∃ m, m = E1.length := ⟨_, rfl⟩
  have hEl : n2 ≤ 256 := by rw [hn2, hE]; exact ents_len H.wf l
  have hd0 : Below W1.heap.size W1 W1.drew := ⟨rfl, rfl, rfl, Nat.le_refl _, fun _ _ => rfl⟩
  have HGG : Hid (Calls Tryz.prog 28 #[.pointer (some ⟨ba, 0, none⟩), .int .i64 0, .string xs, .int .i64 xb] W1.drew fun e w' => ∃ ao cp, e = .returned (.tuple #[.slice ao m cp, .int .i64 0, .int .i64 (-1), .bool false]) ∧ Hid (EntsAt w' (.slice ao m cp) E1 ∧ Below W1.heap.size W1 w')) := by
    refine Calls.mono (plain_list ba bd Sa T a mx xs xb W1.drew (H1.below hd0).arc H1.wf (V1.on hd0) hxs hxb) ?_
    rintro e w' ⟨v, rfl, hb, ⟨h0, -⟩ | ⟨l', hl', -, ho⟩⟩
    · exact (h0 hyes).elim
    · rw [hl] at hl'
      cases hl'
      rw [← hE, ← hE1] at ho
      obtain ⟨ao, cp, rfl⟩ := own_sh ho
      exact ⟨ao, cp, by rw [hyes, hm]; rfl, by rw [hm]; exact EntsAt.of_own ho, ⟨hb.os, hb.tape, hb.output, hb.size, hb.block⟩⟩
  have HQ : Hid (∀ V, Below W1.heap.size W1 V → Calls Tryz.prog 131 #[.pointer (some ⟨bb, 0, none⟩), .int .i64 0, .string xs] V.drew fun e w' => ∃ ao cp, e = .returned (.tuple #[.slice ao n2 cp, .int .i64 0, .int .i64 (-1)]) ∧ Hid (n2 ≤ cp ∧ EntsAt w' (.slice ao n2 cp) E ∧ Below V.heap.size V w')) := fun V hb => by
    have hbd : Below W1.heap.size W1 V.drew := ⟨hb.os, hb.tape, hb.output, hb.size, hb.block⟩
    refine Calls.mono (ref_list bb _ tv T xs V.drew (H1.below hbd).c7 (H1.below hbd).tree H1.wf hxs) ?_
    rintro e w' ⟨v, rfl, h, -, h1⟩
    have ho := h1 l hl hyes
    rw [← hE, ← hn2] at ho
    obtain ⟨ao, cp, rfl⟩ := own_sh ho
    refine ⟨ao, cp, by rw [hyes]; rfl, ?_, ?_, ⟨h.os, h.tape, h.output, h.size, h.block⟩⟩
    · obtain ⟨-, ⟨hv, h2⟩ | ⟨g, cap, cur, hv, -, -, h3, -⟩⟩ := ho
      · cases hv; omega
      · cases hv; exact h3
    · rw [hn2] at ho ⊢
      exact EntsAt.of_own ho
  have HH1 : Hid (∀ V, Below W1.heap.size W1 V → V.cell? ⟨pg, po + 2, none⟩ = some (.pointer (some ⟨ba, 0, none⟩)) ∧ V.cell? ⟨pg, po + 3, none⟩ = some (.pointer (some ⟨bb, 0, none⟩)) ∧ V.cell? ⟨W.heap.size, 1, none⟩ = some (.int .i64 0) ∧ V.cell? ⟨W.heap.size, 2, none⟩ = some (.int .i64 xb) ∧ V.cell? ⟨W.heap.size, 4, none⟩ = some (.string xs)) := fun V hb => ⟨(H1.below hb).p2, (H1.below hb).p3, by rw [hb.cell (block_lt_of_cell b1)]; exact b1, by rw [hb.cell (block_lt_of_cell b2)]; exact b2, by rw [hb.cell (block_lt_of_cell b4)]; exact b4⟩
  have HB1 : Hid (Below W.heap.size W W1) := hb1
  have hcase : (xb ≤ 0 ∧ n2 = m) ∨ (0 < xb ∧ ¬ xb < (n2 : Int) ∧ n2 = m) ∨ (0 < xb ∧ xb < (n2 : Int) ∧ xb = (m : Int)) := by
    by_cases h0 : xb ≤ 0
    · exact .inl ⟨h0, by rw [hm, hE1, takeM_whole (.inl h0), hn2]⟩
    · by_cases h1 : xb < (n2 : Int)
      · obtain ⟨q, hq⟩ : ∃ q : Nat, xb = (q : Int) := ⟨xb.toNat, by omega⟩
        refine .inr (.inr ⟨by omega, h1, ?_⟩)
        rw [hm, hE1, takeM_cut (by omega) hq, List.length_take, hq]
        omega
      · exact .inr (.inl ⟨by omega, h1, by rw [hm, hE1, takeM_whole (.inr (by rw [← hn2]; exact h1)), hn2]⟩)
  have HTK : Hid (∀ w ao cp, EntsAt w (.slice ao n2 cp) E → EntsAt w (.slice ao m cp) E1) := fun w ao cp h => by
    rcases hcase with ⟨h0, h1⟩ | ⟨h0, h1, h2⟩ | ⟨h0, h1, h2⟩
    · rw [hE1, takeM_whole (.inl h0), ← h1]; exact h
    · rw [hE1, takeM_whole (.inr (by rw [← hn2]; exact h1)), ← h2]; exact h
    · rw [hE1, takeM_cut h0 h2]
      rw [hn2] at h
      exact h.take m (by omega)
  have HM : Hid (m = E1.length) := hm
  have hmn : m ≤ 256 := by rcases hcase with h | h | h <;> omega
  obtain ⟨i0, hi0, hz0, hz1, hz2⟩ := info_parts infoEnt
  clear H1 H hV V1 hb1 hyes hl hd0 hE hE1 hn2 hm hxs hxb
  go_enter Tryz.func76, Tryz.ntmps76
  go_wp2
  rw [← hW1]
  clear hW1
  go_region_held3 (fun w' => w'.cell? ⟨pg, po + 2, none⟩ = some (.pointer (some ⟨ba, 0, none⟩)) ∧ w'.cell? ⟨W.heap.size, 1, none⟩ = some (.int .i64 0) ∧ w'.cell? ⟨W.heap.size, 2, none⟩ = some (.int .i64 xb) ∧ w'.cell? ⟨W.heap.size, 4, none⟩ = some (.string xs)) (((repeat' constructor) <;> first | assumption | (rw [World.cell?_drew]; assumption))) (first | (go_at_call 28; refine HGG.out.mono ?_; rintro e W2 ⟨ao1, cp1, rfl, B2⟩; have c22 : W2.cell? ⟨pg, po + 2, none⟩ = some (.pointer (some ⟨ba, 0, none⟩)) := (HH1.out W2 B2.out.2).1; have b12 : W2.cell? ⟨W.heap.size, 1, none⟩ = some (.int .i64 0) := (HH1.out W2 B2.out.2).2.2.1; have b22 : W2.cell? ⟨W.heap.size, 2, none⟩ = some (.int .i64 xb) := (HH1.out W2 B2.out.2).2.2.2.1; have b42 : W2.cell? ⟨W.heap.size, 4, none⟩ = some (.string xs) := (HH1.out W2 B2.out.2).2.2.2.2))
  have HQQ := HQ.out W2 B2.out.2
  have c32 : W2.cell? ⟨pg, po + 3, none⟩ = some (.pointer (some ⟨bb, 0, none⟩)) := (HH1.out W2 B2.out.2).2.1
  have HW2 : Hid (Below W.heap.size W W2) := HB1.out.trans (B2.out.2.mono HB1.out.size)
  have HC2 : Hid (∀ V, Below W2.heap.size W2 V → V.cell? ⟨pg, po + 3, none⟩ = some (.pointer (some ⟨bb, 0, none⟩)) ∧ V.cell? ⟨W.heap.size, 1, none⟩ = some (.int .i64 0) ∧ V.cell? ⟨W.heap.size, 4, none⟩ = some (.string xs) ∧ V.cell? ⟨W.heap.size, 2, none⟩ = some (.int .i64 xb)) := fun V hb => ⟨by rw [hb.cell (block_lt_of_cell c32)]; exact c32, by rw [hb.cell (block_lt_of_cell b12)]; exact b12, by rw [hb.cell (block_lt_of_cell b42)]; exact b42, by rw [hb.cell (block_lt_of_cell b22)]; exact b22⟩
  clear HQ HGG HH1 HB1 c22 b1 b2 b4 c2 b22
  go_wp2
  go_region_held3 (fun w' => w'.cell? ⟨pg, po + 3, none⟩ = some (.pointer (some ⟨bb, 0, none⟩)) ∧ w'.cell? ⟨W.heap.size, 1, none⟩ = some (.int .i64 0) ∧ w'.cell? ⟨W.heap.size, 4, none⟩ = some (.string xs)) (((repeat' constructor) <;> first | assumption | (rw [World.cell?_drew]; assumption))) (first | (go_at_call 131; refine HQQ.mono ?_; rintro e W3 ⟨ao2, cp2, rfl, B3⟩; have c33 : W3.cell? ⟨pg, po + 3, none⟩ = some (.pointer (some ⟨bb, 0, none⟩)) := (HC2.out W3 B3.out.2.2).1; have b13 : W3.cell? ⟨W.heap.size, 1, none⟩ = some (.int .i64 0) := (HC2.out W3 B3.out.2.2).2.1; have b43 : W3.cell? ⟨W.heap.size, 4, none⟩ = some (.string xs) := (HC2.out W3 B3.out.2.2).2.2.1))
  have b23 : W3.cell? ⟨W.heap.size, 2, none⟩ = some (.int .i64 xb) := (HC2.out W3 B3.out.2.2).2.2.2
  have HV : Hid (EntsAt W3 (.slice ao1 m cp1) E1 ∧ EntsAt W3 (.slice ao2 m cp2) E1 ∧ Below W.heap.size W W3) := ⟨B2.out.1.on B3.out.2.2, HTK.out _ _ _ B3.out.2.1, HW2.out.trans (B3.out.2.2.mono HW2.out.size)⟩
  have hcp : n2 ≤ cp2 := B3.out.1
  have hao : 0 < m → ∃ g, ao2 = some ⟨g, 0, none⟩ := fun h => by
    obtain ⟨g, hg, -⟩ := HV.out.2.1.cells (by rw [← HM.out]; exact h)
    exact ⟨g, hg⟩
  clear HQQ HC2 HTK HW2 B2 B3 c33 b13 b43 c32 b12 b42
  rcases hcase with ⟨h0, h2⟩ | ⟨h0, h1, h2⟩ | ⟨h0, h1, h2⟩
  · have h3 := h2.symm
    subst h3
    have h4 : ¬ 0 < xb := by omega
    clear hao h0 h2
    go_wp2
    go_loopw [29, 30] (fun bv iv wr => ∃ k : Nat, k ≤ m ∧ iv = .int .i64 (k : Int) ∧ Hid (wr.ownsRow W3.heap.size 52 3 bv (E1.take k).length (entsV (E1.take k))) ∧ Hid (Below W3.heap.size W3 wr)) (fun _ iv _ => m - (intOf iv).toNat)
    case atStart => exact ⟨0, by omega, rfl, World.ownsRow_nil _ _ _ _, Below.refl _ _⟩
    case round =>
      obtain ⟨k, hk, rfl, HO, HB⟩ := hrel
      by_cases hlt : k < m
      · have hkE : k < E1.length := by rw [← HM.out]; exact hlt
        obtain ⟨g2, hg2, hgl, hcs⟩ := HV.out.2.1.cells (by omega)
        first | subst hg2 | (have e9 : g2 = g := by (injection hg2 with e; injection e with e1; exact e1.symm)
                             subst e9)
        obtain ⟨q0, q1, q2⟩ := hcs k hkE
        obtain ⟨⟨nm, dr, sz⟩, hx⟩ : ∃ x, x = E1[k] := ⟨_, rfl⟩
        rw [← hx] at q0 q1 q2
        have r0 : wr.cell? ⟨g2, k * 3, none⟩ = some (.string nm) := by rw [HB.out.cell hgl]; exact q0
        have r1 : wr.cell? ⟨g2, k * 3 + 1, none⟩ = some (.bool dr) := by rw [HB.out.cell hgl]; exact q1
        have r2 : wr.cell? ⟨g2, k * 3 + 2, none⟩ = some (.int .i64 (sz : Int)) := by rw [HB.out.cell hgl]; exact q2
        have HQ3 : Hid (∀ V, Below W3.heap.size W3 V → V.cell? ⟨g2, k * 3, none⟩ = some (.string nm) ∧ V.cell? ⟨g2, k * 3 + 1, none⟩ = some (.bool dr) ∧ V.cell? ⟨g2, k * 3 + 2, none⟩ = some (.int .i64 (sz : Int))) := fun V hb => ⟨by rw [hb.cell hgl]; exact q0, by rw [hb.cell hgl]; exact q1, by rw [hb.cell hgl]; exact q2⟩
        have HTK : Hid (E1.take (k + 1) = E1.take k ++ [(nm, dr, sz)]) := by
          show _ = _
          rw [List.take_succ_eq_append_getElem hkE, ← hx]
        have hRl : (E1.take k).length ≤ 256 := by rw [List.length_take]; omega
        obtain ⟨R, hR⟩ : ∃ R, R = E1.take k := ⟨_, rfl⟩
        rw [← hR] at HO HTK hRl
        have HFIN : Hid (∀ g cap W5, W5.ownsRow W3.heap.size 52 3 (.slice (some ⟨g, 0, none⟩) (R.length + 1) cap) (R.length + 1) (entsV R ++ [.string nm, .bool dr, .int .i64 (sz : Int)]) → (wr.alloc (.cells #[.string nm, .bool dr, .int .i64 (sz : Int)] 52)).drew.grownBy W5 (Value.ownBlock u29) → Hid (W5.ownsRow W3.heap.size 52 3 (.slice (some ⟨g, 0, none⟩) (R.length + 1) cap) (E1.take (k + 1)).length (entsV (E1.take (k + 1)))) ∧ Hid (Below W3.heap.size W3 W5)) := fun g cap W5 ho hg => by
          refine ⟨?_, ?_⟩
          · rw [HTK.out]
            exact own_ent (x := (nm, dr, sz)) ho
          · exact ((HB.out.alloc HB.out.size _).drew).grown hg (by have := HB.out.size; simp; omega) (fun k hk => own_base_of HO.out k hk)
        have hki : (k : Int) < m := by omega
        clear hcs q0 q1 q2 hx hkE hR HTK
        go_wp2
        go_region_held3 (fun w' => w'.cell? ⟨g2, k * 3, none⟩ = some (.string nm) ∧ w'.cell? ⟨g2, k * 3 + 1, none⟩ = some (.bool dr) ∧ w'.cell? ⟨g2, k * 3 + 2, none⟩ = some (.int .i64 (sz : Int))) (go_keep) (first | (refine step_append_lies _ rfl _ _ 48 rfl W3.heap.size 52 i0 (.agg #[.string ⟨#[]⟩, .bool false, .int .i64 0]) 3 32 Tryz.underlying48 hi0 hz0 hz1 hz2 rfl (by decide) u29 R.length (entsV R) rfl (World.ownsRow.alloc (w := wr) HO.out _) ⟨wr.heap.size, 0, none⟩ 1 1 [.string nm, .bool dr, .int .i64 (sz : Int)] rfl rfl (fun j u hj => cells_three wr _ _ _ _ j u hj) (by intro u hu; simp at hu; rcases hu with rfl | rfl | rfl <;> rfl) (by decide) (by unfold maxLen; omega) (by omega) (by have := HB.out.size; simp; omega) (wr.heap.size + 1) (by simp) ?_; intro g cap W5 hown hgrow hat hlt; obtain ⟨HF1, HF2⟩ := HFIN.out g cap W5 hown hgrow; have s0 : W5.cell? ⟨g2, k * 3, none⟩ = some (.string nm) := (HQ3.out W5 HF2.out).1; have s1 : W5.cell? ⟨g2, k * 3 + 1, none⟩ = some (.bool dr) := (HQ3.out W5 HF2.out).2.1; have s2 : W5.cell? ⟨g2, k * 3 + 2, none⟩ = some (.int .i64 (sz : Int)) := (HQ3.out W5 HF2.out).2.2; clear hown hgrow hat hlt))
        all_goals
          go_wp2
          go_roundw
          case rel => exact ⟨k + 1, by omega, by go_num, HF1, HF2⟩
          case measure => (simp [intOf]; try omega)
      · have hkm : k = m := by omega
        subst hkm
        rw [List.take_of_length_le (by rw [← HM.out]; exact Nat.le_refl _)] at HO
        have HS : Hid (Calls Tryz.prog 132 #[.slice ao1 k cp1, u29] wr fun e w' => e = .returned (.bool true) ∧ Below wr.heap.size wr w') := same_entries _ _ E1 wr (HV.out.1.on HB.out) (EntsAt.of_own HO.out) (by rw [← HM.out]; exact hmn)
        have HW : Hid (Below W.heap.size W wr) := HV.out.2.2.trans (HB.out.mono HV.out.2.2.size)
        obtain ⟨ao9, cp9, e9⟩ := own_sh HO.out
        have hki : ¬ (k : Int) < k := by omega
        clear HO
        subst e9
        go_wp2_with (go_at_call 132; refine HS.out.mono ?_; rintro e W6 ⟨rfl, B6⟩; have HB6 : Hid (Below wr.heap.size wr W6) := B6; clear B6)
        go_ret
        exact ⟨rfl, HW.out.trans (HB6.out.mono HW.out.size)⟩
  · have h3 := h2.symm
    subst h3
    clear hao h2
    go_wp2
    go_loopw [29, 30] (fun bv iv wr => ∃ k : Nat, k ≤ m ∧ iv = .int .i64 (k : Int) ∧ Hid (wr.ownsRow W3.heap.size 52 3 bv (E1.take k).length (entsV (E1.take k))) ∧ Hid (Below W3.heap.size W3 wr)) (fun _ iv _ => m - (intOf iv).toNat)
    case atStart => exact ⟨0, by omega, rfl, World.ownsRow_nil _ _ _ _, Below.refl _ _⟩
    case round =>
      obtain ⟨k, hk, rfl, HO, HB⟩ := hrel
      by_cases hlt : k < m
      · have hkE : k < E1.length := by rw [← HM.out]; exact hlt
        obtain ⟨g2, hg2, hgl, hcs⟩ := HV.out.2.1.cells (by omega)
        first | subst hg2 | (have e9 : g2 = g := by (injection hg2 with e; injection e with e1; exact e1.symm)
                             subst e9)
        obtain ⟨q0, q1, q2⟩ := hcs k hkE
        obtain ⟨⟨nm, dr, sz⟩, hx⟩ : ∃ x, x = E1[k] := ⟨_, rfl⟩
        rw [← hx] at q0 q1 q2
        have r0 : wr.cell? ⟨g2, k * 3, none⟩ = some (.string nm) := by rw [HB.out.cell hgl]; exact q0
        have r1 : wr.cell? ⟨g2, k * 3 + 1, none⟩ = some (.bool dr) := by rw [HB.out.cell hgl]; exact q1
        have r2 : wr.cell? ⟨g2, k * 3 + 2, none⟩ = some (.int .i64 (sz : Int)) := by rw [HB.out.cell hgl]; exact q2
        have HQ3 : Hid (∀ V, Below W3.heap.size W3 V → V.cell? ⟨g2, k * 3, none⟩ = some (.string nm) ∧ V.cell? ⟨g2, k * 3 + 1, none⟩ = some (.bool dr) ∧ V.cell? ⟨g2, k * 3 + 2, none⟩ = some (.int .i64 (sz : Int))) := fun V hb => ⟨by rw [hb.cell hgl]; exact q0, by rw [hb.cell hgl]; exact q1, by rw [hb.cell hgl]; exact q2⟩
        have HTK : Hid (E1.take (k + 1) = E1.take k ++ [(nm, dr, sz)]) := by
          show _ = _
          rw [List.take_succ_eq_append_getElem hkE, ← hx]
        have hRl : (E1.take k).length ≤ 256 := by rw [List.length_take]; omega
        obtain ⟨R, hR⟩ : ∃ R, R = E1.take k := ⟨_, rfl⟩
        rw [← hR] at HO HTK hRl
        have HFIN : Hid (∀ g cap W5, W5.ownsRow W3.heap.size 52 3 (.slice (some ⟨g, 0, none⟩) (R.length + 1) cap) (R.length + 1) (entsV R ++ [.string nm, .bool dr, .int .i64 (sz : Int)]) → (wr.alloc (.cells #[.string nm, .bool dr, .int .i64 (sz : Int)] 52)).drew.grownBy W5 (Value.ownBlock u29) → Hid (W5.ownsRow W3.heap.size 52 3 (.slice (some ⟨g, 0, none⟩) (R.length + 1) cap) (E1.take (k + 1)).length (entsV (E1.take (k + 1)))) ∧ Hid (Below W3.heap.size W3 W5)) := fun g cap W5 ho hg => by
          refine ⟨?_, ?_⟩
          · rw [HTK.out]
            exact own_ent (x := (nm, dr, sz)) ho
          · exact ((HB.out.alloc HB.out.size _).drew).grown hg (by have := HB.out.size; simp; omega) (fun k hk => own_base_of HO.out k hk)
        have hki : (k : Int) < m := by omega
        clear hcs q0 q1 q2 hx hkE hR HTK
        go_wp2
        go_region_held3 (fun w' => w'.cell? ⟨g2, k * 3, none⟩ = some (.string nm) ∧ w'.cell? ⟨g2, k * 3 + 1, none⟩ = some (.bool dr) ∧ w'.cell? ⟨g2, k * 3 + 2, none⟩ = some (.int .i64 (sz : Int))) (go_keep) (first | (refine step_append_lies _ rfl _ _ 48 rfl W3.heap.size 52 i0 (.agg #[.string ⟨#[]⟩, .bool false, .int .i64 0]) 3 32 Tryz.underlying48 hi0 hz0 hz1 hz2 rfl (by decide) u29 R.length (entsV R) rfl (World.ownsRow.alloc (w := wr) HO.out _) ⟨wr.heap.size, 0, none⟩ 1 1 [.string nm, .bool dr, .int .i64 (sz : Int)] rfl rfl (fun j u hj => cells_three wr _ _ _ _ j u hj) (by intro u hu; simp at hu; rcases hu with rfl | rfl | rfl <;> rfl) (by decide) (by unfold maxLen; omega) (by omega) (by have := HB.out.size; simp; omega) (wr.heap.size + 1) (by simp) ?_; intro g cap W5 hown hgrow hat hlt; obtain ⟨HF1, HF2⟩ := HFIN.out g cap W5 hown hgrow; have s0 : W5.cell? ⟨g2, k * 3, none⟩ = some (.string nm) := (HQ3.out W5 HF2.out).1; have s1 : W5.cell? ⟨g2, k * 3 + 1, none⟩ = some (.bool dr) := (HQ3.out W5 HF2.out).2.1; have s2 : W5.cell? ⟨g2, k * 3 + 2, none⟩ = some (.int .i64 (sz : Int)) := (HQ3.out W5 HF2.out).2.2; clear hown hgrow hat hlt))
        all_goals
          go_wp2
          go_roundw
          case rel => exact ⟨k + 1, by omega, by go_num, HF1, HF2⟩
          case measure => (simp [intOf]; try omega)
      · have hkm : k = m := by omega
        subst hkm
        rw [List.take_of_length_le (by rw [← HM.out]; exact Nat.le_refl _)] at HO
        have HS : Hid (Calls Tryz.prog 132 #[.slice ao1 k cp1, u29] wr fun e w' => e = .returned (.bool true) ∧ Below wr.heap.size wr w') := same_entries _ _ E1 wr (HV.out.1.on HB.out) (EntsAt.of_own HO.out) (by rw [← HM.out]; exact hmn)
        have HW : Hid (Below W.heap.size W wr) := HV.out.2.2.trans (HB.out.mono HV.out.2.2.size)
        obtain ⟨ao9, cp9, e9⟩ := own_sh HO.out
        have hki : ¬ (k : Int) < k := by omega
        clear HO
        subst e9
        go_wp2_with (go_at_call 132; refine HS.out.mono ?_; rintro e W6 ⟨rfl, B6⟩; have HB6 : Hid (Below wr.heap.size wr W6) := B6; clear B6)
        go_ret
        exact ⟨rfl, HW.out.trans (HB6.out.mono HW.out.size)⟩
  · subst h2
    obtain ⟨g, rfl⟩ := hao (by omega)
    have h5 : (m : Int) ≤ cp2 := by omega
    go_wp2
    go_loopw [29, 30] (fun bv iv wr => ∃ k : Nat, k ≤ m ∧ iv = .int .i64 (k : Int) ∧ Hid (wr.ownsRow W3.heap.size 52 3 bv (E1.take k).length (entsV (E1.take k))) ∧ Hid (Below W3.heap.size W3 wr)) (fun _ iv _ => m - (intOf iv).toNat)
    case atStart => exact ⟨0, by omega, rfl, World.ownsRow_nil _ _ _ _, Below.refl _ _⟩
    case round =>
      obtain ⟨k, hk, rfl, HO, HB⟩ := hrel
      by_cases hlt : k < m
      · have hkE : k < E1.length := by rw [← HM.out]; exact hlt
        obtain ⟨g2, hg2, hgl, hcs⟩ := HV.out.2.1.cells (by omega)
        first | subst hg2 | (have e9 : g2 = g := by (injection hg2 with e; injection e with e1; exact e1.symm)
                             subst e9)
        obtain ⟨q0, q1, q2⟩ := hcs k hkE
        obtain ⟨⟨nm, dr, sz⟩, hx⟩ : ∃ x, x = E1[k] := ⟨_, rfl⟩
        rw [← hx] at q0 q1 q2
        have r0 : wr.cell? ⟨g2, k * 3, none⟩ = some (.string nm) := by rw [HB.out.cell hgl]; exact q0
        have r1 : wr.cell? ⟨g2, k * 3 + 1, none⟩ = some (.bool dr) := by rw [HB.out.cell hgl]; exact q1
        have r2 : wr.cell? ⟨g2, k * 3 + 2, none⟩ = some (.int .i64 (sz : Int)) := by rw [HB.out.cell hgl]; exact q2
        have HQ3 : Hid (∀ V, Below W3.heap.size W3 V → V.cell? ⟨g2, k * 3, none⟩ = some (.string nm) ∧ V.cell? ⟨g2, k * 3 + 1, none⟩ = some (.bool dr) ∧ V.cell? ⟨g2, k * 3 + 2, none⟩ = some (.int .i64 (sz : Int))) := fun V hb => ⟨by rw [hb.cell hgl]; exact q0, by rw [hb.cell hgl]; exact q1, by rw [hb.cell hgl]; exact q2⟩
        have HTK : Hid (E1.take (k + 1) = E1.take k ++ [(nm, dr, sz)]) := by
          show _ = _
          rw [List.take_succ_eq_append_getElem hkE, ← hx]
        have hRl : (E1.take k).length ≤ 256 := by rw [List.length_take]; omega
        obtain ⟨R, hR⟩ : ∃ R, R = E1.take k := ⟨_, rfl⟩
        rw [← hR] at HO HTK hRl
        have HFIN : Hid (∀ g cap W5, W5.ownsRow W3.heap.size 52 3 (.slice (some ⟨g, 0, none⟩) (R.length + 1) cap) (R.length + 1) (entsV R ++ [.string nm, .bool dr, .int .i64 (sz : Int)]) → (wr.alloc (.cells #[.string nm, .bool dr, .int .i64 (sz : Int)] 52)).drew.grownBy W5 (Value.ownBlock u29) → Hid (W5.ownsRow W3.heap.size 52 3 (.slice (some ⟨g, 0, none⟩) (R.length + 1) cap) (E1.take (k + 1)).length (entsV (E1.take (k + 1)))) ∧ Hid (Below W3.heap.size W3 W5)) := fun g cap W5 ho hg => by
          refine ⟨?_, ?_⟩
          · rw [HTK.out]
            exact own_ent (x := (nm, dr, sz)) ho
          · exact ((HB.out.alloc HB.out.size _).drew).grown hg (by have := HB.out.size; simp; omega) (fun k hk => own_base_of HO.out k hk)
        have hki : (k : Int) < m := by omega
        clear hcs q0 q1 q2 hx hkE hR HTK
        go_wp2
        go_region_held3 (fun w' => w'.cell? ⟨g2, k * 3, none⟩ = some (.string nm) ∧ w'.cell? ⟨g2, k * 3 + 1, none⟩ = some (.bool dr) ∧ w'.cell? ⟨g2, k * 3 + 2, none⟩ = some (.int .i64 (sz : Int))) (go_keep) (first | (refine step_append_lies _ rfl _ _ 48 rfl W3.heap.size 52 i0 (.agg #[.string ⟨#[]⟩, .bool false, .int .i64 0]) 3 32 Tryz.underlying48 hi0 hz0 hz1 hz2 rfl (by decide) u29 R.length (entsV R) rfl (World.ownsRow.alloc (w := wr) HO.out _) ⟨wr.heap.size, 0, none⟩ 1 1 [.string nm, .bool dr, .int .i64 (sz : Int)] rfl rfl (fun j u hj => cells_three wr _ _ _ _ j u hj) (by intro u hu; simp at hu; rcases hu with rfl | rfl | rfl <;> rfl) (by decide) (by unfold maxLen; omega) (by omega) (by have := HB.out.size; simp; omega) (wr.heap.size + 1) (by simp) ?_; intro g cap W5 hown hgrow hat hlt; obtain ⟨HF1, HF2⟩ := HFIN.out g cap W5 hown hgrow; have s0 : W5.cell? ⟨g2, k * 3, none⟩ = some (.string nm) := (HQ3.out W5 HF2.out).1; have s1 : W5.cell? ⟨g2, k * 3 + 1, none⟩ = some (.bool dr) := (HQ3.out W5 HF2.out).2.1; have s2 : W5.cell? ⟨g2, k * 3 + 2, none⟩ = some (.int .i64 (sz : Int)) := (HQ3.out W5 HF2.out).2.2; clear hown hgrow hat hlt))
        all_goals
          go_wp2
          go_roundw
          case rel => exact ⟨k + 1, by omega, by go_num, HF1, HF2⟩
          case measure => (simp [intOf]; try omega)
      · have hkm : k = m := by omega
        subst hkm
        rw [List.take_of_length_le (by rw [← HM.out]; exact Nat.le_refl _)] at HO
        have HS : Hid (Calls Tryz.prog 132 #[.slice ao1 k cp1, u29] wr fun e w' => e = .returned (.bool true) ∧ Below wr.heap.size wr w') := same_entries _ _ E1 wr (HV.out.1.on HB.out) (EntsAt.of_own HO.out) (by rw [← HM.out]; exact hmn)
        have HW : Hid (Below W.heap.size W wr) := HV.out.2.2.trans (HB.out.mono HV.out.2.2.size)
        obtain ⟨ao9, cp9, e9⟩ := own_sh HO.out
        have hki : ¬ (k : Int) < k := by omega
        clear HO
        subst e9
        go_wp2_with (go_at_call 132; refine HS.out.mono ?_; rintro e W6 ⟨rfl, B6⟩; have HB6 : Hid (Below wr.heap.size wr W6) := B6; clear B6)
        go_ret
        exact ⟨rfl, HW.out.trans (HB6.out.mono HW.out.size)⟩
end Go.Proofs.YtapijhhmjjplmaaGreatDoor
namespace Go.Proofs.YtapijhhmjjplmaaGreatDoor
open Go.RowKit Go.Maps
theorem ltold_any {w W : World} {a : Nat → Addr} {mx : Int} (V0 : Vars w a mx) {i b k : Nat} {av : Value} {l : List PairT} {left : Int} {o : Nat → Nat} (h : TInvV w i W b av l left o) (hk : k < l.length)
    (x : Stp) (hx : x.kind = 19 ∨ x.kind = 20) (hxa : x.a = 0) (hxs : x.s.size ≤ 262144) (hxb : inR x.b) (y : ArcD) (hy : l[k].arc = some y) (g : Nat) (cap : Nat) (hav : av = .slice (some ⟨g, 0, none⟩) l.length cap) :
    Calls Tryz.prog 76 #[.pointer (some ⟨w.heap.size, 0, none⟩), .pointer (some ⟨g, k * 4, none⟩), stpV x] W fun e W' => e = .returned (.bool true) ∧ TInv w (i + 1) W' := by
  have A := h.arcs hk hy hav
  have fin : ∀ (e : Ending) (W' : World), (e = .returned (.bool true) ∧ Below W.heap.size W W') → (e = .returned (.bool true) ∧ TInv w (i + 1) W') := by
    rintro e W' ⟨rfl, hb⟩
    exact ⟨rfl, b, av, l, left, o, (h.mono hb).succ⟩
  rcases hx with hx | hx
  · exact (ltold_get W a mx w.heap.size g (k * 4) _ _ _ _ _ _ _ x hx hxa hxs A (V0.on h.below)).mono (fun e W' h => fin e W' h)
  · by_cases hc : listC y.T x.s = 0
    · cases hp : pathOf x.s with
      | none => rw [list_none hp] at hc; cases hc
      | some p => exact (ltold_list_yes W a mx w.heap.size g (k * 4) _ _ _ _ _ _ _ x hx hxa hxs hxb A (V0.on h.below) hc p hp).mono (fun e W' h => fin e W' h)
    · exact (ltold_list_no W a mx w.heap.size g (k * 4) _ _ _ _ _ _ _ x hx hxa hxs hxb A (V0.on h.below) hc).mono (fun e W' h => fin e W' h)
end Go.Proofs.YtapijhhmjjplmaaGreatDoor
namespace Go.Proofs.YtapijhhmjjplmaaGreatDoor
open Go.RowKit Go.Maps
set_option maxRecDepth 100000 in
set_option maxHeartbeats 4000000 in
theorem step_arcT (w W : World) (a : Nat → Addr) (mx : Int) (V0 : Vars w a mx) (i : Nat) (hi : i ≤ 300000) (x : Stp) (hx : x.kind = 14 ∨ x.kind = 15 ∨ x.kind = 16 ∨ x.kind = 19 ∨ x.kind = 20) (hxa : x.kind = 19 ∨ x.kind = 20 → x.a = 0) (hxs : x.s.size ≤ 262144) (hxt : x.t.size ≤ 262144) (hxb : inR x.b) (hrd : inR x.d) (b : Nat) (av : Value) (l : List PairT) (left : Int) (o : Nat → Nat) (I : TInvV w i W b av l left o) (h0 : l.length ≠ 0) :
    Calls Tryz.prog 41 #[.pointer (some ⟨w.heap.size, 0, none⟩), stpV x] W fun e W' => e = .returned (.bool true) ∧ TInv w (i + 1) W' := by
  have HD : Hid (∀ V, Below W.heap.size W V → (x.kind = 14 ∨ x.kind = 15 ∨ x.kind = 16) → ∀ k (hk : k < l.length), ∀ y, l[k].arc = some y → ∀ g cap, av = .slice (some ⟨g, 0, none⟩) l.length cap → Calls Tryz.prog 74 #[.pointer (some ⟨w.heap.size, 0, none⟩), .pointer (some ⟨g, k * 4, none⟩), stpV x] V fun e W' => e = .returned (.bool true) ∧ Hid (TInv w (i + 1) W')) := fun V hV hx k hk y hy g cap hav => ltree_any V0 (I.mono hV) hk x hx hxs hxt y hy g cap hav
  have HM : Hid (∀ V, Below W.heap.size W V → (x.kind = 19 ∨ x.kind = 20) → ∀ k (hk : k < l.length), ∀ y, l[k].arc = some y → ∀ g cap, av = .slice (some ⟨g, 0, none⟩) l.length cap → Calls Tryz.prog 76 #[.pointer (some ⟨w.heap.size, 0, none⟩), .pointer (some ⟨g, k * 4, none⟩), stpV x] V fun e W' => e = .returned (.bool true) ∧ Hid (TInv w (i + 1) W')) := fun V hV hx k hk y hy g cap hav => ltold_any V0 (I.mono hV) hk x hx (hxa hx) hxs hxb y hy g cap hav
  obtain ⟨kd, xa, xb, xd, xs, xt⟩ := x
  simp only at hx hrd HD HM
  obtain ⟨W1, hW1⟩ : ∃ W1, W1 = W.alloc (.cells #[.int .i64 kd, .int .i64 xa, .int .i64 xb, .int .i64 xd, .string xs, .string xt] 67) := ⟨_, rfl⟩
  have hb1 : Below W.heap.size W W1 := by rw [hW1]; exact (Below.refl _ _).alloc (Nat.le_refl _) _
  have I1 := I.mono hb1
  have c2 : W1.cell? ⟨w.heap.size, 2, none⟩ = some av := by rw [cell_of_row _ _ _ _ _ _ I1.row]; rfl
  have d3 : W1.cell? ⟨W.heap.size, 3, none⟩ = some (.int .i64 xd) := by rw [hW1]; simp
  have d0 : W1.cell? ⟨W.heap.size, 0, none⟩ = some (.int .i64 kd) := by rw [hW1]; simp
  have d1 : W1.cell? ⟨W.heap.size, 1, none⟩ = some (.int .i64 xa) := by rw [hW1]; simp
  have d2 : W1.cell? ⟨W.heap.size, 2, none⟩ = some (.int .i64 xb) := by rw [hW1]; simp
  have d4 : W1.cell? ⟨W.heap.size, 4, none⟩ = some (.string xs) := by rw [hW1]; simp
  have d5 : W1.cell? ⟨W.heap.size, 5, none⟩ = some (.string xt) := by rw [hW1]; simp
  obtain ⟨g, cap, cur, hav, -⟩ := I1.duo (k := 0) (by omega)
  have hn := I.al
  obtain ⟨n, hn'⟩ : ∃ n, n = l.length := ⟨_, rfl⟩
  have HP : Hid (∀ V, Calls Tryz.prog 71 #[.int .i64 xd, .int .i64 (n : Int)] V fun e w' => (∃ k : Nat, k < n ∧ e = .returned (.int .i64 (k : Int))) ∧ V = w') := fun V => pick_any xd n V hrd (by omega) (by omega)
  have HCt : (kd = 14 ∨ kd = 15 ∨ kd = 16) → Hid (∀ k, k < n → (W1.cell? ⟨g, k * 4 + 2, none⟩ = some (.pointer none)) ∨ ∃ ba bb, W1.cell? ⟨g, k * 4 + 2, none⟩ = some (.pointer (some ⟨ba, 0, none⟩)) ∧ W1.cell? ⟨g, k * 4 + 3, none⟩ = some (.pointer (some ⟨bb, 0, none⟩)) ∧
      Hid (Calls Tryz.prog 74 #[.pointer (some ⟨w.heap.size, 0, none⟩), .pointer (some ⟨g, k * 4, none⟩), .agg #[.int .i64 kd, .int .i64 xa, .int .i64 xb, .int .i64 xd, .string xs, .string xt]] W1.drew fun e W' => e = .returned (.bool true) ∧ Hid (TInv w (i + 1) W'))) := fun hx k hk => by
    have hkl : k < l.length := by omega
    obtain ⟨h1, h2⟩ := I1.pab hkl hav
    cases hy : l[k].arc with
    | none => rw [hy] at h1; exact .inl h1
    | some y =>
      rw [hy] at h1 h2
      exact .inr ⟨y.ba, y.bb, h1, h2, HD.out W1.drew hb1.drew hx k hkl y hy g cap hav⟩
  have HCo : (kd = 19 ∨ kd = 20) → Hid (∀ k, k < n → (W1.cell? ⟨g, k * 4 + 2, none⟩ = some (.pointer none)) ∨ ∃ ba bb, W1.cell? ⟨g, k * 4 + 2, none⟩ = some (.pointer (some ⟨ba, 0, none⟩)) ∧ W1.cell? ⟨g, k * 4 + 3, none⟩ = some (.pointer (some ⟨bb, 0, none⟩)) ∧
      Hid (Calls Tryz.prog 76 #[.pointer (some ⟨w.heap.size, 0, none⟩), .pointer (some ⟨g, k * 4, none⟩), .agg #[.int .i64 kd, .int .i64 xa, .int .i64 xb, .int .i64 xd, .string xs, .string xt]] W1.drew fun e W' => e = .returned (.bool true) ∧ Hid (TInv w (i + 1) W'))) := fun hx k hk => by
    have hkl : k < l.length := by omega
    obtain ⟨h1, h2⟩ := I1.pab hkl hav
    cases hy : l[k].arc with
    | none => rw [hy] at h1; exact .inl h1
    | some y =>
      rw [hy] at h1 h2
      exact .inr ⟨y.ba, y.bb, h1, h2, HM.out W1.drew hb1.drew hx k hkl y hy g cap hav⟩
  have HF : Hid (TInv w (i + 1) W1.drew) := ⟨b, av, l, left, o, (I.mono hb1.drew).succ⟩
  rw [hav, ← hn'] at c2
  have hn0 : ((n : Int) == 0) = false := by simp; omega
  have hnb : (n : Int) ≤ 300000 := by omega
  clear I1 I HD HM hb1 hrd hav hn' h0 hn hxa hxs hxt hxb
  rcases hx with rfl | rfl | rfl | rfl | rfl
  · have HC := HCt (.inl rfl)
    clear HCt HCo
    go_enter Tryz.func41, Tryz.ntmps41
    rw [hW1] at c2
    go_wp2
    rw [← hW1] at c2 ⊢
    clear hW1
    go_region_held3 (fun w' => w'.cell? ⟨w.heap.size, 2, none⟩ = some (.slice (some ⟨g, 0, none⟩) n cap) ∧ w'.cell? ⟨W.heap.size, 3, none⟩ = some (.int .i64 xd)) (((repeat' constructor) <;> first | assumption | (rw [World.cell?_drew]; assumption))) (first | (go_at_call 71; refine (HP.out _).mono ?_; rintro e w' ⟨⟨k, hk, rfl⟩, rfl⟩; have hk0 : (0 : Int) ≤ k := Int.natCast_nonneg k; have hk1 : (k : Int) < n := Int.ofNat_lt.2 hk))
    rcases HC.out k hk with e2 | ⟨ba, bb, e2, e3, HT⟩
    · go_wp2
      go_ret
      exact ⟨rfl, HF.out⟩
    · go_wp2_with fail
      refine HT.out.mono ?_
      rintro e W3 ⟨rfl, H3⟩
      go_wp2
      go_ret
      exact ⟨rfl, H3.out⟩
  · have HC := HCt (.inr (.inl rfl))
    clear HCt HCo
    go_enter Tryz.func41, Tryz.ntmps41
    rw [hW1] at c2
    go_wp2
    rw [← hW1] at c2 ⊢
    clear hW1
    go_region_held3 (fun w' => w'.cell? ⟨w.heap.size, 2, none⟩ = some (.slice (some ⟨g, 0, none⟩) n cap) ∧ w'.cell? ⟨W.heap.size, 3, none⟩ = some (.int .i64 xd)) (((repeat' constructor) <;> first | assumption | (rw [World.cell?_drew]; assumption))) (first | (go_at_call 71; refine (HP.out _).mono ?_; rintro e w' ⟨⟨k, hk, rfl⟩, rfl⟩; have hk0 : (0 : Int) ≤ k := Int.natCast_nonneg k; have hk1 : (k : Int) < n := Int.ofNat_lt.2 hk))
    rcases HC.out k hk with e2 | ⟨ba, bb, e2, e3, HT⟩
    · go_wp2
      go_ret
      exact ⟨rfl, HF.out⟩
    · go_wp2_with fail
      refine HT.out.mono ?_
      rintro e W3 ⟨rfl, H3⟩
      go_wp2
      go_ret
      exact ⟨rfl, H3.out⟩
  · have HC := HCt (.inr (.inr rfl))
    clear HCt HCo
    go_enter Tryz.func41, Tryz.ntmps41
    rw [hW1] at c2
    go_wp2
    rw [← hW1] at c2 ⊢
    clear hW1
    go_region_held3 (fun w' => w'.cell? ⟨w.heap.size, 2, none⟩ = some (.slice (some ⟨g, 0, none⟩) n cap) ∧ w'.cell? ⟨W.heap.size, 3, none⟩ = some (.int .i64 xd)) (((repeat' constructor) <;> first | assumption | (rw [World.cell?_drew]; assumption))) (first | (go_at_call 71; refine (HP.out _).mono ?_; rintro e w' ⟨⟨k, hk, rfl⟩, rfl⟩; have hk0 : (0 : Int) ≤ k := Int.natCast_nonneg k; have hk1 : (k : Int) < n := Int.ofNat_lt.2 hk))
    rcases HC.out k hk with e2 | ⟨ba, bb, e2, e3, HT⟩
    · go_wp2
      go_ret
      exact ⟨rfl, HF.out⟩
    · go_wp2_with fail
      refine HT.out.mono ?_
      rintro e W3 ⟨rfl, H3⟩
      go_wp2
      go_ret
      exact ⟨rfl, H3.out⟩
  · have HC := HCo (.inl rfl)
    clear HCt HCo
    go_enter Tryz.func41, Tryz.ntmps41
    rw [hW1] at c2
    go_wp2
    rw [← hW1] at c2 ⊢
    clear hW1
    go_region_held3 (fun w' => w'.cell? ⟨w.heap.size, 2, none⟩ = some (.slice (some ⟨g, 0, none⟩) n cap) ∧ w'.cell? ⟨W.heap.size, 3, none⟩ = some (.int .i64 xd)) (((repeat' constructor) <;> first | assumption | (rw [World.cell?_drew]; assumption))) (first | (go_at_call 71; refine (HP.out _).mono ?_; rintro e w' ⟨⟨k, hk, rfl⟩, rfl⟩; have hk0 : (0 : Int) ≤ k := Int.natCast_nonneg k; have hk1 : (k : Int) < n := Int.ofNat_lt.2 hk))
    rcases HC.out k hk with e2 | ⟨ba, bb, e2, e3, HT⟩
    · go_wp2
      go_ret
      exact ⟨rfl, HF.out⟩
    · go_wp2_with fail
      refine HT.out.mono ?_
      rintro e W3 ⟨rfl, H3⟩
      go_wp2
      go_ret
      exact ⟨rfl, H3.out⟩
  · have HC := HCo (.inr rfl)
    clear HCt HCo
    go_enter Tryz.func41, Tryz.ntmps41
    rw [hW1] at c2
    go_wp2
    rw [← hW1] at c2 ⊢
    clear hW1
    go_region_held3 (fun w' => w'.cell? ⟨w.heap.size, 2, none⟩ = some (.slice (some ⟨g, 0, none⟩) n cap) ∧ w'.cell? ⟨W.heap.size, 3, none⟩ = some (.int .i64 xd)) (((repeat' constructor) <;> first | assumption | (rw [World.cell?_drew]; assumption))) (first | (go_at_call 71; refine (HP.out _).mono ?_; rintro e w' ⟨⟨k, hk, rfl⟩, rfl⟩; have hk0 : (0 : Int) ≤ k := Int.natCast_nonneg k; have hk1 : (k : Int) < n := Int.ofNat_lt.2 hk))
    rcases HC.out k hk with e2 | ⟨ba, bb, e2, e3, HT⟩
    · go_wp2
      go_ret
      exact ⟨rfl, HF.out⟩
    · go_wp2_with fail
      refine HT.out.mono ?_
      rintro e W3 ⟨rfl, H3⟩
      go_wp2
      go_ret
      exact ⟨rfl, H3.out⟩
end Go.Proofs.YtapijhhmjjplmaaGreatDoor
namespace Go.Proofs.YtapijhhmjjplmaaGreatDoor
open Go.RowKit Go.Maps
def nameD : ByteArray := ⟨#[100]⟩
theorem pathD : pathOf nameD = some [nameD] := by decide +kernel
theorem mkD : codeP (mkdirE []) nameD = 0 ∧ treeP [] (mkdirT []) nameD = [⟨[nameD], true, ⟨#[]⟩⟩] := by
  have e : mkdirE [] [nameD] = 0 := by decide +kernel
  refine ⟨?_, ?_⟩
  · rw [codeP_some pathD (by simp)]; exact e
  · rw [treeP_some pathD (by simp)]
    unfold mkdirT
    rw [if_neg (by rw [e]; simp)]
    rfl
theorem path0 : pathOf ⟨#[]⟩ = some [] := by decide +kernel
theorem liD : listC [⟨[nameD], true, ⟨#[]⟩⟩] ⟨#[]⟩ = 0 := by decide +kernel
theorem enD : takeM 0 (entsT [⟨[nameD], true, ⟨#[]⟩⟩] []) = [(nameD, true, 0)] := by
  have e : kidsT [⟨[nameD], true, ⟨#[]⟩⟩] [] = [nameD] := by
    have e2 : kidsU [⟨[nameD], true, ⟨#[]⟩⟩] [] = [nameD] := by decide +kernel
    unfold kidsT
    rw [e2, List.mergeSort_singleton]
  have e3 : takeM 0 (entsT [⟨[nameD], true, ⟨#[]⟩⟩] []) = entsT [⟨[nameD], true, ⟨#[]⟩⟩] [] := takeM_whole (.inl (Int.le_refl _))
  rw [e3]
  unfold entsT
  rw [e]
  decide +kernel
set_option maxRecDepth 100000 in
set_option maxHeartbeats 2000000 in
theorem mounts_true (w : World) (a : Nat → Addr) (mx : Int) (V0 : Vars w a mx) :
    Calls Tryz.prog 14 #[] w fun e w' => e = .returned (.bool true) ∧ Below w.heap.size w w' := by
  have HN : Hid (Calls Tryz.prog 24 #[.int .i64 8] w fun e w' => ∃ bd, e = .returned (.pointer (some ⟨bd, 0, none⟩)) ∧ Hid (DskAt w' (fun g => w.heap.size ≤ g ∧ g < w'.heap.size) bd 0 (d0 8 false) ∧ Below w.heap.size w w')) := by
    refine Calls.mono (dsk_new 8 w) ?_
    rintro e w' ⟨bd, rfl, h, hb⟩
    have h2 := h.tight
    rw [show clampN 8 = 8 from rfl, d0_fresh 8 (by omega)] at h2
    exact ⟨bd, rfl, h2, hb⟩
  have HF : Hid (∀ V bd, DskAt V (fun g => w.heap.size ≤ g ∧ g < V.heap.size) bd 0 (d0 8 false) → Below w.heap.size w V → Calls Tryz.prog 25 #[.pointer (some ⟨bd, 0, none⟩)] V fun e w' => e = .returned (.int .i64 0) ∧ Hid (∃ m', m' ≤ 9 ∧ DskAt w' (fun g => w.heap.size ≤ g ∧ g < w'.heap.size) bd m' (d0 8 true) ∧ Below w.heap.size w w')) := fun V bd h hb => by
    have hf := fmt_d0 8 false (by omega)
    have hh := plain_format w a V0.sent bd 0 _ (d0 8 false) 8 V h hb (fun g h => h.1) (by show (0 : Int) ≤ _; omega) (by omega) (by omega) (d0_len 8 false (by omega)) (Nat.zero_le _) (Nat.zero_le _)
    rw [hf] at hh
    refine Calls.mono hh ?_
    rintro e w' ⟨rfl, ⟨m', hm, hd⟩, hs⟩
    refine ⟨rfl, m', by omega, hd.mono ?_, hb.trans (hs.below (fun g h => h.1) hb.size)⟩
    rintro g ⟨h | h, h2⟩
    · exact ⟨h.1, h2⟩
    · exact ⟨Nat.le_trans hb.size h, h2⟩
  have HM : Hid (∀ V bd m', m' ≤ 9 → DskAt V (fun g => w.heap.size ≤ g ∧ g < V.heap.size) bd m' (d0 8 true) → Below w.heap.size w V → Calls Tryz.prog 26 #[.pointer (some ⟨bd, 0, none⟩)] V fun e w' => ∃ ba, e = .returned (.tuple #[.pointer (some ⟨ba, 0, none⟩), .int .i64 0]) ∧ Hid (∃ S, (∀ g, S g → w.heap.size ≤ g ∧ g < w'.heap.size) ∧ ArcP w' S ba bd [] ∧ Below w.heap.size w w')) := fun V bd m' hm h hb => by
    have hl := d0_len 8 true (by omega)
    have hh := plain_mount w a V0.sent bd m' 8 _ (d0 8 true) V h hb (fun g h => h.1) (by omega) (by omega) hl rfl (d0_at1 8 true (by omega) (by omega)) (by rw [wipe0 8 true 7 1 (by omega) (by omega)]) (by show (0 : Int) ≤ _; omega) (Nat.zero_le _) (by omega) (fun g h => h.2)
    refine Calls.mono hh ?_
    rintro e w' ⟨ba, h1, N, h2, h3, rfl, -, hA, hs⟩
    exact ⟨ba, rfl, _, fun g hg => ⟨Nat.le_trans hb.size hg.1, by omega⟩, hA, hb.trans (hs.below (fun g h => h.1) hb.size)⟩
  have HK : Hid (∀ V bd ba S, (∀ g, S g → w.heap.size ≤ g ∧ g < V.heap.size) → ArcP V S ba bd [] → Below w.heap.size w V → Calls Tryz.prog 27 #[.pointer (some ⟨ba, 0, none⟩), .string ⟨#[100]⟩] V fun e w' => e = .returned (.int .i64 0) ∧ Hid (∃ S, ArcP w' S ba bd [⟨[nameD], true, ⟨#[]⟩⟩] ∧ Below w.heap.size w w')) := fun V bd ba S hS hA hb => by
    have hh := plain_mkdir w a mx V0 ba bd S [] nameD V hA WFT.nil hb (fun g h => (hS g h).1) (fun g h => (hS g h).2) (by decide)
    rw [mkD.1, mkD.2] at hh
    refine Calls.mono hh ?_
    rintro e w' ⟨rfl, h1, h2⟩
    exact ⟨rfl, _, h1, hb.trans (h2.below (fun g h => (hS g h).1) hb.size)⟩
  have HL : Hid (∀ V bd ba S, ArcP V S ba bd [⟨[nameD], true, ⟨#[]⟩⟩] → Below w.heap.size w V → Calls Tryz.prog 28 #[.pointer (some ⟨ba, 0, none⟩), .int .i64 0, .string ⟨#[]⟩, .int .i64 0] V fun e w' => ∃ g cp, e = .returned (.tuple #[.slice (some ⟨g, 0, none⟩) 1 cp, .int .i64 0, .int .i64 (-1), .bool false]) ∧ w'.cell? ⟨g, 0, none⟩ = some (.string ⟨#[100]⟩) ∧ w'.cell? ⟨g, 1, none⟩ = some (.bool true) ∧ Hid (Below w.heap.size w w')) := fun V bd ba S hA hb => by
    have hwf : WFT [⟨[nameD], true, ⟨#[]⟩⟩] := by
      have := wf_mkdir WFT.nil nameD
      rw [mkD.2] at this
      exact this
    refine Calls.mono (plain_list ba bd S _ a mx ⟨#[]⟩ 0 V hA hwf (V0.on hb) (by decide) ⟨by omega, by omega⟩) ?_
    rintro e w' ⟨v, rfl, hb2, ⟨h0, -⟩ | ⟨l, hl, -, ho⟩⟩
    · exact (h0 liD).elim
    · rw [path0] at hl
      cases hl
      rw [enD] at ho
      obtain ⟨g, cap, rfl, -, -, hc⟩ := ents_cells ho (by decide)
      obtain ⟨c0, c1, -⟩ := hc 0 (by decide)
      exact ⟨g, cap, by rw [liD]; rfl, c0, c1, hb.trans (hb2.mono hb.size)⟩
  clear V0
  go_enter Tryz.func14, Tryz.ntmps14
  go_wp2_with fail
  refine HN.out.mono ?_
  rintro e w1 ⟨bd, rfl, H1⟩
  have HF1 := HF.out w1 bd H1.out.1 H1.out.2
  go_wp2_with fail
  refine HF1.mono ?_
  rintro e w2 ⟨rfl, H2⟩
  obtain ⟨m', hm', D2, B2⟩ := H2.out
  have HM2 := HM.out w2 bd m' hm' D2 B2
  clear D2 B2 hm' HF1 HF HN
  go_wp2_with fail
  refine HM2.mono ?_
  rintro e w3 ⟨ba, rfl, H3⟩
  obtain ⟨S3, hS3, A3, B3⟩ := H3.out
  have HK3 := HK.out w3 bd ba S3 hS3 A3 B3
  clear hS3 A3 B3 HM2 HM HK
  go_wp2_with fail
  refine HK3.mono ?_
  rintro e w4 ⟨rfl, H4⟩
  obtain ⟨S4, A4, B4⟩ := H4.out
  have HL4 := HL.out w4 bd ba S4 A4 B4
  clear A4 B4 HK3 HL
  go_wp2_with fail
  refine HL4.mono ?_
  rintro e w5 ⟨g, cp, rfl, c0, c1, H5⟩
  clear HL4
  go_wp2
  go_ret
  exact ⟨rfl, H5.out⟩
end Go.Proofs.YtapijhhmjjplmaaGreatDoor
namespace Go.Proofs.YtapijhhmjjplmaaGreatDoor
open Go.RowKit Go.Maps
theorem mem_bulk2 {l : List Stp} {x : Stp} (h : x ∈ l) : x.s.size + x.t.size ≤ bulk l := by
  induction l with
  | nil => cases h
  | cons y r ih =>
    have e : bulk (y :: r) = y.s.size + y.t.size + bulk r := by simp [bulk]
    rw [e]
    rcases List.mem_cons.1 h with rfl | h
    · omega
    · have := ih h; omega
theorem TInv.init {w w1 : World} {b : Nat} {kv hv : Value} (M : Made (w.alloc (.cells freshW 73)) w1 b kv hv) : TInv w 0 (w1.setCell ⟨w.heap.size, 0, none⟩ (.pointer (some ⟨b, 0, none⟩))) := by
  have S := SInv.init M
  have h0 : w1.heap[w.heap.size]? = some (.cells freshW 73 (0, 0)) := by
    rw [M.below.block _ (by simp)]
    exact heap_alloc_new w _
  refine ⟨b, .slice none 0 0, [], 262144, fun _ => 0, ⟨S.below, ?_, ⟨⟨rfl, .inl ⟨rfl, rfl⟩⟩, fun g hg => (by cases hg)⟩, Nat.le_refl _, fun k hk => (by cases hk), by omega, by omega⟩⟩
  rw [heap_setCell_same w1 _ 0 _ _ _ h0]
  rfl
theorem trees_steps (w : World) (l : List Stp) (hb : l.length + bulk l ≤ 262144) (hr : ∀ x ∈ l, inR x.b) (a : Nat → Addr) (mx : Int) (V0 : Vars w a mx) : StepsN w 1699848 l (TInv w) DT where
  below := fun _ _ h => by obtain ⟨b, av, l, left, o, I⟩ := h; exact I.below
  left := fun _ W h => by obtain ⟨b, av, l, left, o, I⟩ := h; exact ⟨left, I.left⟩
  mono := fun _ _ _ h hb => by obtain ⟨b, av, l, left, o, I⟩ := h; exact ⟨b, av, l, left, o, I.mono hb⟩
  succ := fun _ _ h => by obtain ⟨b, av, l, left, o, I⟩ := h; exact ⟨b, av, l, left, o, I.succ⟩
  init := fun _ _ _ _ M => TInv.init M
  does := fun x _ h1 h2 W => doesT x h1 h2 W
  step := fun i x hi hx _ _ hd W I hL hra hrd => by
    have hbk := mem_bulk2 hx
    have hxb := hr x hx
    unfold DT at hd
    simp only [Bool.or_eq_true, Bool.and_eq_true, decide_eq_true_eq] at hd
    by_cases h3 : x.kind = 3
    · exact step_newT w W i (by omega) x h3 hra I hL
    · obtain ⟨b, av, p, left, o, I⟩ := I
      have hl0 : 0 < left := by
        obtain ⟨n, h1, h2⟩ := hL
        rw [I.left] at h2
        cases h2
        exact h1
      by_cases h0 : p.length = 0
      · exact step_noneT w W i x (by omega) b av p left o I h0
      · by_cases h12 : x.kind = 12 ∨ x.kind = 13
        · exact step_diskT w W a V0.sent i (by omega) x h12 hrd b av p left o I h0 hl0
        · exact step_arcT w W a mx V0 i (by omega) x (by omega) (by omega) (by omega) (by omega) hxb hrd b av p left o I h0
  looks := fun i W I => by
    have hI := I
    obtain ⟨b, av, l, left, o, I⟩ := I
    have c3 : W.cell? ⟨w.heap.size, 3, none⟩ = some (.slice none 0 0) := by rw [cell_of_row _ _ _ _ _ _ I.row]; rfl
    refine (looks_nil w.heap.size W c3).mono ?_
    rintro e W' ⟨rfl, rfl⟩
    exact ⟨rfl, hI⟩
theorem Scr.rb {w : World} {v : Value} {l : List Stp} (h : Scr w v l) : ∀ x ∈ l, inR x.b := fun x hx => by
  rcases h with ⟨_, _, _, rfl⟩ | ⟨bl, off, cap, _, _, _, hc⟩
  · cases hx
  · obtain ⟨i, hi, rfl⟩ := List.getElem_of_mem hx
    exact (hc i hi).rb
set_option maxRecDepth 100000 in
theorem trees_any (v : Value) (l : List Stp) (w : World) (hs : Scr w v l) (a : Nat → Addr) (mx : Int) (V0 : Vars w a mx) :
    Calls Tryz.prog 5 #[v] w fun e w' => e = .returned (.bool true) ∧ Below w.heap.size w w' := by
  have HM : Hid (Calls Tryz.prog 14 #[] w fun e w' => e = .returned (.bool true) ∧ Below w.heap.size w w') := mounts_true w a mx V0
  have HH : Hid (∀ V, Below w.heap.size w V → Calls Tryz.prog 13 #[v, .int .i64 1699848, .int .i64 1699848, .bool false] V fun e w' => e = .returned (.bool true) ∧ Hid (Below w.heap.size w w')) := fun V hV => by
    have hp := plays_ofN 1699848 1699848 false v l V (Scr.on hs hV) (fun w1 hb hl => ⟨_, _, trees_steps w1 l hl hs.rb a mx ((V0.on hV).on hb)⟩)
    refine Calls.mono hp ?_
    rintro e w' ⟨rfl, hb⟩
    exact ⟨rfl, hV.trans (hb.mono hV.size)⟩
  clear V0 hs
  go_enter Tryz.func5, Tryz.ntmps5
  go_wp2_with fail
  refine HM.out.mono ?_
  rintro e w1 ⟨rfl, B1⟩
  have HH1 := HH.out w1 B1
  clear B1 HH HM
  go_wp2_with fail
  refine HH1.mono ?_
  rintro e w2 ⟨rfl, B2⟩
  clear HH1
  go_wp2
  go_ret
  exact ⟨rfl, B2.out⟩
end Go.Proofs.YtapijhhmjjplmaaGreatDoor
namespace Go.Proofs.YtapijhhmjjplmaaGreatDoor
open Go.ChangeShapes Go.WideShapes Go.RowKit
/-- A list of laid variables, position by position: each reads as listed; what one position's pointers lead to is met at no other. -/
theorem laid_all {P : Program} {W : World} : ∀ {l : List (String × DataW Unit)} {ps : List MemPlace}, DataW.LaidVars P W l ps → ps.Nodup →
    ∃ pl : Nat → List MemPlace, (∀ j (h : j < l.length), ∃ g t cs fuel, P.globalNamed l[j].1 = some g ∧ (P.globals[g]?).map (·.type) = some t ∧ W.var? P l[j].1 = some cs ∧
      DataW.trod (fun _ => ()) P W 0 (fun _ => true) false fuel t cs.toList = some (l[j].2, pl j) ∧ ∀ x ∈ MemPlace.row ⟨g, 0, none⟩ cs.size ++ pl j, x ∈ ps) ∧
      ∀ i j, i < j → j < l.length → ∀ x ∈ pl i, x ∉ pl j
  | [], ps, _, _ => ⟨fun _ => [], fun j h => absurd h (Nat.not_lt_zero _), fun i j _ h => absurd h (Nat.not_lt_zero _)⟩
  | (n, d) :: r, ps, h, hnd => by
    obtain ⟨g, t, cs, fuel, p, q, hg, ht, hv, hd, hr, e⟩ := h
    subst e
    have hnq : q.Nodup := (List.nodup_append.1 hnd).2.1
    obtain ⟨pl, h1, h2⟩ := laid_all hr hnq
    have hsub : ∀ j, j < r.length → ∀ x ∈ pl j, x ∈ q := fun j hj x hx => by
      obtain ⟨g', t', cs', fuel', _, _, _, _, hin⟩ := h1 j hj
      exact hin x (List.mem_append_right _ hx)
    refine ⟨fun j => match j with | 0 => p | j + 1 => pl j, ?_, ?_⟩
    · intro j hj
      match j, hj with
      | 0, _ => exact ⟨g, t, cs, fuel, hg, ht, hv, hd, fun x hx => List.mem_append_left _ hx⟩
      | j + 1, hj =>
        obtain ⟨g', t', cs', fuel', a1, a2, a3, a4, a5⟩ := h1 j (Nat.lt_of_succ_lt_succ hj)
        exact ⟨g', t', cs', fuel', a1, a2, a3, a4, fun x hx => List.mem_append_right _ (a5 x hx)⟩
    · intro i j hij hj x hx hx'
      match i, j, hij, hj with
      | 0, j + 1, _, hj =>
        have := hsub j (Nat.lt_of_succ_lt_succ hj) x hx'
        exact (List.nodup_append.1 hnd).2.2 x (List.mem_append_right _ hx) x this rfl
      | i + 1, j + 1, hij, hj => exact h2 i j (Nat.lt_of_succ_lt_succ hij) (Nat.lt_of_succ_lt_succ hj) x hx hx'
theorem star : "*" ++ "errors.errorString" = "*errors.errorString" := by decide
theorem rowE (u : TypeId) (h : Tryz.prog.typeName? 3 u = some "*errors.errorString") : u = 458 :=
  typeName_ptr_named (nm := "errors.errorString") (by rw [star]; kernel_rfl) (by kernel_rfl) (by decide) u (by rw [star]; exact h)
theorem cellsE : Tryz.prog.cellsOf 476 = 1 := by kernel_rfl
theorem cellsS : Tryz.prog.cellsOf 9 = 1 := by kernel_rfl
set_option maxRecDepth 100000 in
/-- One sentinel out of one position. -/
theorem sent_at {W : World} {n : String} {text : List UInt8} {g : Nat} {p ps : List MemPlace} {t : TypeId} {cs : Array Value} {fuel : Nat}
    (hg : Tryz.prog.globalNamed n = some g) (ht : (Tryz.prog.globals[g]?).map (·.type) = some 92) (ht' : (Tryz.prog.globals[g]?).map (·.type) = some t) (hv : W.var? Tryz.prog n = some cs)
    (hd : DataW.trod (fun _ => ()) Tryz.prog W 0 (fun _ => true) false fuel t cs.toList = some (.iface "*errors.errorString" (.ptr (.agg [.lit (.string text)])), p))
    (hin : ∀ x ∈ MemPlace.row ⟨g, 0, none⟩ cs.size ++ p, x ∈ ps)
    (hrows : ∀ b off, MemPlace.cell b off ∈ ps → (∃ c t, W.heap[b]? = some (.cells c t (0, 0))) ∧ ∀ u v, W.cell? ⟨b, off, none⟩ = some (.iface u v) → Value.okWide Tryz.prog W .any 0 u v) :
    ∃ a s, W.cell? ⟨g, 0, none⟩ = some (rv a) ∧ W.cell? a = some (.string s) ∧ s.size = text.length ∧ (∃ c t, W.heap[a.block]? = some (.cells c t (0, 0))) ∧ p = [.cell a.block a.off] := by
  obtain rfl := Option.some.inj (ht.symm.trans ht')
  obtain ⟨l⟩ := cs
  have ok : ∀ u v, l = [.iface u v] → Value.okWide Tryz.prog W .any 0 u v := fun u v e => by
    subst e
    have hmem : MemPlace.cell g 0 ∈ ps := hin (MemPlace.cell g 0) (List.mem_append_left _ (by simp [MemPlace.row]))
    have hc0 : W.cell? ⟨g, 0, none⟩ = some (.iface u v) := by
      have := World.var?_cell hg hv 0
      simpa using this
    exact (hrows g 0 hmem).2 u v hc0
  obtain ⟨a, s, rfl, hc, hs, _, rfl⟩ := errorString_of_trod Tryz.underlying92 rowE Tryz.underlying458 Tryz.underlying476 rfl rfl Tryz.underlying9 cellsE cellsS hd ok
  refine ⟨a, s, by simpa using World.var?_cell hg hv 0, hc, ?_, (hrows a.block a.off (hin _ (by simp [MemPlace.row]))).1, by simp [MemPlace.row]⟩
  rw [← hs, Array.length_toList, ByteArray.size_data]
/-- The reasons' names and texts, in order. -/
def named12 : List (String × List UInt8) := [("keepsake/keepsake.ErrArg", [97, 110, 32, 97, 114, 103, 117, 109, 101, 110, 116, 32, 116, 104, 97, 116, 32, 109, 97, 121, 32, 110, 111, 116, 32, 98, 101]), ("keepsake/keepsake.ErrDown", [116, 104, 101, 32, 100, 105, 115, 107, 32, 105, 115, 32, 100, 111, 119, 110]), ("keepsake/keepsake.ErrFormat", [110, 111, 32, 97, 114, 99, 104, 105, 118, 101, 32, 105, 115, 32, 116, 104, 101, 114, 101]), ("keepsake/keepsake.ErrCorrupt", [100, 97, 109, 97, 103, 101]), ("keepsake/keepsake.ErrPath", [97, 32, 112, 97, 116, 104, 32, 116, 104, 97, 116, 32, 109, 97, 121, 32, 110, 111, 116, 32, 98, 101]), ("keepsake/keepsake.ErrNone", [105, 116, 32, 105, 115, 32, 110, 111, 116, 32, 116, 104, 101, 114, 101]), ("keepsake/keepsake.ErrKind", [105, 116, 32, 105, 115, 32, 111, 102, 32, 116, 104, 101, 32, 111, 116, 104, 101, 114, 32, 107, 105, 110, 100]), ("keepsake/keepsake.ErrAgain", [105, 116, 32, 105, 115, 32, 116, 104, 101, 114, 101, 32, 97, 108, 114, 101, 97, 100, 121]), ("keepsake/keepsake.ErrBusy", [105, 116, 32, 105, 115, 32, 110, 111, 116, 32, 101, 109, 112, 116, 121]), ("keepsake/keepsake.ErrMany", [110, 111, 32, 114, 111, 111, 109, 32, 105, 110, 32, 97, 32, 100, 105, 114, 101, 99, 116, 111, 114, 121]), ("keepsake/keepsake.ErrBig", [116, 111, 111, 32, 109, 97, 110, 121, 32, 98, 121, 116, 101, 115]), ("keepsake/keepsake.ErrFull", [116, 104, 101, 32, 100, 105, 115, 107, 32, 105, 115, 32, 102, 117, 108, 108])]
theorem g12 : ∀ j, (h : j < named12.length) → ∃ g, Tryz.prog.globalNamed named12[j].1 = some g ∧ (Tryz.prog.globals[g]?).map (·.type) = some 92 ∧ g = [0, 1, 2, 3, 4, 5, 6, 7, 8, 9, 10, 11].getD j 0
  | 0, _ => ⟨0, by kernel_rfl, by kernel_rfl, rfl⟩
  | 1, _ => ⟨1, by kernel_rfl, by kernel_rfl, rfl⟩
  | 2, _ => ⟨2, by kernel_rfl, by kernel_rfl, rfl⟩
  | 3, _ => ⟨3, by kernel_rfl, by kernel_rfl, rfl⟩
  | 4, _ => ⟨4, by kernel_rfl, by kernel_rfl, rfl⟩
  | 5, _ => ⟨5, by kernel_rfl, by kernel_rfl, rfl⟩
  | 6, _ => ⟨6, by kernel_rfl, by kernel_rfl, rfl⟩
  | 7, _ => ⟨7, by kernel_rfl, by kernel_rfl, rfl⟩
  | 8, _ => ⟨8, by kernel_rfl, by kernel_rfl, rfl⟩
  | 9, _ => ⟨9, by kernel_rfl, by kernel_rfl, rfl⟩
  | 10, _ => ⟨10, by kernel_rfl, by kernel_rfl, rfl⟩
  | 11, _ => ⟨11, by kernel_rfl, by kernel_rfl, rfl⟩
  | j + 12, h => absurd h (by simp [named12])
theorem short12 : ∀ j, (h : j < named12.length) → 0 < named12[j].2.length ∧ named12[j].2.length < 1000 := by decide
def sentD (x : String × List UInt8) : String × DataW Unit := (x.1, .iface "*errors.errorString" (.ptr (.agg [.lit (.string x.2)])))
theorem et : Tryz.prog.globalNamed "errors.errorType" = some 12 := by kernel_rfl
theorem rt : (Tryz.prog.cutTypes.find? (·.1 == "internal/reflectlite.rtype")).map (·.2) = some 333 := by kernel_rfl
theorem oneRow : ((List.range 487).filter fun t => Tryz.prog.rowNamed t [101, 114, 114, 111, 114]) = [92] := by kernel_rfl
theorem tsize : Tryz.prog.types.size = 487 := by kernel_rfl
/-- The handle's cell. -/
theorem handle_of {W : World} {hs : List (String × DataW Unit)} (h : handlesMet Tryz.prog hs W) (hm : ("errors.errorType", .iface "internal/reflectlite.rtype" (.agg [.ptr (.lit (.string [101, 114, 114, 111, 114]))])) ∈ hs) :
    W.cell? ⟨12, 0, none⟩ = some (.iface 333 (.agg #[.pointer (some ⟨18, 92, none⟩)])) := by
  obtain ⟨name, u, ty, e1, e2, e3, e4, e5⟩ := h _ hm
  have en : name = [101, 114, 114, 111, 114] := (Option.some.inj e1).symm
  subst en
  obtain rfl := Option.some.inj (rt.symm.trans e2)
  have hm : ty ∈ (List.range 487).filter fun t => Tryz.prog.rowNamed t [101, 114, 114, 111, 114] := List.mem_filter.2 ⟨List.mem_range.2 (by rw [← tsize]; exact e3), e4⟩
  rw [oneRow] at hm
  obtain rfl := List.mem_singleton.1 hm
  have hh : typeHandle Tryz.prog 92 = .pointer (some ⟨18, 92, none⟩) := by kernel_rfl
  rw [hh] at e5
  simpa using World.var?_cell et e5 0
/-- 'Sent' out of a condition in which the twelve stand at the positions 'at_'. -/
theorem sent_of {W : World} {l : List (String × DataW Unit)} (pos : Nat → Nat) (hpos : ∀ j, (h : j < named12.length) → ∃ h' : pos j < l.length, l[pos j] = sentD named12[j]) (hinc : ∀ i j, i < j → pos i < pos j)
    (hm : laidMet Tryz.prog l W) (ht : W.cell? ⟨12, 0, none⟩ = some (.iface 333 (.agg #[.pointer (some ⟨18, 92, none⟩)]))) : ∃ a, Sent W a := by
  obtain ⟨ps, hl, hnd, hrows⟩ := hm
  obtain ⟨pl, h1, h2⟩ := laid_all hl hnd
  have one : ∀ j, (h : j < named12.length) → ∃ a s, W.cell? ⟨[0, 1, 2, 3, 4, 5, 6, 7, 8, 9, 10, 11].getD j 0, 0, none⟩ = some (rv a) ∧ W.cell? a = some (.string s) ∧ s.size = named12[j].2.length ∧ (∃ c t, W.heap[a.block]? = some (.cells c t (0, 0))) ∧ pl (pos j) = [.cell a.block a.off] := by
    intro j hj
    obtain ⟨hp, he⟩ := hpos j hj
    obtain ⟨g, t, cs, fuel, a1, a2, a3, a4, a5⟩ := h1 (pos j) hp
    obtain ⟨g', b1, b2, b3⟩ := g12 j hj
    rw [he] at a1 a3 a4
    obtain rfl := Option.some.inj (b1.symm.trans a1)
    rw [← b3]
    exact sent_at b1 b2 a2 a3 a4 a5 hrows
  have hlen : named12.length = 12 := rfl
  have one' : ∀ j, ∃ a : Addr, (h : j < named12.length) → ∃ s, W.cell? ⟨[0, 1, 2, 3, 4, 5, 6, 7, 8, 9, 10, 11].getD j 0, 0, none⟩ = some (rv a) ∧ W.cell? a = some (.string s) ∧ s.size = named12[j].2.length ∧ (∃ c t, W.heap[a.block]? = some (.cells c t (0, 0))) ∧ pl (pos j) = [.cell a.block a.off] := by
    intro j
    by_cases h : j < named12.length
    · obtain ⟨a, s, hs⟩ := one j h
      exact ⟨a, fun _ => ⟨s, hs⟩⟩
    · exact ⟨⟨0, 0, none⟩, fun h' => absurd h' h⟩
  obtain ⟨a, spec⟩ := Classical.axiomOfChoice one'
  refine ⟨a, ?_⟩
  exact {
    v0 := (spec 0 (by decide)).choose_spec.1
    v1 := (spec 1 (by decide)).choose_spec.1
    v2 := (spec 2 (by decide)).choose_spec.1
    v3 := (spec 3 (by decide)).choose_spec.1
    v4 := (spec 4 (by decide)).choose_spec.1
    v5 := (spec 5 (by decide)).choose_spec.1
    v6 := (spec 6 (by decide)).choose_spec.1
    v7 := (spec 7 (by decide)).choose_spec.1
    v8 := (spec 8 (by decide)).choose_spec.1
    v9 := (spec 9 (by decide)).choose_spec.1
    v10 := (spec 10 (by decide)).choose_spec.1
    v11 := (spec 11 (by decide)).choose_spec.1
    row := fun j hj => (spec j (by rw [hlen]; exact hj)).choose_spec.2.2.2.1
    text := fun j hj => by
      obtain ⟨s, _, hs, hz, _, _⟩ := spec j (by rw [hlen]; exact hj)
      have := short12 j (by rw [hlen]; exact hj)
      exact ⟨s, hs, by omega, by omega⟩
    inj := fun i j hi hj hij e => by
      obtain ⟨s, _, _, _, _, hp⟩ := spec i (by rw [hlen]; exact hi)
      obtain ⟨s', _, _, _, _, hp'⟩ := spec j (by rw [hlen]; exact hj)
      rw [e] at hp
      rcases Nat.lt_or_gt_of_ne hij with h | h
      · exact h2 _ _ (hinc i j h) (hpos j (by rw [hlen]; exact hj)).1 _ (by rw [hp]; exact List.mem_singleton.2 rfl) (by rw [hp']; exact List.mem_singleton.2 rfl)
      · exact h2 _ _ (hinc j i h) (hpos i (by rw [hlen]; exact hi)).1 _ (by rw [hp']; exact List.mem_singleton.2 rfl) (by rw [hp]; exact List.mem_singleton.2 rfl)
    ty := ht }
end Go.Proofs.YtapijhhmjjplmaaGreatDoor
namespace Go.Proofs.YtapijhhmjjplmaaGreatDoor
theorem k_main : Tryz.pinned.checked.prog.mainIs = some (true, ("a5bdd69e9582746949c8e84eed0d6134fc226438f06422e11e389a3d5ab4b345" : String).toList) := by kernel_rfl
theorem k_looks : true = Tryz.pinned.checked.prog.looks [] := by kernel_rfl
theorem k_stand : ([22].all fun u => !Tryz.prog.wantsStandIn u) = true := by kernel_rfl
theorem k_trees_wf : Rows.treesRow.wfByText (OpenSpec.ofChange Rows.treesSpec) = true := by kernel_rfl
theorem k_trees_goes : false = Rows.treesRow.goesBy Tryz.pinned.checked.prog := by kernel_rfl
end Go.Proofs.YtapijhhmjjplmaaGreatDoor
namespace Go.Proofs.YtapijhhmjjplmaaGreatDoor
open Go.ChangeShapes Go.WideShapes Go.ChangeAt Go.WideMaps Go.WideElems Go.RowKit
theorem laid_parts : (laidL.filter fun x => x.2.handleName?.isNone) = [("unicode/utf8.acceptRanges", Rows.laid_unicode_utf8_acceptRanges), ("keepsake/sums.startWords", Rows.laid_keepsake_sums_startWords), ("keepsake/sums.roundWords", Rows.laid_keepsake_sums_roundWords)] ++ (named12.map sentD ++ [("unicode/utf8.first", Rows.laid_unicode_utf8_first)]) := rfl
theorem sent_of_laid {W : World} (h : laidMetH Tryz.prog laidL W) : ∃ a, Sent W a := by
  have hp := plain_of_laidH h
  rw [laid_parts] at hp
  have hh : handlesMet Tryz.prog [("errors.errorType", .iface "internal/reflectlite.rtype" (.agg [.ptr (.lit (.string [101, 114, 114, 111, 114]))]))] W := by
    unfold laidMetH at h
    split at h
    · rename_i hf
      exact absurd hf (by intro e; cases e)
    · rename_i hd tl heq
      have h2 := h.2
      rw [← heq] at h2
      exact h2
  refine sent_of (fun j => j + 3) (fun j hj => ⟨by simp; omega, ?_⟩) (fun i j hij => by show i + 3 < j + 3; omega) hp (handle_of hh (List.mem_singleton.2 rfl))
  rw [List.getElem_append_right (by simp), List.getElem_append_left (by simpa using hj)]
  simp
theorem int_of_ok {P : Program} {W : World} {u : TypeId} {v : Value} (hu : P.underlying u = some (.int .i64)) (h : Cell.ok P W .any 0 u v) : ∃ n, v = .int .i64 n := by
  unfold Cell.ok at h
  rw [hu] at h
  cases v with
  | int k n =>
    obtain ⟨rfl, -⟩ := h
    exact ⟨n, rfl⟩
  | _ => exact h.elim
/-- An int among the variables: it holds some number. -/
theorem int_of_shape {P : Program} {W : World} (h : W.ShapedOpen P) {g : Nat} {t : TypeId} {z : Array Value} (hg : g < P.globals.size) (h0 : ((begin P (fun _ _ => 0) default).world.heap[g]?).bind Obj.row? = some (z, t)) (hz : z.size = 1) (hb : P.buildable t = true) (ht : P.cellTypes P.depth t = some [t]) (hu : P.underlying t = some (.int .i64)) : ∃ m, W.cell? ⟨g, 0, none⟩ = some (.int .i64 m) := by
  obtain ⟨cs, hh, hs, hr⟩ := h.1 g z t hg h0
  obtain ⟨ts, hts, -, hc⟩ := hr hb
  obtain rfl := Option.some.inj (ht.symm.trans hts)
  obtain ⟨v, hv⟩ : ∃ v, cs[0]? = some v := ⟨cs[0]'(by omega), Array.getElem?_eq_getElem (by omega)⟩
  obtain ⟨u, hu', hk⟩ := hc 0 v hv
  obtain rfl : t = u := Option.some.inj hu'
  obtain ⟨n, rfl⟩ := int_of_ok hu hk
  exact ⟨n, by rw [cell_of_row _ _ _ _ _ _ hh]; exact hv⟩
theorem g_size : Tryz.prog.globals.size = 18 := by kernel_rfl
theorem g_max : ((begin Tryz.prog (fun _ _ => 0) default).world.heap[15]?).bind Obj.row? = some (#[.int .i64 0], 3) := by kernel_rfl
theorem b_int : Tryz.prog.buildable 3 = true := by kernel_rfl
theorem c_int : Tryz.prog.cellTypes Tryz.prog.depth 3 = some [3] := by kernel_rfl
/-- The length that strings.Repeat asks for: an int, whichever. -/
theorem max_of_shape {W : World} (h : W.ShapedOpen Tryz.prog) : ∃ m, W.cell? ⟨15, 0, none⟩ = some (.int .i64 m) :=
  int_of_shape h (by rw [g_size]; decide) g_max rfl b_int c_int Tryz.underlying3
set_option maxRecDepth 100000 in
theorem lifted_trees (os : Os) (started : os.Started) (H : Type) (enc : TypeId × Value → H) :
    ReturnsInHanded {} Tryz.checked os 5 .any (fun w args => (Rows.treesSpec.pre enc Tryz.prog Tryz.f5 [] false w args ∧ laidMetH Tryz.prog laidL w) ∧ sizedMet enc Tryz.prog Tryz.f5 (OpenSpec.ofChange Rows.treesSpec) false w args)
      (Rows.treesSpec.post enc Tryz.prog Tryz.f5 false true false false) := by
  refine returnsInHanded_of_calls (C := Tryz.checked) own started (by kernel_rfl)
    (ChangeSpec.witness_shaped (enc := enc) (C := Tryz.checked) (os := os) (X := fun w _ => laidMetH Tryz.prog laidL w) false ((World.doorLaid Tryz.prog 264 os).layVars Tryz.prog bigL) #[.slice none 0 0] 8 (World.layVars_os _ _ _) (World.shaped_of_ZipB (by kernel_rfl) (by kernel_rfl)) (by kernel_rfl) (by kernel_rfl) (by kernel_rfl) (wit_met os _)) ?_
  intro w tape i _ hShape _ hok hpre _
  obtain ⟨_, _, _, fn', hfn', _, _, _, _, hval0⟩ := hok
  obtain rfl : Tryz.f5 = fn' := Option.some.inj (Tryz.func5.symm.trans hfn')
  obtain ⟨⟨⟨ds, gs, before, hw0, _⟩, hL0⟩, hz⟩ := hpre
  have hW := DataW.Whole.of_heap (w' := w.forCall tape i) (by rfl) hw0
  have hL : laidMetH Tryz.prog laidL (w.forCall tape i) := hL0.of_heap (by rfl)
  have hsz := hz.weights hw0
  obtain ⟨mx, hmx⟩ := max_of_shape hShape
  obtain ⟨iblocks, args, ivars⟩ := i
  obtain ⟨W, hWd⟩ : ∃ W, W = w.forCall tape ⟨iblocks, args, ivars⟩ := ⟨_, rfl⟩
  rw [← hWd] at hval0 hW hL hmx ⊢
  have hW' := hW
  obtain ⟨p, q, hA0, hV, rfl, hfz, hnd⟩ := hW
  have hval : ∀ (j : Nat) t v, Tryz.f5.params[j]? = some t → args[j]? = some v → Value.okWide Tryz.prog W .any w.heap.size t v := hval0
  have hA : DataW.TrodAll enc Tryz.prog W 0 (fun _ => true) true Tryz.f5.params.toList args.toList ds p := hA0
  have hsz' : (DataW.weightsEach Tryz.prog (Tryz.f5.params.toList ++ []) (ds ++ gs)).all (· ≤ reachBytes) = true := hsz
  rw [Tryz.params5] at hA hval hsz'
  obtain ⟨v0, d0, rfl, rfl, h0⟩ := trodAll_one hA
  obtain ⟨rfl, rfl⟩ := trodVars_none hV
  have hv := okWide_slice Tryz.underlying22 (hval 0 22 v0 rfl rfl)
  have hw : (d0.weights Tryz.prog 22).all (· ≤ reachBytes) = true := List.all_eq_true.2 fun n hn => List.all_eq_true.1 hsz' n (DataW.weights_mem_each (j := 0) (t := 22) (d := d0) rfl rfl n hn)
  obtain ⟨fuel, h1⟩ := h0
  obtain ⟨l, hl⟩ := open_script h1 hv hw
  obtain ⟨sa, S0⟩ := sent_of_laid hL
  refine (trees_any v0 l W hl sa mx ⟨S0, hmx⟩).mono fun e W' ⟨he, hb⟩ => ?_
  subst he
  refine ChangeSpec.post_blind ?_
  have e1 : Rows.treesSpec.fn H ([d0] ++ []) = { results := [.lit (.bool true)], args := [d0] } := rfl
  have ha : DataW.Trod enc Tryz.prog W' 0 (fun b => decide (b < W.heap.size)) true 22 v0 d0 p := hb.trod s_laidOut (by kernel_rfl) (of_decide_eq_true (by kernel_rfl)) ⟨fuel, h1⟩ (fun x hx => hW'.lt x (List.mem_append_left _ hx))
  refine ⟨_, _, _, [], p, [], hW', ?_, ?_, ?_, hb.frame _, fun h => by cases h⟩
  · rw [e1]; exact trodAll_mk1 (shut_bool Tryz.underlying4 true)
  · rw [e1]; exact trodAll_mk1 ha
  · rw [e1]; rfl
theorem t_inst : Tryz.f5.isInstance Tryz.prog Rows.treesRow.origin Rows.treesRow.targs := of_decide_eq_true (by kernel_rfl)
theorem t_wrap : Tryz.f5.isWrapper Tryz.prog Rows.treesRow.wrapper Rows.treesRow.mainSum := by unfold Func.isWrapper; first | (rw [if_pos (by decide +kernel)]; kernel_rfl) | (rw [if_neg (by decide +kernel)]; exact ⟨rfl, rfl⟩)
theorem trees_holds : Rows.TreesSaid :=
  OpenClaim.holds_of_wide 5 Tryz.f5 rfl rfl rfl rfl rfl rfl rfl ⟨rfl, rfl, rfl, rfl, rfl⟩ rfl rfl rfl rfl rfl t_funcNamed Tryz.func5 t_joined t_inst t_wrap
    (fun os started H enc _ => lifted_trees os started H enc)
theorem trees_card_holds : Rows.TreesCardSaid :=
  Claim7.holds_tied_plain_at .later [] [.data, .handle, .data, .data, .sentinel, .sentinel, .sentinel, .sentinel, .sentinel, .sentinel, .sentinel, .sentinel, .sentinel, .sentinel, .sentinel, .sentinel, .pinned] true (true, "a5bdd69e9582746949c8e84eed0d6134fc226438f06422e11e389a3d5ab4b345") true
    trees_holds (fun _ h => by cases h) k_trees_wf (fun _ h => by cases h) trees_row_tie rfl ⟨rfl, rfl⟩ k_main rfl
    (fun f fn hf hfn => by
      obtain rfl : f = 5 := Option.some.inj (t_funcNamed.symm.trans hf) |>.symm
      obtain rfl : fn = Tryz.f5 := (Option.some.inj (Tryz.func5.symm.trans hfn)).symm
      exact ⟨k_looks, fun j t ht => by
        rw [Tryz.params5] at ht
        have hm : t ∈ [22] := by simpa using Array.mem_of_getElem? ht
        have hall := k_stand
        exact (show Tryz.prog.wantsStandIn t = false by simpa using List.all_eq_true.1 hall t hm)⟩)
    k_trees_goes
#print axioms trees_card_holds
end Go.Proofs.YtapijhhmjjplmaaGreatDoor
