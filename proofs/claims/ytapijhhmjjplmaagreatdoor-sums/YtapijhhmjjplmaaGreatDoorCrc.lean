/- OWN TEXT: the program's CRC: four shifts; the table's words, made by the closure that Once calls. -/
import Derived.Test.YtapijhhmjjplmaaGreatDoorTab
import Derived.Test.YtapijhhmjjplmaaGreatDoorSched
import Derived.Deep.RegionWith
namespace Go.Proofs.YtapijhhmjjplmaaGreatDoor
open Go.RowKit

theorem u32_and_one (z : Nat) (h : (z : Int) ≤ 4294967295) : bits .and .u32 (z : Int) 1 = ((z % 2 : Nat) : Int) := by
  have h1 := u32_and_nat z 1 (by omega) (by omega)
  rw [Nat.and_one_is_mod] at h1
  exact h1

set_option maxRecDepth 100000 in
set_option maxHeartbeats 1000000 in
theorem four_shifts (x : Nat) (w : World) (hx : (x : Int) ≤ 4294967295) :
    Calls Tryz.prog 295 #[.int .u32 (x : Int)] w fun e w' => e = .returned (.int .u32 (crcSteps 4 x : Int)) ∧ w = w' := by
  go_enter Tryz.func295, Tryz.ntmps295
  go_wp2
  go_loop [0, 4] (fun r j => ∃ m z : Nat, m ≤ 4 ∧ j = .int .i64 ((4 : Int) - m) ∧ r = .int .u32 (z : Int) ∧ (z : Int) ≤ 4294967295 ∧ Hid (crcSteps m z = crcSteps 4 x)) (fun _ j => 4 - (intOf j).toNat)
  case atStart => exact ⟨4, x, by omega, rfl, rfl, hx, rfl⟩
  case round =>
    obtain ⟨m, z, hm, rfl, rfl, hz, Hz⟩ := hrel
    by_cases hm0 : 0 < m
    · obtain ⟨m, rfl⟩ : ∃ m', m = m' + 1 := ⟨m - 1, by omega⟩
      have hzw : z < w32 := by unfold w32; omega
      have hand := u32_and_one z hz
      by_cases hodd : z % 2 = 1
      · rw [hodd] at hand
        obtain ⟨u, hu⟩ : ∃ u, u = (z / 2) ^^^ 3988292384 := ⟨_, rfl⟩
        have hxor : bits .xor .u32 ((z : Int) / 2) 3988292384 = (u : Int) := by
          have h := u32_xor_nat (z / 2) 3988292384 (by omega) (by omega)
          rw [hu, ← h]
          rfl
        have hcs : crcStep z = u := by unfold crcStep; rw [if_pos hodd, hu]
        have huw : u < w32 := by rw [← hcs]; exact crcStep_lt z hzw
        have hui : (u : Int) ≤ 4294967295 := by unfold w32 at huw; omega
        have HU : Hid (crcSteps m u = crcSteps 4 x) := by
          show _ = _
          rw [← Hz.out, ← hcs]; rfl
        clear hcs huw hu hzw hodd
        go_wp2
        go_round
        case rel => exact ⟨m, u, by omega, by go_num, rfl, hui, HU⟩
        case measure => (simp [intOf]; try omega)
      · have h0 : z % 2 = 0 := by omega
        rw [h0] at hand
        have hcs : crcStep z = z / 2 := by unfold crcStep; rw [if_neg hodd]
        have HU : Hid (crcSteps m (z / 2) = crcSteps 4 x) := by
          show _ = _
          rw [← Hz.out, ← hcs]; rfl
        clear hcs hzw hodd h0
        go_wp2
        go_round
        case rel => exact ⟨m, z / 2, by omega, by go_num, by go_num, by omega, HU⟩
        case measure => (simp [intOf]; try omega)
    · have hm1 : m = 0 := by omega
      subst hm1
      go_wp2
      go_ret
      refine ⟨?_, rfl⟩
      rw [← Hz.out]
      rfl

/-- All but the blocks S, and what is new, is as it was. -/
structure Same (S : Nat → Prop) (w w' : World) : Prop where
  os : w'.os = w.os
  tape : w'.tape = w.tape
  output : w'.output = w.output
  size : w.heap.size ≤ w'.heap.size
  block : ∀ k, k < w.heap.size → ¬ S k → w'.heap[k]? = w.heap[k]?
theorem Same.refl (S : Nat → Prop) (w : World) : Same S w w := ⟨rfl, rfl, rfl, Nat.le_refl _, fun _ _ _ => rfl⟩
theorem Same.trans {S : Nat → Prop} {a b c : World} (h : Same S a b) (h' : Same S b c) : Same S a c :=
  ⟨h'.os.trans h.os, h'.tape.trans h.tape, h'.output.trans h.output, Nat.le_trans h.size h'.size, fun k hk hs => (h'.block k (Nat.lt_of_lt_of_le hk h.size) hs).trans (h.block k hk hs)⟩
theorem Same.alloc {S : Nat → Prop} {a b : World} (h : Same S a b) (o : Obj) : Same S a (b.alloc o) :=
  h.trans ⟨rfl, rfl, rfl, by simp, fun k hk _ => Below.heap_alloc b o k hk⟩
theorem Same.setCell {S : Nat → Prop} {a b : World} (h : Same S a b) (p : Addr) (hp : S p.block) (v : Value) : Same S a (b.setCell p v) :=
  h.trans ⟨rfl, rfl, rfl, by simp [World.setCell], fun k _ hs => heap_setCell_other b p k v (fun e => hs (e ▸ hp))⟩
theorem Same.drew {S : Nat → Prop} {a b : World} (h : Same S a b) : Same S a b.drew := ⟨h.os, h.tape, h.output, h.size, h.block⟩
theorem Same.below {S : Nat → Prop} {a b : World} (h : Same S a b) {B : Nat} (hB : ∀ k, S k → B ≤ k) (hs : B ≤ a.heap.size) : Below B a b :=
  ⟨h.os, h.tape, h.output, h.size, fun k hk => h.block k (Nat.lt_of_lt_of_le hk hs) (fun hS => by have := hB k hS; omega)⟩
theorem Same.cell {S : Nat → Prop} {a b : World} (h : Same S a b) {p : Addr} {v : Value} (hp : ¬ S p.block) (hc : a.cell? p = some v) : b.cell? p = some v := by
  have hlt : p.block < a.heap.size := block_lt_of_cell hc
  have hb := h.block p.block hlt hp
  unfold World.cell? at *
  rw [hb]
  exact hc

/-- A CRC's table in memory: the Once's word, its lock, its words. -/
def tabRow (d m : Int) (ws : List Nat) : List Value := [.int .u32 d, .int .i32 m, .int .u32 0] ++ ws.map fun x : Nat => Value.int .u32 (x : Int)
def TabAt (w : World) (b : Nat) (d m : Int) (ws : List Nat) : Prop := w.heap[b]? = some (.cells (tabRow d m ws).toArray 127 (0, 0))
theorem TabAt.lt {w : World} {b : Nat} {d m : Int} {ws : List Nat} (h : TabAt w b d m ws) : b < w.heap.size := (Array.getElem?_eq_some_iff.1 h).1
theorem TabAt.frozen {w : World} {b : Nat} {d m : Int} {ws : List Nat} (h : TabAt w b d m ws) (j : Nat) : w.frozen? ⟨b, j, none⟩ = false := frozen_of_row w b j _ _ h
theorem TabAt.c0 {w : World} {b : Nat} {d m : Int} {ws : List Nat} (h : TabAt w b d m ws) : w.cell? ⟨b, 0, none⟩ = some (.int .u32 d) := by
  rw [cell_of_row w b 0 _ _ _ h]; simp [tabRow]
theorem TabAt.c1 {w : World} {b : Nat} {d m : Int} {ws : List Nat} (h : TabAt w b d m ws) : w.cell? ⟨b, 1, none⟩ = some (.int .i32 m) := by
  rw [cell_of_row w b 1 _ _ _ h]; simp [tabRow]
theorem TabAt.word {w : World} {b : Nat} {d m : Int} {ws : List Nat} (h : TabAt w b d m ws) (j : Nat) (hj : j < ws.length) : w.cell? ⟨b, 3 + j, none⟩ = some (.int .u32 (ws[j] : Int)) := by
  rw [cell_of_row w b (3 + j) _ _ _ h, Nat.add_comm]; simp [tabRow, hj]
theorem TabAt.set0 {w : World} {b : Nat} {d m : Int} {ws : List Nat} (h : TabAt w b d m ws) (x : Int) : TabAt (w.setCell ⟨b, 0, none⟩ (.int .u32 x)) b x m ws := by
  unfold TabAt
  rw [heap_setCell_same w b 0 _ _ _ h]
  simp [tabRow]
theorem TabAt.set1 {w : World} {b : Nat} {d m : Int} {ws : List Nat} (h : TabAt w b d m ws) (x : Int) : TabAt (w.setCell ⟨b, 1, none⟩ (.int .i32 x)) b d x ws := by
  unfold TabAt
  rw [heap_setCell_same w b 1 _ _ _ h]
  simp [tabRow]
theorem TabAt.setW {w : World} {b : Nat} {d m : Int} {ws : List Nat} (h : TabAt w b d m ws) (j x : Nat) : TabAt (w.setCell ⟨b, 3 + j, none⟩ (.int .u32 (x : Int))) b d m (ws.set j x) := by
  unfold TabAt
  rw [heap_setCell_same w b (3 + j) _ _ _ h, Nat.add_comm]
  simp [tabRow, List.map_set]
theorem TabAt.on {S : Nat → Prop} {w w' : World} {b : Nat} {d m : Int} {ws : List Nat} (h : TabAt w b d m ws) (hs : Same S w w') (hb : ¬ S b) : TabAt w' b d m ws := (hs.block b h.lt hb).trans h
theorem TabAt.alloc {w : World} {b : Nat} {d m : Int} {ws : List Nat} (h : TabAt w b d m ws) (o : Obj) : TabAt (w.alloc o) b d m ws := (Below.heap_alloc w o b h.lt).trans h

/-- The words, as far as they are made. -/
def tabTo (ws : List Nat) (i : Nat) : List Nat := tabN.take i ++ ws.drop i
theorem tabN_length : tabN.length = 16 := rfl
theorem tabTo_length (ws : List Nat) (i : Nat) (hw : ws.length = 16) (hi : i ≤ 16) : (tabTo ws i).length = 16 := by
  simp [tabTo, tabN_length, hw]; omega
theorem tabTo_set (ws : List Nat) (i : Nat) (hw : ws.length = 16) (hi : i < 16) : (tabTo ws i).set i (crcSteps 4 i) = tabTo ws (i + 1) := by
  have h := addTo_set ws tabN i (by rw [hw, tabN_length]) (by omega)
  have e : tabN[i]'(by rw [tabN_length]; exact hi) = crcSteps 4 i := by simp [tabN]
  rw [e] at h
  exact h
theorem tabTo_all (ws : List Nat) (hw : ws.length = 16) : tabTo ws 16 = tabN := by
  unfold tabTo
  rw [List.take_of_length_le (by rw [tabN_length]; omega), List.drop_eq_nil_of_le (by omega), List.append_nil]

set_option maxRecDepth 100000 in
set_option maxHeartbeats 1000000 in
theorem word1_any (b : Nat) (pl : Addr) (d m : Int) (ws : List Nat) (w : World) (hp : w.cell? pl = some (.pointer (some ⟨b, 0, none⟩))) (hpb : pl.block ≠ b) (hw : ws.length = 16) (ht : TabAt w b d m ws) :
    Calls Tryz.prog 294 #[.pointer (some pl)] w fun e w' => e = .returned (.tuple #[]) ∧ TabAt w' b d m tabN ∧ Same (· = b) w w' := by
  have HW : Hid (ws.length = 16) := hw
  have HT : Hid (TabAt w b d m ws) := ht
  clear hw ht
  go_enter Tryz.func294, Tryz.ntmps294
  go_wp2
  have HP : Hid (w.cell? pl = some (.pointer (some ⟨b, 0, none⟩))) := hp
  clear hp
  go_loopw [2] (fun iv_ wr => ∃ i : Nat, i ≤ 16 ∧ iv_ = .int .u32 (i : Int) ∧ Hid (TabAt wr b d m (tabTo ws i)) ∧ Hid (Same (· = b) w wr)) (fun iv_ _ => 16 - (intOf iv_).toNat)
  case atStart => exact ⟨0, by omega, rfl, HT, Same.refl _ _⟩
  case round =>
    clear HT
    obtain ⟨i, hi, rfl, HT, HS⟩ := hrel
    by_cases hlt : i < 16
    · have hpr : wr.cell? pl = some (.pointer (some ⟨b, 0, none⟩)) := HS.out.cell hpb HP.out
      obtain ⟨z, cz⟩ : ∃ z : Int, wr.cell? ⟨b, 3 + i, none⟩ = some (.int .u32 z) := ⟨_, HT.out.word i (by rw [tabTo_length ws i HW.out (by omega)]; exact hlt)⟩
      have fz := HT.out.frozen (3 + i)
      go_wp2
      go_region_with (go_at_call 295; go_must (refine (four_shifts i _ (by omega)).mono ?_; rintro e w' ⟨rfl, rfl⟩))
      all_goals
        go_wp2
        go_roundw
        case rel =>
          refine ⟨i + 1, by omega, by go_num, ?_, ?_⟩
          · have h1 := HT.out.setW i (crcSteps 4 i)
            rw [tabTo_set ws i HW.out hlt] at h1
            exact h1
          · exact (HS.out.setCell ⟨b, 3 + i, none⟩ rfl _).drew
        case measure => (simp [intOf]; try omega)
    · have hi16 : i = 16 := by omega
      obtain ⟨i1, hi1⟩ : ∃ i1, i1 = i := ⟨_, rfl⟩
      subst hi1
      have HT1 : Hid (TabAt wr b d m tabN) := by
        have h1 := HT.out
        rw [hi16, tabTo_all ws HW.out] at h1
        exact h1
      clear HT hi16
      go_wp2
      go_end0
      exact ⟨rfl, HT1.out, HS.out⟩
end Go.Proofs.YtapijhhmjjplmaaGreatDoor
