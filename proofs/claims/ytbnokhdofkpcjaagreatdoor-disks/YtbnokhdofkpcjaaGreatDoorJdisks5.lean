/- OWN TEXT: joined of: Crc Once OnceDo PCrc RefCrc RefTurn. -/
import Derived.Deep.RegionWith
import Derived.Test.YtbnokhdofkpcjaaGreatDoorProg
import Derived.Tactics
import Derived.Tactics2
import Derived.Defers
import Derived.Laws.Pointers
import Derived.Laws.LoneSync
import Derived.RegionTactic
import Derived.RegionCalls
import Derived.Laws.NewBlocks
import Derived.Test.YtbnokhdofkpcjaaGreatDoorJdisks4
namespace Go.Proofs.YtbnokhdofkpcjaaGreatDoor
open Go.RowKit

theorem u32_and_one (z : Nat) (h : (z : Int) ≤ 4294967295) : bits .and .u32 (z : Int) 1 = ((z % 2 : Nat) : Int) := by
  have h1 := u32_and_nat z 1 (by omega) (by omega)
  rw [Nat.and_one_is_mod] at h1
  exact h1

set_option maxRecDepth 100000 in
set_option maxHeartbeats 1000000 in
theorem four_shifts (x : Nat) (w : World) (hx : (x : Int) ≤ 4294967295) :
    Calls Tryz.prog 294 #[.int .u32 (x : Int)] w fun e w' => e = .returned (.int .u32 (crcSteps 4 x : Int)) ∧ w = w' := by
  go_enter Tryz.func294, Tryz.ntmps294
  go_wp2
  go_loop [0, 4] (fun r j => ∃ m z : Nat, m ≤ 4 ∧ j = .int .i64 ((4 : Int) - m) ∧ r = .int .u32 (z : Int) ∧ (z : Int) ≤ 4294967295 ∧ Hid (crcSteps m z = crcSteps 4 x)) (fun _ j => 4 - (intOf j).toNat)
  case atStart => exact ⟨4, x, by omega, rfl, rfl, hx, rfl⟩
  case round =>
    obtain ⟨m, z, hm, rfl, rfl, hz, Hz⟩ := hrel
    by_cases hm0 : 0 < m
    · obtain ⟨m, rfl⟩ : ∃ m', m = m' + 1 := ⟨m - 1, by omega⟩
      have hzw : z < w32 := by unfold w32; omega
      have hand := u32_and_one z hz
      by_cases hodd : z % 2 = 1
      · rw [hodd] at hand
        obtain ⟨u, hu⟩ : ∃ u, u = (z / 2) ^^^ 3988292384 := ⟨_, rfl⟩
        have hxor : bits .xor .u32 ((z : Int) / 2) 3988292384 = (u : Int) := by
          have h := u32_xor_nat (z / 2) 3988292384 (by omega) (by omega)
          rw [hu, ← h]
          rfl
        have hcs : crcStep z = u := by unfold crcStep; rw [if_pos hodd, hu]
        have huw : u < w32 := by rw [← hcs]; exact crcStep_lt z hzw
        have hui : (u : Int) ≤ 4294967295 := by unfold w32 at huw; omega
        have HU : Hid (crcSteps m u = crcSteps 4 x) := by
          show _ = _
          rw [← Hz.out, ← hcs]; rfl
        clear hcs huw hu hzw hodd
        go_wp2
        go_round
        case rel => exact ⟨m, u, by omega, by go_num, rfl, hui, HU⟩
        case measure => (simp [intOf]; try omega)
      · have h0 : z % 2 = 0 := by omega
        rw [h0] at hand
        have hcs : crcStep z = z / 2 := by unfold crcStep; rw [if_neg hodd]
        have HU : Hid (crcSteps m (z / 2) = crcSteps 4 x) := by
          show _ = _
          rw [← Hz.out, ← hcs]; rfl
        clear hcs hzw hodd h0
        go_wp2
        go_round
        case rel => exact ⟨m, z / 2, by omega, by go_num, by go_num, by omega, HU⟩
        case measure => (simp [intOf]; try omega)
    · have hm1 : m = 0 := by omega
      subst hm1
      go_wp2
      go_ret
      refine ⟨?_, rfl⟩
      rw [← Hz.out]
      rfl

/-- All but the blocks S, and what is new, is as it was. -/
structure Same (S : Nat → Prop) (w w' : World) : Prop where
  os : w'.os = w.os
  tape : w'.tape = w.tape
  output : w'.output = w.output
  size : w.heap.size ≤ w'.heap.size
  block : ∀ k, k < w.heap.size → ¬ S k → w'.heap[k]? = w.heap[k]?
theorem Same.refl (S : Nat → Prop) (w : World) : Same S w w := ⟨rfl, rfl, rfl, Nat.le_refl _, fun _ _ _ => rfl⟩
theorem Same.trans {S : Nat → Prop} {a b c : World} (h : Same S a b) (h' : Same S b c) : Same S a c :=
  ⟨h'.os.trans h.os, h'.tape.trans h.tape, h'.output.trans h.output, Nat.le_trans h.size h'.size, fun k hk hs => (h'.block k (Nat.lt_of_lt_of_le hk h.size) hs).trans (h.block k hk hs)⟩
theorem Same.alloc {S : Nat → Prop} {a b : World} (h : Same S a b) (o : Obj) : Same S a (b.alloc o) :=
  h.trans ⟨rfl, rfl, rfl, by simp, fun k hk _ => Below.heap_alloc b o k hk⟩
theorem Same.setCell {S : Nat → Prop} {a b : World} (h : Same S a b) (p : Addr) (hp : S p.block) (v : Value) : Same S a (b.setCell p v) :=
  h.trans ⟨rfl, rfl, rfl, by simp [World.setCell], fun k _ hs => heap_setCell_other b p k v (fun e => hs (e ▸ hp))⟩
theorem Same.drew {S : Nat → Prop} {a b : World} (h : Same S a b) : Same S a b.drew := ⟨h.os, h.tape, h.output, h.size, h.block⟩
theorem Same.below {S : Nat → Prop} {a b : World} (h : Same S a b) {B : Nat} (hB : ∀ k, S k → B ≤ k) (hs : B ≤ a.heap.size) : Below B a b :=
  ⟨h.os, h.tape, h.output, h.size, fun k hk => h.block k (Nat.lt_of_lt_of_le hk hs) (fun hS => by have := hB k hS; omega)⟩
theorem Same.cell {S : Nat → Prop} {a b : World} (h : Same S a b) {p : Addr} {v : Value} (hp : ¬ S p.block) (hc : a.cell? p = some v) : b.cell? p = some v := by
  have hlt : p.block < a.heap.size := block_lt_of_cell hc
  have hb := h.block p.block hlt hp
  unfold World.cell? at *
  rw [hb]
  exact hc

/-- A CRC's table in memory: the Once's word, its lock, its words. -/
def tabRow (d m : Int) (ws : List Nat) : List Value := [.int .u32 d, .int .i32 m, .int .u32 0] ++ ws.map fun x : Nat => Value.int .u32 (x : Int)
def TabAt (w : World) (b : Nat) (d m : Int) (ws : List Nat) : Prop := w.heap[b]? = some (.cells (tabRow d m ws).toArray 127 (0, 0))
theorem TabAt.lt {w : World} {b : Nat} {d m : Int} {ws : List Nat} (h : TabAt w b d m ws) : b < w.heap.size := (Array.getElem?_eq_some_iff.1 h).1
theorem TabAt.frozen {w : World} {b : Nat} {d m : Int} {ws : List Nat} (h : TabAt w b d m ws) (j : Nat) : w.frozen? ⟨b, j, none⟩ = false := frozen_of_row w b j _ _ h
theorem TabAt.c0 {w : World} {b : Nat} {d m : Int} {ws : List Nat} (h : TabAt w b d m ws) : w.cell? ⟨b, 0, none⟩ = some (.int .u32 d) := by
  rw [cell_of_row w b 0 _ _ _ h]; simp [tabRow]
theorem TabAt.c1 {w : World} {b : Nat} {d m : Int} {ws : List Nat} (h : TabAt w b d m ws) : w.cell? ⟨b, 1, none⟩ = some (.int .i32 m) := by
  rw [cell_of_row w b 1 _ _ _ h]; simp [tabRow]
theorem TabAt.word {w : World} {b : Nat} {d m : Int} {ws : List Nat} (h : TabAt w b d m ws) (j : Nat) (hj : j < ws.length) : w.cell? ⟨b, 3 + j, none⟩ = some (.int .u32 (ws[j] : Int)) := by
  rw [cell_of_row w b (3 + j) _ _ _ h, Nat.add_comm]; simp [tabRow, hj]
theorem TabAt.set0 {w : World} {b : Nat} {d m : Int} {ws : List Nat} (h : TabAt w b d m ws) (x : Int) : TabAt (w.setCell ⟨b, 0, none⟩ (.int .u32 x)) b x m ws := by
  unfold TabAt
  rw [heap_setCell_same w b 0 _ _ _ h]
  simp [tabRow]
theorem TabAt.set1 {w : World} {b : Nat} {d m : Int} {ws : List Nat} (h : TabAt w b d m ws) (x : Int) : TabAt (w.setCell ⟨b, 1, none⟩ (.int .i32 x)) b d x ws := by
  unfold TabAt
  rw [heap_setCell_same w b 1 _ _ _ h]
  simp [tabRow]
theorem TabAt.setW {w : World} {b : Nat} {d m : Int} {ws : List Nat} (h : TabAt w b d m ws) (j x : Nat) : TabAt (w.setCell ⟨b, 3 + j, none⟩ (.int .u32 (x : Int))) b d m (ws.set j x) := by
  unfold TabAt
  rw [heap_setCell_same w b (3 + j) _ _ _ h, Nat.add_comm]
  simp [tabRow, List.map_set]
theorem TabAt.on {S : Nat → Prop} {w w' : World} {b : Nat} {d m : Int} {ws : List Nat} (h : TabAt w b d m ws) (hs : Same S w w') (hb : ¬ S b) : TabAt w' b d m ws := (hs.block b h.lt hb).trans h
theorem TabAt.alloc {w : World} {b : Nat} {d m : Int} {ws : List Nat} (h : TabAt w b d m ws) (o : Obj) : TabAt (w.alloc o) b d m ws := (Below.heap_alloc w o b h.lt).trans h

/-- The words, as far as they are made. -/
def tabTo (ws : List Nat) (i : Nat) : List Nat := tabN.take i ++ ws.drop i
theorem tabN_length : tabN.length = 16 := rfl
theorem tabTo_length (ws : List Nat) (i : Nat) (hw : ws.length = 16) (hi : i ≤ 16) : (tabTo ws i).length = 16 := by
  simp [tabTo, tabN_length, hw]; omega
theorem tabTo_set (ws : List Nat) (i : Nat) (hw : ws.length = 16) (hi : i < 16) : (tabTo ws i).set i (crcSteps 4 i) = tabTo ws (i + 1) := by
  have h := addTo_set ws tabN i (by rw [hw, tabN_length]) (by omega)
  have e : tabN[i]'(by rw [tabN_length]; exact hi) = crcSteps 4 i := by simp [tabN]
  rw [e] at h
  exact h
theorem tabTo_all (ws : List Nat) (hw : ws.length = 16) : tabTo ws 16 = tabN := by
  unfold tabTo
  rw [List.take_of_length_le (by rw [tabN_length]; omega), List.drop_eq_nil_of_le (by omega), List.append_nil]

set_option maxRecDepth 100000 in
set_option maxHeartbeats 1000000 in
theorem word1_any (b : Nat) (pl : Addr) (d m : Int) (ws : List Nat) (w : World) (hp : w.cell? pl = some (.pointer (some ⟨b, 0, none⟩))) (hpb : pl.block ≠ b) (hw : ws.length = 16) (ht : TabAt w b d m ws) :
    Calls Tryz.prog 293 #[.pointer (some pl)] w fun e w' => e = .returned (.tuple #[]) ∧ TabAt w' b d m tabN ∧ Same (· = b) w w' := by
  have HW : Hid (ws.length = 16) := hw
  have HT : Hid (TabAt w b d m ws) := ht
  clear hw ht
  go_enter Tryz.func293, Tryz.ntmps293
  go_wp2
  have HP : Hid (w.cell? pl = some (.pointer (some ⟨b, 0, none⟩))) := hp
  clear hp
  go_loopw [2] (fun iv_ wr => ∃ i : Nat, i ≤ 16 ∧ iv_ = .int .u32 (i : Int) ∧ Hid (TabAt wr b d m (tabTo ws i)) ∧ Hid (Same (· = b) w wr)) (fun iv_ _ => 16 - (intOf iv_).toNat)
  case atStart => exact ⟨0, by omega, rfl, HT, Same.refl _ _⟩
  case round =>
    clear HT
    obtain ⟨i, hi, rfl, HT, HS⟩ := hrel
    by_cases hlt : i < 16
    · have hpr : wr.cell? pl = some (.pointer (some ⟨b, 0, none⟩)) := HS.out.cell hpb HP.out
      obtain ⟨z, cz⟩ : ∃ z : Int, wr.cell? ⟨b, 3 + i, none⟩ = some (.int .u32 z) := ⟨_, HT.out.word i (by rw [tabTo_length ws i HW.out (by omega)]; exact hlt)⟩
      have fz := HT.out.frozen (3 + i)
      go_wp2
      go_region_with (go_at_call 294; go_must (refine (four_shifts i _ (by omega)).mono ?_; rintro e w' ⟨rfl, rfl⟩))
      all_goals
        go_wp2
        go_roundw
        case rel =>
          refine ⟨i + 1, by omega, by go_num, ?_, ?_⟩
          · have h1 := HT.out.setW i (crcSteps 4 i)
            rw [tabTo_set ws i HW.out hlt] at h1
            exact h1
          · exact (HS.out.setCell ⟨b, 3 + i, none⟩ rfl _).drew
        case measure => (simp [intOf]; try omega)
    · have hi16 : i = 16 := by omega
      obtain ⟨i1, hi1⟩ : ∃ i1, i1 = i := ⟨_, rfl⟩
      subst hi1
      have HT1 : Hid (TabAt wr b d m tabN) := by
        have h1 := HT.out
        rw [hi16, tabTo_all ws HW.out] at h1
        exact h1
      clear HT hi16
      go_wp2
      go_end0
      exact ⟨rfl, HT1.out, HS.out⟩
end Go.Proofs.YtbnokhdofkpcjaaGreatDoor
namespace Go.Proofs.YtbnokhdofkpcjaaGreatDoor
open Go.RowKit

theorem race_disable (w : World) : (callFunc 171 #[]).run Tryz.prog w = .ok (.value (.tuple #[])) w := run_call_mark0 Tryz.func171 (by kernel_rfl) (by kernel_rfl) (by kernel_rfl) .disable (by kernel_rfl) w
theorem race_enable (w : World) : (callFunc 173 #[]).run Tryz.prog w = .ok (.value (.tuple #[])) w := run_call_mark0 Tryz.func173 (by kernel_rfl) (by kernel_rfl) (by kernel_rfl) .enable (by kernel_rfl) w
theorem race_acquire (a : Addr) (w : World) : (callFunc 174 #[.pointer (some a)]).run Tryz.prog w = .ok (.value (.tuple #[])) w := run_call_marked Tryz.func174 (by kernel_rfl) (by kernel_rfl) (by kernel_rfl) .acquire (by kernel_rfl) a w
theorem race_release (a : Addr) (w : World) : (callFunc 176 #[.pointer (some a)]).run Tryz.prog w = .ok (.value (.tuple #[])) w := run_call_marked Tryz.func176 (by kernel_rfl) (by kernel_rfl) (by kernel_rfl) .releaseMerge (by kernel_rfl) a w

/-- (*atomic.Bool).Store(true), deferred: the cell holds 1. -/
theorem store_deferred (a : Addr) (x : Value) (u : FrameMode) (w : World) (hc : w.cell? a = some x) (hz : w.frozen? a = false) :
    CallsD Tryz.prog 322 #[.pointer (some a), .bool true] u w fun e u' w' => u' = u ∧ (e = .returned (.tuple #[]) ∧ w' = w.drew.setCell a (.int .u32 1)) := by
  have hc' : w.drew.cell? a = some x := by go_simp
  have hz' : w.drew.frozen? a = false := by go_simp
  have hst := run_call_store (P := Tryz.prog) Tryz.func324 (by kernel_rfl) (by kernel_rfl) (by kernel_rfl) (by kernel_rfl) (k := .u32) (y := 1) hc' hz'
  go_enter_d Tryz.func322, Tryz.ntmps322
  go_wp2
  go_region_calls
  all_goals (go_end0; exact ⟨rfl, rfl⟩)

set_option maxRecDepth 100000 in
set_option maxHeartbeats 1000000 in
/-- (*sync.Mutex).Unlock, deferred, the lock held and nobody waiting. -/
theorem unlock_deferred (a : Addr) (u : FrameMode) (w : World) (hc : w.cell? a = some (.int .i32 1)) (hz : w.frozen? a = false) :
    CallsD Tryz.prog 58 #[.pointer (some a)] u w fun e u' w' => u' = u ∧ (e = .returned (.tuple #[]) ∧ w' = w.setCell a (.int .i32 0)) := by
  have hd := race_disable
  have he := race_enable
  have hr := race_release
  have hadd := run_call_add (P := Tryz.prog) Tryz.func177 (by kernel_rfl) (by kernel_rfl) (by kernel_rfl) .i32 (by kernel_rfl) (y := -1) (s := 0) hc hz (by simp [go_sem]; rfl)
  have hcv := run_convert_to_unsafe (P := Tryz.prog) (src := 295) (dst := 244) Tryz.underlying295 Tryz.underlying244 (by kernel_rfl) hc
  go_enter_d Tryz.func58, Tryz.ntmps58
  go_wp2
  go_end0
  go_wp2
  go_end0
  exact ⟨rfl, rfl⟩

set_option maxRecDepth 100000 in
set_option maxHeartbeats 1000000 in
/-- (*sync.Mutex).Lock, the lock free. -/
theorem lock_free (a : Addr) (w : World) (hc : w.cell? a = some (.int .i32 0)) (hz : w.frozen? a = false) :
    Calls Tryz.prog 57 #[.pointer (some a)] w fun e w' => e = .returned (.tuple #[]) ∧ w' = w.setCell a (.int .i32 1) := by
  have hd := race_disable
  have he := race_enable
  have ha := race_acquire
  have hcas := run_call_cas_hit (P := Tryz.prog) Tryz.func172 (by kernel_rfl) (by kernel_rfl) (by kernel_rfl) .i32 (by kernel_rfl) (y := 1) hc hz
  have hc' : (w.setCell a (.int .i32 1)).cell? a = some (.int .i32 1) := World.cell?_setCell_same w a _ hc
  have hcv := run_convert_to_unsafe (P := Tryz.prog) (src := 295) (dst := 244) Tryz.underlying295 Tryz.underlying244 (by kernel_rfl) hc'
  go_enter Tryz.func57, Tryz.ntmps57
  go_wp2
  first | go_end0 | (simp only [Exit.inBlock, Exit.then]; refine bodyPost_ret (results_none rfl _ _ _) rfl ?_) | refine bodyPost_ret (results_none rfl _ _ _) rfl ?_
  go_wp2
  go_end0
  exact ⟨rfl, rfl⟩
end Go.Proofs.YtbnokhdofkpcjaaGreatDoor
namespace Go.Proofs.YtbnokhdofkpcjaaGreatDoor
open Go.RowKit

set_option maxRecDepth 100000 in
set_option maxHeartbeats 1600000 in
theorem slow_any (b : Nat) (pl : Addr) (ws : List Nat) (w : World) (hp : w.cell? pl = some (.pointer (some ⟨b, 0, none⟩))) (hpb : pl.block ≠ b) (hw : ws.length = 16) (ht : TabAt w b 0 0 ws) :
    Calls Tryz.prog 312 #[.pointer (some ⟨b, 0, none⟩), .func (.func 293) #[] #[.pointer (some pl)]] w fun e w' => e = .returned (.tuple #[]) ∧ TabAt w' b 1 0 tabN ∧ Same (· = b) w w' := by
  have ht1 := ht.set1 1
  have hs1 : Same (· = b) w (w.setCell ⟨b, 1, none⟩ (.int .i32 1)) := Same.setCell (S := (· = b)) (Same.refl _ w) ⟨b, 1, none⟩ rfl _
  have hp1 := hs1.cell hpb hp
  have HT1 : Hid (TabAt (w.setCell ⟨b, 1, none⟩ (.int .i32 1)) b 0 1 ws) := ht1
  have HS1 : Hid (Same (· = b) w (w.setCell ⟨b, 1, none⟩ (.int .i32 1))) := hs1
  have HP1 : Hid ((w.setCell ⟨b, 1, none⟩ (.int .i32 1)).cell? pl = some (.pointer (some ⟨b, 0, none⟩))) := hp1
  have c1 := ht.c1
  have f1 := ht.frozen 1
  have hl := run_call_load (P := Tryz.prog) Tryz.func321 (by kernel_rfl) (by kernel_rfl) (by kernel_rfl) .u32 (by kernel_rfl) (w := w.setCell ⟨b, 1, none⟩ (.int .i32 1)) (a := ⟨b, 0, none⟩) (x := 0) ht1.c0
  have hnot : ∀ (x : Bool) (w : World), (Op.unary .not (.bool x)).run Tryz.prog w = .ok (.bool (!x)) w := fun _ _ => rfl
  clear ht1 hs1 hp1 ht hp
  go_enter_defers Tryz.func312, Tryz.ntmps312
  go_wp2_with (first | (go_at_call 57; refine (lock_free ⟨b, 1, none⟩ _ c1 f1).mono ?_; rintro e w' ⟨rfl, rfl⟩) | (go_at_call 293; refine (word1_any b pl 0 1 ws _ HP1.out hpb hw HT1.out).mono ?_; rintro e w2 ⟨rfl, h2, s2⟩) | (go_at_call 311; go_in))
  have HS2 : Hid (Same (· = b) w w2) := HS1.out.trans s2
  refine leaves_cons (f := 322) (args := #[.pointer (some ⟨b, 0, none⟩), .bool true]) (by simp) (by simp [go_sem]) ?_
  refine (store_deferred ⟨b, 0, none⟩ (.int .u32 0) .returning _ h2.c0 (h2.frozen 0)).mono ?_
  rintro e u' w3 ⟨rfl, rfl, hw3⟩
  have h3 : TabAt w3 b 1 1 tabN := by rw [hw3]; exact TabAt.set0 (w := w2.drew) h2 1
  have s3 : Same (· = b) w w3 := by rw [hw3]; exact Same.setCell (S := (· = b)) HS2.out.drew ⟨b, 0, none⟩ rfl _
  refine leaves_cons (f := 58) (args := #[.pointer (some ⟨b, 1, none⟩)]) (by simp [settle]) (by simp [go_sem]) ?_
  refine (unlock_deferred ⟨b, 1, none⟩ _ _ h3.c1 (h3.frozen 1)).mono ?_
  rintro e u' w4 ⟨rfl, rfl, hw4⟩
  have h4 : TabAt w4 b 1 0 tabN := by rw [hw4]; exact h3.set1 0
  have s4 : Same (· = b) w w4 := by rw [hw4]; exact Same.setCell (S := (· = b)) s3 ⟨b, 1, none⟩ rfl _
  simp [Leaves, settle, results, Tryz.results312]
  exact ⟨h4, s4⟩

set_option maxRecDepth 100000 in
set_option maxHeartbeats 1600000 in
theorem do_first (b : Nat) (pl : Addr) (ws : List Nat) (w : World) (hp : w.cell? pl = some (.pointer (some ⟨b, 0, none⟩))) (hpb : pl.block ≠ b) (hw : ws.length = 16) (ht : TabAt w b 0 0 ws) :
    Calls Tryz.prog 292 #[.pointer (some ⟨b, 0, none⟩), .func (.func 293) #[] #[.pointer (some pl)]] w fun e w' => e = .returned (.tuple #[]) ∧ TabAt w' b 1 0 tabN ∧ Same (· = b) w w' := by
  have hl := run_call_load (P := Tryz.prog) Tryz.func321 (by kernel_rfl) (by kernel_rfl) (by kernel_rfl) .u32 (by kernel_rfl) (w := w) (a := ⟨b, 0, none⟩) (x := 0) ht.c0
  have hnot : ∀ (x : Bool) (w : World), (Op.unary .not (.bool x)).run Tryz.prog w = .ok (.bool (!x)) w := fun _ _ => rfl
  have HP : Hid (w.cell? pl = some (.pointer (some ⟨b, 0, none⟩))) := hp
  have HT : Hid (TabAt w b 0 0 ws) := ht
  clear hp ht
  go_enter Tryz.func292, Tryz.ntmps292
  go_wp2_with (first | (go_at_call 312; refine (slow_any b pl ws _ HP.out hpb hw HT.out).mono ?_; rintro e w' ⟨rfl, h2, s2⟩) | (go_at_call 311; go_in))
  go_end0
  exact ⟨rfl, h2, s2⟩

set_option maxRecDepth 100000 in
theorem do_done (b : Nat) (m : Int) (fv : Value) (ws : List Nat) (w : World) (ht : TabAt w b 1 m ws) :
    Calls Tryz.prog 292 #[.pointer (some ⟨b, 0, none⟩), fv] w fun e w' => e = .returned (.tuple #[]) ∧ w = w' := by
  have hl := run_call_load (P := Tryz.prog) Tryz.func321 (by kernel_rfl) (by kernel_rfl) (by kernel_rfl) .u32 (by kernel_rfl) (w := w) (a := ⟨b, 0, none⟩) (x := 1) ht.c0
  have hnot : ∀ (x : Bool) (w : World), (Op.unary .not (.bool x)).run Tryz.prog w = .ok (.bool (!x)) w := fun _ _ => rfl
  clear ht
  go_enter Tryz.func292, Tryz.ntmps292
  go_wp2
  go_end0
  exact ⟨rfl, rfl⟩

def zeros16 : List Nat := List.replicate 16 0
/-- A table, fresh or made. -/
def TabOk (w : World) (b : Nat) : Prop := TabAt w b 0 0 zeros16 ∨ TabAt w b 1 0 tabN
theorem TabOk.lt {w : World} {b : Nat} (h : TabOk w b) : b < w.heap.size := h.elim TabAt.lt TabAt.lt

set_option maxRecDepth 100000 in
set_option maxHeartbeats 1600000 in
theorem word_any (b x : Nat) (w : World) (ht : TabOk w b) (hx : x < 16) :
    Calls Tryz.prog 279 #[.pointer (some ⟨b, 0, none⟩), .int .u32 (x : Int)] w fun e w' => e = .returned (.int .u32 (tabN.getD x 0 : Int)) ∧ TabOk w' b ∧ Same (· = b) w w' := by
  have hmf : ∀ (fn : Fn) (first cap : Array Value) (w : World), (Instr.makeFunc fn first cap).run Tryz.prog w = .ok (.func fn first cap) w := fun _ _ _ _ => rfl
  have hlt := ht.lt
  obtain ⟨w1, hw1⟩ : ∃ w1, w1 = w.alloc (.cells #[.pointer (some ⟨b, 0, none⟩)] 174) := ⟨_, rfl⟩
  have p1 : w1.cell? ⟨w.heap.size, 0, none⟩ = some (.pointer (some ⟨b, 0, none⟩)) := by rw [hw1]; simp
  have s1 : Same (· = b) w w1 := by rw [hw1]; exact (Same.refl _ _).alloc _
  have HX : Hid (∀ w' : World, TabAt w' b 1 0 tabN → w'.cell? ⟨b, 3 + x, none⟩ = some (.int .u32 (tabN.getD x 0 : Int))) := fun w' h => by
    rw [h.word x (by rw [tabN_length]; exact hx), get_getD]
  obtain ⟨y, hy⟩ : ∃ y, y = tabN.getD x 0 := ⟨_, rfl⟩
  rw [← hy] at HX ⊢
  clear hy
  rcases ht with ht | ht
  · have HT : Hid (TabAt w1 b 0 0 zeros16) := by rw [hw1]; exact ht.alloc _
    have HP : Hid (w1.cell? ⟨w.heap.size, 0, none⟩ = some (.pointer (some ⟨b, 0, none⟩))) := p1
    have HS : Hid (Same (· = b) w w1) := s1
    have HD : Hid (Calls Tryz.prog 292 #[.pointer (some ⟨b, 0, none⟩), .func (.func 293) #[] #[.pointer (some ⟨w.heap.size, 0, none⟩)]] w1 fun e w' => e = .returned (.tuple #[]) ∧ w'.cell? ⟨w.heap.size, 0, none⟩ = some (.pointer (some ⟨b, 0, none⟩)) ∧ w'.cell? ⟨b, 3 + x, none⟩ = some (.int .u32 (y : Int)) ∧ Hid (TabAt w' b 1 0 tabN) ∧ Hid (Same (· = b) w w')) := by
      refine (do_first b ⟨w.heap.size, 0, none⟩ zeros16 w1 HP.out (by simp; omega) rfl HT.out).mono ?_
      rintro e w2 ⟨rfl, h2, s2⟩
      exact ⟨rfl, s2.cell (by simp; omega) HP.out, HX.out _ h2, h2, HS.out.trans s2⟩
    rw [hw1] at HD
    clear ht p1 s1 HT HP HS hw1 HX w1
    go_enter Tryz.func279, Tryz.ntmps279
    go_wp2_with (go_at_call 292; refine HD.out.mono ?_; rintro e w2 ⟨rfl, p2, c2, H2, S2⟩)
    go_ret
    exact ⟨rfl, .inr H2.out, S2.out⟩
  · have HT : Hid (TabAt w1 b 1 0 tabN) := by rw [hw1]; exact ht.alloc _
    have HS : Hid (Same (· = b) w w1) := s1
    have HD : Hid (∀ fv, Calls Tryz.prog 292 #[.pointer (some ⟨b, 0, none⟩), fv] w1 fun e w' => e = .returned (.tuple #[]) ∧ w'.cell? ⟨w.heap.size, 0, none⟩ = some (.pointer (some ⟨b, 0, none⟩)) ∧ w'.cell? ⟨b, 3 + x, none⟩ = some (.int .u32 (y : Int)) ∧ Hid (TabAt w' b 1 0 tabN) ∧ Hid (Same (· = b) w w')) := fun fv => by
      refine (do_done b 0 fv tabN w1 HT.out).mono ?_
      rintro e w2 ⟨rfl, rfl⟩
      exact ⟨rfl, p1, HX.out _ HT.out, HT, HS⟩
    rw [hw1] at HD
    clear ht p1 s1 HT HS hw1 HX w1
    go_enter Tryz.func279, Tryz.ntmps279
    go_wp2_with (go_at_call 292; refine (HD.out _).mono ?_; rintro e w2 ⟨rfl, p2, c2, H2, S2⟩)
    go_ret
    exact ⟨rfl, .inr H2.out, S2.out⟩
end Go.Proofs.YtbnokhdofkpcjaaGreatDoor
namespace Go.Proofs.YtbnokhdofkpcjaaGreatDoor
open Go.RowKit

theorem u32_and_15 (z : Nat) (h : (z : Int) ≤ 4294967295) : bits .and .u32 (z : Int) 15 = ((z % 16 : Nat) : Int) := by
  have h1 := u32_and_nat z 15 (by omega) (by omega)
  have h2 : z &&& 15 = z % 16 := Nat.and_two_pow_sub_one_eq_mod z 4
  rw [h2] at h1
  exact h1
theorem tabN_lt (i : Nat) : tabN.getD i 0 < w32 := getD_lt (by unfold w32; decide +kernel) (by decide) i

set_option maxRecDepth 100000 in
set_option maxHeartbeats 1600000 in
theorem tabCrc (b : Nat) (s : ByteArray) (w : World) (ht : TabOk w b) (hs : s.size ≤ 140737488351232) :
    Calls Tryz.prog 239 #[.pointer (some ⟨b, 0, none⟩), .string s] w fun e w' => e = .returned (.int .u32 (crcN s.data.toList : Int)) ∧ Same (· = b) w w' := by
  have hsi : (s.size : Int) ≤ 140737488351232 := by omega
  have HT : Hid (TabOk w b) := ht
  clear ht
  go_enter Tryz.func239, Tryz.ntmps239
  go_wp2
  go_loopw [5, 9] (fun r i wr => ∃ k q : Nat, k ≤ s.size ∧ i = .int .i64 k ∧ r = .int .u32 (q : Int) ∧ (q : Int) ≤ 4294967295 ∧ Hid (q = crcTo (s.data.toList.take k) 4294967295) ∧ Hid (TabOk wr b) ∧ Hid (Same (· = b) w wr)) (fun _ i _ => s.size - (intOf i).toNat)
  case atStart => exact ⟨0, 4294967295, Nat.zero_le _, rfl, rfl, by omega, rfl, HT, Same.refl _ _⟩
  case round =>
    clear HT
    obtain ⟨k, q, hk, rfl, rfl, hq, Hq, HT, HS⟩ := hrel
    by_cases hlt : k < s.size
    · obtain ⟨c, hc⟩ : ∃ c, c = s[k] := ⟨_, rfl⟩
      have hcb : c.toNat < 256 := c.toNat_lt
      have hqw : q < w32 := by unfold w32; omega
      obtain ⟨y, hy⟩ : ∃ y, y = q ^^^ c.toNat := ⟨_, rfl⟩
      have hyw : y < w32 := by rw [hy]; exact xor_w32 hqw (byte_w32 c)
      have hxor : bits .xor .u32 (q : Int) ((c.toNat : Int) % 4294967296) = (y : Int) := by rw [hy, Int.emod_eq_of_lt (by omega) (by omega)]; exact u32_xor_nat q c.toNat (by omega) (by omega)
      rw [hc] at hxor
      have hyi : (y : Int) ≤ 4294967295 := by unfold w32 at hyw; omega
      obtain ⟨r1, hr1⟩ : ∃ r, r = y % 16 := ⟨_, rfl⟩
      have hand1 := u32_and_15 y hyi
      rw [← hr1] at hand1
      have lr1 : r1 < 16 := by omega
      obtain ⟨t1, ht1⟩ : ∃ t, t = tabN.getD r1 0 := ⟨_, rfl⟩
      have lt1 : t1 < w32 := by rw [ht1]; exact tabN_lt _
      obtain ⟨z, hz⟩ : ∃ z, z = (y / 16) ^^^ t1 := ⟨_, rfl⟩
      have hzw : z < w32 := by rw [hz]; exact xor_w32 (by unfold w32 at *; omega) lt1
      have hxz : bits .xor .u32 ((y : Int) / 16) (t1 : Int) = (z : Int) := by
        have h := u32_xor_nat (y / 16) t1 (by omega) (by unfold w32 at lt1; omega)
        rw [hz, ← h]
        rfl
      have hzi : (z : Int) ≤ 4294967295 := by unfold w32 at hzw; omega
      obtain ⟨r2, hr2⟩ : ∃ r, r = z % 16 := ⟨_, rfl⟩
      have hand2 := u32_and_15 z hzi
      rw [← hr2] at hand2
      have lr2 : r2 < 16 := by omega
      obtain ⟨t2, ht2⟩ : ∃ t, t = tabN.getD r2 0 := ⟨_, rfl⟩
      have lt2 : t2 < w32 := by rw [ht2]; exact tabN_lt _
      obtain ⟨v, hv⟩ : ∃ v, v = (z / 16) ^^^ t2 := ⟨_, rfl⟩
      have hvw : v < w32 := by rw [hv]; exact xor_w32 (by unfold w32 at *; omega) lt2
      have hxv : bits .xor .u32 ((z : Int) / 16) (t2 : Int) = (v : Int) := by
        have h := u32_xor_nat (z / 16) t2 (by omega) (by unfold w32 at lt2; omega)
        rw [hv, ← h]
        rfl
      have hvi : (v : Int) ≤ 4294967295 := by unfold w32 at hvw; omega
      have HQ : Hid (v = crcTo (s.data.toList.take (k + 1)) 4294967295) := by
        show _ = _
        rw [take_snoc s k hlt, crcTo_snoc, ← Hq.out, ← hc, ← hy, crcSteps_eight, ← hr1, ← ht1, ← hz, ← hr2, ← ht2, ← hv]
      have HT1 : Hid (t1 = tabN.getD r1 0) := ht1
      have HT2 : Hid (t2 = tabN.getD r2 0) := ht2
      clear hc hy hyw hqw hr1 ht1 hz hzw hr2 ht2 hv hvw lt1 lt2 hcb Hq
      go_wp2_with fail
      refine (word_any b r1 _ HT.out lr1).mono ?_
      rintro e w2 ⟨rfl, h2, s2⟩
      rw [← HT1.out]
      have HT3 : Hid (TabOk w2 b) := h2
      have HS3 : Hid (Same (· = b) w w2) := HS.out.trans s2
      clear h2 s2 HT HS
      go_wp2_with fail
      refine (word_any b r2 _ HT3.out lr2).mono ?_
      rintro e w3 ⟨rfl, h3, s3⟩
      rw [← HT2.out]
      have HT4 : Hid (TabOk w3 b) := h3
      have HS4 : Hid (Same (· = b) w w3) := HS3.out.trans s3
      clear h3 s3 HT3 HS3
      go_wp2
      go_roundw
      case rel => exact ⟨k + 1, v, by omega, by go_num, rfl, hvi, HQ, HT4, HS4⟩
      case measure => (simp [intOf]; try omega)
    · have hnq := u32_not q (by omega)
      go_wp2
      go_ret
      have : s.data.toList.take k = s.data.toList := List.take_of_length_le (by simp; omega)
      have h := Hq.out
      rw [this] at h
      refine ⟨?_, HS.out⟩
      unfold crcN
      rw [← h]
      have e : ((4294967295 - q : Nat) : Int) = 4294967295 - (q : Int) := by omega
      rw [e]
      rfl

set_option maxRecDepth 100000 in
theorem sumsCrc (s : ByteArray) (w : World) (hs : s.size ≤ 140737488351232) :
    Calls Tryz.prog 186 #[.string s] w fun e w' => e = .returned (.int .u32 (crcN s.data.toList : Int)) ∧ Below w.heap.size w w' := by
  have HT : Hid (TabOk (w.alloc (.cells (tabRow 0 0 zeros16).toArray 127)) w.heap.size) := .inl (heap_alloc_new w _)
  obtain ⟨c, hc⟩ : ∃ c, c = crcN s.data.toList := ⟨_, rfl⟩
  have HD : Hid (Calls Tryz.prog 239 #[.pointer (some ⟨w.heap.size, 0, none⟩), .string s] (w.alloc (.cells (tabRow 0 0 zeros16).toArray 127)) fun e w' => e = .returned (.int .u32 (c : Int)) ∧ Hid (Below w.heap.size w w')) := by
    refine (tabCrc w.heap.size s _ HT.out hs).mono ?_
    rintro e w2 ⟨rfl, s2⟩
    refine ⟨by rw [hc], ?_⟩
    exact ((Below.refl _ _).alloc (Nat.le_refl _) _).trans (s2.below (B := w.heap.size) (by rintro k rfl; omega) (by simp))
  rw [← hc]
  clear hc HT
  go_enter Tryz.func186, Tryz.ntmps186
  go_wp2_with fail
  refine HD.out.mono ?_
  rintro e w2 ⟨rfl, HB⟩
  go_wp2
  go_ret
  exact ⟨rfl, HB.out⟩

theorem plainCrc (s : ByteArray) (w : World) (hs : s.size ≤ 140737488351232) :
    Calls Tryz.prog 67 #[.string s] w fun e w' => e = .returned (.int .i64 (crcN s.data.toList : Int)) ∧ Below w.heap.size w w' := by
  have hl : crcN s.data.toList < w32 := by unfold crcN w32; omega
  obtain ⟨c, hc⟩ : ∃ c, c = crcN s.data.toList := ⟨_, rfl⟩
  have HD : Hid (Calls Tryz.prog 186 #[.string s] w fun e w' => e = .returned (.int .u32 (c : Int)) ∧ Hid (Below w.heap.size w w')) := by
    rw [hc]; exact sumsCrc s w hs
  rw [← hc] at hl ⊢
  have hci : (c : Int) ≤ 4294967295 := by unfold w32 at hl; omega
  clear hc hl
  go_enter Tryz.func67, Tryz.ntmps67
  go_wp2_with (first | (go_at_call 186; refine HD.out.mono ?_; rintro e w2 ⟨rfl, HB⟩) | (go_at_call 110; go_in))
  go_ret
  exact ⟨rfl, HB.out⟩
end Go.Proofs.YtbnokhdofkpcjaaGreatDoor
namespace Go.Proofs.YtbnokhdofkpcjaaGreatDoor
open Go.RowKit

set_option maxRecDepth 100000 in
set_option maxHeartbeats 1000000 in
theorem refCrc (s : ByteArray) (w : World) (hs : s.size ≤ 140737488351232) :
    Calls Tryz.prog 68 #[.string s] w fun e w' => e = .returned (.int .i64 (crcN s.data.toList : Int)) ∧ w = w' := by
  have hsi : (s.size : Int) ≤ 140737488351232 := by omega
  go_enter Tryz.func68, Tryz.ntmps68
  go_wp2
  go_loop [3, 4] (fun r i => ∃ k q : Nat, k ≤ s.size ∧ i = .int .i64 k ∧ r = .int .i64 (q : Int) ∧ (q : Int) ≤ 4294967295 ∧ Hid (q = crcTo (s.data.toList.take k) 4294967295)) (fun _ i => s.size - (intOf i).toNat)
  case atStart => exact ⟨0, 4294967295, Nat.zero_le _, rfl, rfl, by omega, rfl⟩
  case round =>
    obtain ⟨k, q, hk, rfl, rfl, hq, Hq⟩ := hrel
    by_cases hlt : k < s.size
    · obtain ⟨c, hc⟩ : ∃ c, c = s[k] := ⟨_, rfl⟩
      have hcb : c.toNat < 256 := c.toNat_lt
      have hqw : q < w32 := by unfold w32; omega
      obtain ⟨y, hy⟩ : ∃ y, y = q ^^^ c.toNat := ⟨_, rfl⟩
      have hyw : y < w32 := by rw [hy]; exact xor_w32 hqw (byte_w32 c)
      have hxor : bits .xor .i64 (q : Int) (wrap64 (c.toNat : Int)) = (y : Int) := by rw [hy, Go.IntWalk.wrap64_in _ (by omega)]; exact i64_xor_nat q c.toNat (by omega) (by omega)
      have hyi : (y : Int) ≤ 4294967295 := by unfold w32 at hyw; omega
      have HY : Hid (y = q ^^^ c.toNat) := hy
      have HCC : Hid (c = s[k]) := hc
      rw [hc] at hxor
      have HQ8 : Hid (crcTo (s.data.toList.take (k + 1)) 4294967295 = crcSteps 8 y) := by
        show _ = _
        rw [take_snoc s k hlt, crcTo_snoc, ← Hq.out, ← HCC.out, ← HY.out]
      clear hy hc hqw hyw HY HCC
      go_wp2
      clear hxor
      go_loop [3, 5] (fun r j => ∃ m z : Nat, m ≤ 8 ∧ j = .int .i64 ((8 : Int) - m) ∧ r = .int .i64 (z : Int) ∧ (z : Int) ≤ 4294967295 ∧ Hid (crcSteps m z = crcSteps 8 y)) (fun _ j => 8 - (intOf j).toNat)
      case atStart => exact ⟨8, y, by omega, rfl, rfl, hyi, rfl⟩
      case round =>
        obtain ⟨m, z, hm, rfl, rfl, hz, Hz⟩ := hrel
        by_cases hm0 : 0 < m
        · obtain ⟨m, rfl⟩ : ∃ m', m = m' + 1 := ⟨m - 1, by omega⟩
          have hzw : z < w32 := by unfold w32; omega
          by_cases hodd : z % 2 = 1
          · have hb1 : (((z : Int) % 2) == 1) = true := by rw [beq_iff_eq]; omega
            obtain ⟨u, hu⟩ : ∃ u, u = (z / 2) ^^^ 3988292384 := ⟨_, rfl⟩
            have hxor : bits .xor .i64 ((z : Int) / 2) 3988292384 = (u : Int) := by
              have h := i64_xor_nat (z / 2) 3988292384 (by omega) (by omega)
              rw [hu, ← h]
              rfl
            have hcs : crcStep z = u := by unfold crcStep; rw [if_pos hodd, hu]
            have huw : u < w32 := by rw [← hcs]; exact crcStep_lt z hzw
            have hui : (u : Int) ≤ 4294967295 := by unfold w32 at huw; omega
            have HU : Hid (crcSteps m u = crcSteps 8 y) := by
              show _ = _
              rw [← Hz.out, ← hcs]; rfl
            clear hcs huw hu hzw hodd
            go_wp2
            go_round
            case rel => exact ⟨m, u, by omega, by go_num, rfl, hui, HU⟩
            case measure => (simp [intOf]; try omega)
          · have hb1 : (((z : Int) % 2) == 1) = false := by rw [beq_eq_false_iff_ne]; omega
            have hcs : crcStep z = z / 2 := by unfold crcStep; rw [if_neg hodd]
            have HU : Hid (crcSteps m (z / 2) = crcSteps 8 y) := by
              show _ = _
              rw [← Hz.out, ← hcs]; rfl
            clear hcs hzw hodd
            go_wp2
            go_round
            case rel => exact ⟨m, z / 2, by omega, by go_num, by go_num, by omega, HU⟩
            case measure => (simp [intOf]; try omega)
        · have hm1 : m = 0 := by omega
          subst hm1
          go_wp2
          go_round
          case rel =>
            refine ⟨k + 1, z, by omega, by go_num, rfl, hz, ?_⟩
            show _ = _
            rw [HQ8.out, ← Hz.out]; rfl
          case measure => (simp [intOf]; try omega)
    · go_wp2
      go_ret
      have : s.data.toList.take k = s.data.toList := List.take_of_length_le (by simp; omega)
      have h := Hq.out
      rw [this] at h
      refine ⟨?_, rfl⟩
      unfold crcN
      rw [← h]
      have e : ((4294967295 - q : Nat) : Int) = 4294967295 - (q : Int) := by omega
      rw [e]
      rfl
end Go.Proofs.YtbnokhdofkpcjaaGreatDoor
namespace Go.Proofs.YtbnokhdofkpcjaaGreatDoor
open Go.RowKit

theorem turn_val (x n : Nat) (hx : x < 4294967296) (hp : x * 2 ^ (32 - n) < 4611686018427387904) : (bits .or .i64 ((x : Int) / 2 ^ n) (wrap64 ((x : Int) * 2 ^ (32 - n)))).tmod 4294967296 = (rotN x n : Int) := by
  have e1 : (x : Int) / 2 ^ n = ((x / 2 ^ n : Nat) : Int) := by rw [Int.natCast_ediv, Int.natCast_pow]; rfl
  have e2 : (x : Int) * 2 ^ (32 - n) = ((x * 2 ^ (32 - n) : Nat) : Int) := by rw [Int.natCast_mul, Int.natCast_pow]; rfl
  have hd : x / 2 ^ n ≤ x := Nat.div_le_self _ _
  rw [e1, e2, Go.IntWalk.wrap64_in _ (by omega), i64_or_nat _ _ (by omega) (by omega)]
  unfold rotN
  rw [Int.natCast_emod]
  exact Int.tmod_eq_emod_of_nonneg (Int.natCast_nonneg _)

set_option maxRecDepth 100000 in
theorem turn_any (x n : Nat) (w : World) (hx : (x : Int) ≤ 4294967295) (h1 : 2 ≤ n) (h2 : n ≤ 30) :
    Calls Tryz.prog 185 #[.int .i64 (x : Int), .int .i64 (n : Int)] w fun e w' => e = .returned (.int .i64 (rotN x n : Int)) ∧ w = w' := by
  have hp : x * 2 ^ (32 - n) < 4611686018427387904 := by
    have h3 : 2 ^ (32 - n) ≤ 2 ^ 30 := Nat.pow_le_pow_right (by decide) (by omega)
    have h4 : x * 2 ^ (32 - n) ≤ 4294967295 * 2 ^ 30 := Nat.mul_le_mul (by omega) h3
    omega
  have hv := turn_val x n (by omega) hp
  clear hp
  go_enter Tryz.func185, Tryz.ntmps185
  go_wp2
  go_ret
  exact ⟨rfl, rfl⟩
end Go.Proofs.YtbnokhdofkpcjaaGreatDoor
