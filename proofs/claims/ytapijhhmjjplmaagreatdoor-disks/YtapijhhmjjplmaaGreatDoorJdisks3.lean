/- OWN TEXT: joined of: KSum Tab Crc Once OnceDo PCrc RefCrc RefTurn RefBlock RefSum Lits. -/
import Derived.Deep.RegionWith
import Derived.Test.YtapijhhmjjplmaaGreatDoorProg
import Derived.Tactics
import Derived.Tactics2
import Derived.Defers
import Derived.Laws.Pointers
import Derived.Laws.LoneSync
import Derived.RegionTactic
import Derived.RegionCalls
import Derived.Laws.NewBlocks
import Derived.Test.YtapijhhmjjplmaaGreatDoorJdisks2
namespace Go.Proofs.YtapijhhmjjplmaaGreatDoor
open Go.RowKit

theorem sha_at (s : ByteArray) (ks hs : List Nat) (tg : TypeId) (fr : Nat × Nat) (w : World) (hsz : s.size ≤ 300000) (hhl : hs.length = 8) (hhw : ∀ d ∈ hs, d < w32) (hkw : ∀ d ∈ ks, d < w32)
    (hS : w.heap[13]? = some (.cells (u32s hs) tg fr))
    (hK : ∀ i, i < 64 → w.cell? ⟨14, i, none⟩ = some (.int .u32 (ks.getD i 0 : Int))) :
    Calls Tryz.prog 107 #[.string s] w fun e w2 => ∃ A : Array Value, e = .returned (.agg A) ∧ Hid (A = u8s (outK (mixTo ks hs (padN (bytesN s)) ((padN (bytesN s)).length / 64)) 32)) ∧ Hid ((Tryz.prog.info? 131).map (·.size) = some A.size) ∧ Hid (∀ Z : Array Value, Z.size = 32 → Z.size = A.size) ∧ Hid (A.all (·.oneCell') = true) ∧ Hid (Below w.heap.size w w2) := by
  refine (sha_any s ks hs tg fr w hsz hhl hhw hkw hS hK).mono ?_
  rintro e w2 ⟨rfl, hb⟩
  have hz : ∀ st, (u8s (outK st 32)).size = 32 := fun st => by simp [u8s, outK_length]
  refine ⟨_, rfl, rfl, ?_, fun Z h => by rw [hz, h], u8s_one _, hb⟩
  show _ = _
  rw [hz]
  kernel_rfl

set_option maxRecDepth 100000 in
set_option maxHeartbeats 1000000 in
theorem keepSum (s : ByteArray) (ks hs : List Nat) (tg : TypeId) (fr : Nat × Nat) (w : World) (hsz : s.size ≤ 300000) (hhl : hs.length = 8) (hhw : ∀ d ∈ hs, d < w32) (hkw : ∀ d ∈ ks, d < w32)
    (hS : w.heap[13]? = some (.cells (u32s hs) tg fr))
    (hK : ∀ i, i < 64 → w.cell? ⟨14, i, none⟩ = some (.int .u32 (ks.getD i 0 : Int))) :
    Calls Tryz.prog 65 #[.string s] w fun e w' => e = .returned (.string ⟨(shaB ks hs (bytesN s)).toArray⟩) ∧ Below w.heap.size w w' := by
  have HD := sha_at s ks hs tg fr w hsz hhl hhw hkw hS hK
  obtain ⟨l, hl⟩ : ∃ l, l = shaB ks hs (bytesN s) := ⟨_, rfl⟩
  have hout : (outK (mixTo ks hs (padN (bytesN s)) ((padN (bytesN s)).length / 64)) 32).map UInt8.ofNat = l := by
    rw [hl]
    exact outK_all _ (mixTo_length _ _ _ hhl _)
  rw [← hl]
  obtain ⟨o, ho⟩ : ∃ o, o = outK (mixTo ks hs (padN (bytesN s)) ((padN (bytesN s)).length / 64)) 32 := ⟨_, rfl⟩
  have hol : o.length = 32 := by rw [ho]; exact outK_length _ _
  have hob : ∀ d ∈ o, d < 256 := by rw [ho]; exact outK_lt _ _
  rw [← ho] at HD hout
  have HD' := HD
  have HOUT : Hid (o.map UInt8.ofNat = l) := hout
  have HOL : Hid (o.length = 32) := hol
  have HOB : Hid (∀ d ∈ o, d < 256) := hob
  clear HD hl ho hout hS hK hhl hhw hkw hol hob
  have HDD : Hid (Calls Tryz.prog 107 #[.string s] w fun e w2 => ∃ A : Array Value, e = .returned (.agg A) ∧ Hid (A = u8s o) ∧ Hid ((Tryz.prog.info? 131).map (·.size) = some A.size) ∧ Hid (∀ Z : Array Value, Z.size = 32 → Z.size = A.size) ∧ Hid (A.all (·.oneCell') = true) ∧ Hid (Below w.heap.size w w2)) := HD'
  clear HD'
  go_enter Tryz.func65, Tryz.ntmps65
  go_wp2_with fail
  refine HDD.out.mono ?_
  rintro e w1 ⟨A, rfl, HA, HI, HZ, HO, HB⟩
  have hcv : ∀ Z : Array Value, (convert 134 9 (.slice (some ⟨w1.heap.size, 0, none⟩) 32 32)).run Tryz.prog ((w1.alloc (.cells Z 131)).setRow w1.heap.size A) = .ok (.string ⟨l.toArray⟩) ((w1.alloc (.cells Z 131)).setRow w1.heap.size A) := fun Z => by
    have hl32 : l.length = 32 := by rw [← HOUT.out, List.length_map]; exact HOL.out
    have h := run_convert_bytes_back (P := Tryz.prog) ((w1.alloc (.cells Z 131)).setRow w1.heap.size A) 134 9 5 ⟨w1.heap.size, 0, none⟩ 32 l Tryz.underlying134 Tryz.underlying5 Tryz.underlying9 ?_
    · rw [hl32] at h
      exact h
    · intro j hj
      have hr := setRow_heap _ _ _ A _ _ (heap_alloc_new w1 (.cells Z 131))
      have hjo : j < o.length := by rw [HOL.out]; omega
      have hrow : BRow ((w1.alloc (.cells Z 131)).setRow w1.heap.size A) w1.heap.size 131 o := by
        unfold BRow
        rw [← HA.out]
        exact hr
      have hc := hrow.cell j hjo
      have e1 : (⟨w1.heap.size, 0, none⟩ : Addr).add j = ⟨w1.heap.size, j, none⟩ := by unfold Addr.add; split <;> simp_all
      have e2 : l[j].toNat = o[j] := by
        have hlt := HOB.out o[j] (List.getElem_mem _)
        have e3 : l[j] = UInt8.ofNat o[j] := by
          have : l = o.map UInt8.ofNat := HOUT.out.symm
          subst this
          rw [List.getElem_map]
        rw [e3, UInt8.toNat_ofNat']
        omega
      rw [e1, e2]
      exact hc
  go_wp2_with (refine wpList_store_row rfl 131 _ _ rfl w1.heap.size A rfl rfl 131 _ (heap_alloc_new w1 _) HI.out (HZ.out _ rfl) HO.out ?_)
  go_ret
  exact ⟨rfl, below_setRow (HB.out.alloc HB.out.size _) HB.out.size _⟩
end Go.Proofs.YtapijhhmjjplmaaGreatDoor
namespace Go.Proofs.YtapijhhmjjplmaaGreatDoor
open Go.RowKit

theorem half_xor (u v : Nat) : (u ^^^ v) / 2 = (u / 2) ^^^ (v / 2) := by
  have h := Nat.shiftRight_xor_distrib (a := u) (b := v) (i := 1)
  simpa [Nat.shiftRight_eq_div_pow] using h
theorem odd_xor (u v : Nat) : (u ^^^ v) % 2 = (u % 2 + v % 2) % 2 := by
  have h : (u ^^^ v) % 2 ^ 1 = (u % 2 ^ 1) ^^^ (v % 2 ^ 1) := Nat.xor_mod_two_pow
  simp only [Nat.pow_one] at h
  rw [h]
  rcases Nat.mod_two_eq_zero_or_one u with hu | hu <;> rcases Nat.mod_two_eq_zero_or_one v with hv | hv <;> rw [hu, hv] <;> rfl
theorem crcStep_xor (u v : Nat) : crcStep (u ^^^ v) = crcStep u ^^^ crcStep v := by
  unfold crcStep
  rw [half_xor, odd_xor]
  rcases Nat.mod_two_eq_zero_or_one u with hu | hu <;> rcases Nat.mod_two_eq_zero_or_one v with hv | hv <;> rw [hu, hv] <;> simp
  · ac_rfl
  · ac_rfl
  · rw [show u / 2 ^^^ 3988292384 ^^^ (v / 2 ^^^ 3988292384) = u / 2 ^^^ v / 2 ^^^ (3988292384 ^^^ 3988292384) by ac_rfl, Nat.xor_self, Nat.xor_zero]
theorem crcSteps_xor : ∀ k u v, crcSteps k (u ^^^ v) = crcSteps k u ^^^ crcSteps k v
  | 0, _, _ => rfl
  | k + 1, u, v => by
    show crcSteps k (crcStep (u ^^^ v)) = _
    rw [crcStep_xor, crcSteps_xor k]
    rfl
theorem crcStep_even (q : Nat) : crcStep (2 * q) = q := by
  unfold crcStep
  rw [if_neg (by omega)]
  omega
theorem crcSteps_16 (q : Nat) : crcSteps 4 (16 * q) = q := by
  show crcStep (crcStep (crcStep (crcStep (16 * q)))) = q
  rw [show 16 * q = 2 * (2 * (2 * (2 * q))) by omega, crcStep_even, crcStep_even, crcStep_even, crcStep_even]
theorem crcSteps_four (x : Nat) : crcSteps 4 x = (x / 16) ^^^ crcSteps 4 (x % 16) := by
  have e : x = (16 * (x / 16)) ^^^ (x % 16) := by
    have h := Nat.two_pow_add_eq_or_of_lt (i := 4) (b := x % 16) (by omega) (x / 16)
    have h2 : 16 * (x / 16) + x % 16 = x := by omega
    have h3 : 2 ^ 4 * (x / 16) + x % 16 = x := by omega
    rw [h3] at h
    have h4 : (2 ^ 4 * (x / 16)) &&& (x % 16) = 0 := by
      apply Nat.eq_of_testBit_eq
      intro i
      rw [Nat.testBit_and, show x % 16 = x % 2 ^ 4 by rfl, Nat.testBit_mod_two_pow, Nat.testBit_two_pow_mul, Nat.zero_testBit]
      rcases Nat.lt_or_ge i 4 with h5 | h5
      · rw [show decide (i ≥ 4) = false by simp; omega]; simp
      · rw [show decide (i < 4) = false by simp; omega]; simp
    rw [show 16 * (x / 16) = 2 ^ 4 * (x / 16) by omega]
    have h8 : (2 ^ 4 * (x / 16)) ||| (x % 16) = (2 ^ 4 * (x / 16)) ^^^ (x % 16) := by
      apply Nat.eq_of_testBit_eq
      intro i
      have h9 := congrArg (fun t => Nat.testBit t i) h4
      simp only [Nat.testBit_and, Nat.zero_testBit] at h9
      simp only [Nat.testBit_or, Nat.testBit_xor]
      revert h9
      cases Nat.testBit (2 ^ 4 * (x / 16)) i <;> cases Nat.testBit (x % 16) i <;> simp
    rw [← h8]
    exact h
  have h := crcSteps_xor 4 (16 * (x / 16)) (x % 16)
  rw [← e, crcSteps_16] at h
  exact h
theorem crcSteps_add : ∀ j k r, crcSteps (j + k) r = crcSteps k (crcSteps j r)
  | 0, k, r => by rw [Nat.zero_add]; rfl
  | j + 1, k, r => by
    rw [show j + 1 + k = (j + k) + 1 by omega]
    show crcSteps (j + k) (crcStep r) = _
    rw [crcSteps_add j k]
    rfl
/-- What four steps do to each of sixteen numbers. -/
def tabN : List Nat := (List.range 16).map (crcSteps 4)
theorem tabN_at (i : Nat) (h : i < 16) : tabN.getD i 0 = crcSteps 4 i := by
  unfold tabN
  rw [List.getD_eq_getElem?_getD]
  simp [h]
theorem crcSteps_eight (x : Nat) : crcSteps 8 x = ((x / 16) ^^^ tabN.getD (x % 16) 0) / 16 ^^^ tabN.getD (((x / 16) ^^^ tabN.getD (x % 16) 0) % 16) 0 := by
  rw [tabN_at _ (by omega), tabN_at _ (by omega), show 8 = 4 + 4 by rfl, crcSteps_add, crcSteps_four x]
  exact crcSteps_four _
end Go.Proofs.YtapijhhmjjplmaaGreatDoor
namespace Go.Proofs.YtapijhhmjjplmaaGreatDoor
open Go.RowKit

theorem u32_and_one (z : Nat) (h : (z : Int) ≤ 4294967295) : bits .and .u32 (z : Int) 1 = ((z % 2 : Nat) : Int) := by
  have h1 := u32_and_nat z 1 (by omega) (by omega)
  rw [Nat.and_one_is_mod] at h1
  exact h1

set_option maxRecDepth 100000 in
set_option maxHeartbeats 1000000 in
theorem four_shifts (x : Nat) (w : World) (hx : (x : Int) ≤ 4294967295) :
    Calls Tryz.prog 295 #[.int .u32 (x : Int)] w fun e w' => e = .returned (.int .u32 (crcSteps 4 x : Int)) ∧ w = w' := by
  go_enter Tryz.func295, Tryz.ntmps295
  go_wp2
  go_loop [0, 4] (fun r j => ∃ m z : Nat, m ≤ 4 ∧ j = .int .i64 ((4 : Int) - m) ∧ r = .int .u32 (z : Int) ∧ (z : Int) ≤ 4294967295 ∧ Hid (crcSteps m z = crcSteps 4 x)) (fun _ j => 4 - (intOf j).toNat)
  case atStart => exact ⟨4, x, by omega, rfl, rfl, hx, rfl⟩
  case round =>
    obtain ⟨m, z, hm, rfl, rfl, hz, Hz⟩ := hrel
    by_cases hm0 : 0 < m
    · obtain ⟨m, rfl⟩ : ∃ m', m = m' + 1 := ⟨m - 1, by omega⟩
      have hzw : z < w32 := by unfold w32; omega
      have hand := u32_and_one z hz
      by_cases hodd : z % 2 = 1
      · rw [hodd] at hand
        obtain ⟨u, hu⟩ : ∃ u, u = (z / 2) ^^^ 3988292384 := ⟨_, rfl⟩
        have hxor : bits .xor .u32 ((z : Int) / 2) 3988292384 = (u : Int) := by
          have h := u32_xor_nat (z / 2) 3988292384 (by omega) (by omega)
          rw [hu, ← h]
          rfl
        have hcs : crcStep z = u := by unfold crcStep; rw [if_pos hodd, hu]
        have huw : u < w32 := by rw [← hcs]; exact crcStep_lt z hzw
        have hui : (u : Int) ≤ 4294967295 := by unfold w32 at huw; omega
        have HU : Hid (crcSteps m u = crcSteps 4 x) := by
          show _ = _
          rw [← Hz.out, ← hcs]; rfl
        clear hcs huw hu hzw hodd
        go_wp2
        go_round
        case rel => exact ⟨m, u, by omega, by go_num, rfl, hui, HU⟩
        case measure => (simp [intOf]; try omega)
      · have h0 : z % 2 = 0 := by omega
        rw [h0] at hand
        have hcs : crcStep z = z / 2 := by unfold crcStep; rw [if_neg hodd]
        have HU : Hid (crcSteps m (z / 2) = crcSteps 4 x) := by
          show _ = _
          rw [← Hz.out, ← hcs]; rfl
        clear hcs hzw hodd h0
        go_wp2
        go_round
        case rel => exact ⟨m, z / 2, by omega, by go_num, by go_num, by omega, HU⟩
        case measure => (simp [intOf]; try omega)
    · have hm1 : m = 0 := by omega
      subst hm1
      go_wp2
      go_ret
      refine ⟨?_, rfl⟩
      rw [← Hz.out]
      rfl

/-- All but the blocks S, and what is new, is as it was. -/
structure Same (S : Nat → Prop) (w w' : World) : Prop where
  os : w'.os = w.os
  tape : w'.tape = w.tape
  output : w'.output = w.output
  size : w.heap.size ≤ w'.heap.size
  block : ∀ k, k < w.heap.size → ¬ S k → w'.heap[k]? = w.heap[k]?
theorem Same.refl (S : Nat → Prop) (w : World) : Same S w w := ⟨rfl, rfl, rfl, Nat.le_refl _, fun _ _ _ => rfl⟩
theorem Same.trans {S : Nat → Prop} {a b c : World} (h : Same S a b) (h' : Same S b c) : Same S a c :=
  ⟨h'.os.trans h.os, h'.tape.trans h.tape, h'.output.trans h.output, Nat.le_trans h.size h'.size, fun k hk hs => (h'.block k (Nat.lt_of_lt_of_le hk h.size) hs).trans (h.block k hk hs)⟩
theorem Same.alloc {S : Nat → Prop} {a b : World} (h : Same S a b) (o : Obj) : Same S a (b.alloc o) :=
  h.trans ⟨rfl, rfl, rfl, by simp, fun k hk _ => Below.heap_alloc b o k hk⟩
theorem Same.setCell {S : Nat → Prop} {a b : World} (h : Same S a b) (p : Addr) (hp : S p.block) (v : Value) : Same S a (b.setCell p v) :=
  h.trans ⟨rfl, rfl, rfl, by simp [World.setCell], fun k _ hs => heap_setCell_other b p k v (fun e => hs (e ▸ hp))⟩
theorem Same.drew {S : Nat → Prop} {a b : World} (h : Same S a b) : Same S a b.drew := ⟨h.os, h.tape, h.output, h.size, h.block⟩
theorem Same.below {S : Nat → Prop} {a b : World} (h : Same S a b) {B : Nat} (hB : ∀ k, S k → B ≤ k) (hs : B ≤ a.heap.size) : Below B a b :=
  ⟨h.os, h.tape, h.output, h.size, fun k hk => h.block k (Nat.lt_of_lt_of_le hk hs) (fun hS => by have := hB k hS; omega)⟩
theorem Same.cell {S : Nat → Prop} {a b : World} (h : Same S a b) {p : Addr} {v : Value} (hp : ¬ S p.block) (hc : a.cell? p = some v) : b.cell? p = some v := by
  have hlt : p.block < a.heap.size := block_lt_of_cell hc
  have hb := h.block p.block hlt hp
  unfold World.cell? at *
  rw [hb]
  exact hc

/-- A CRC's table in memory: the Once's word, its lock, its words. -/
def tabRow (d m : Int) (ws : List Nat) : List Value := [.int .u32 d, .int .i32 m, .int .u32 0] ++ ws.map fun x : Nat => Value.int .u32 (x : Int)
def TabAt (w : World) (b : Nat) (d m : Int) (ws : List Nat) : Prop := w.heap[b]? = some (.cells (tabRow d m ws).toArray 127 (0, 0))
theorem TabAt.lt {w : World} {b : Nat} {d m : Int} {ws : List Nat} (h : TabAt w b d m ws) : b < w.heap.size := (Array.getElem?_eq_some_iff.1 h).1
theorem TabAt.frozen {w : World} {b : Nat} {d m : Int} {ws : List Nat} (h : TabAt w b d m ws) (j : Nat) : w.frozen? ⟨b, j, none⟩ = false := frozen_of_row w b j _ _ h
theorem TabAt.c0 {w : World} {b : Nat} {d m : Int} {ws : List Nat} (h : TabAt w b d m ws) : w.cell? ⟨b, 0, none⟩ = some (.int .u32 d) := by
  rw [cell_of_row w b 0 _ _ _ h]; simp [tabRow]
theorem TabAt.c1 {w : World} {b : Nat} {d m : Int} {ws : List Nat} (h : TabAt w b d m ws) : w.cell? ⟨b, 1, none⟩ = some (.int .i32 m) := by
  rw [cell_of_row w b 1 _ _ _ h]; simp [tabRow]
theorem TabAt.word {w : World} {b : Nat} {d m : Int} {ws : List Nat} (h : TabAt w b d m ws) (j : Nat) (hj : j < ws.length) : w.cell? ⟨b, 3 + j, none⟩ = some (.int .u32 (ws[j] : Int)) := by
  rw [cell_of_row w b (3 + j) _ _ _ h, Nat.add_comm]; simp [tabRow, hj]
theorem TabAt.set0 {w : World} {b : Nat} {d m : Int} {ws : List Nat} (h : TabAt w b d m ws) (x : Int) : TabAt (w.setCell ⟨b, 0, none⟩ (.int .u32 x)) b x m ws := by
  unfold TabAt
  rw [heap_setCell_same w b 0 _ _ _ h]
  simp [tabRow]
theorem TabAt.set1 {w : World} {b : Nat} {d m : Int} {ws : List Nat} (h : TabAt w b d m ws) (x : Int) : TabAt (w.setCell ⟨b, 1, none⟩ (.int .i32 x)) b d x ws := by
  unfold TabAt
  rw [heap_setCell_same w b 1 _ _ _ h]
  simp [tabRow]
theorem TabAt.setW {w : World} {b : Nat} {d m : Int} {ws : List Nat} (h : TabAt w b d m ws) (j x : Nat) : TabAt (w.setCell ⟨b, 3 + j, none⟩ (.int .u32 (x : Int))) b d m (ws.set j x) := by
  unfold TabAt
  rw [heap_setCell_same w b (3 + j) _ _ _ h, Nat.add_comm]
  simp [tabRow, List.map_set]
theorem TabAt.on {S : Nat → Prop} {w w' : World} {b : Nat} {d m : Int} {ws : List Nat} (h : TabAt w b d m ws) (hs : Same S w w') (hb : ¬ S b) : TabAt w' b d m ws := (hs.block b h.lt hb).trans h
theorem TabAt.alloc {w : World} {b : Nat} {d m : Int} {ws : List Nat} (h : TabAt w b d m ws) (o : Obj) : TabAt (w.alloc o) b d m ws := (Below.heap_alloc w o b h.lt).trans h

/-- The words, as far as they are made. -/
def tabTo (ws : List Nat) (i : Nat) : List Nat := tabN.take i ++ ws.drop i
theorem tabN_length : tabN.length = 16 := rfl
theorem tabTo_length (ws : List Nat) (i : Nat) (hw : ws.length = 16) (hi : i ≤ 16) : (tabTo ws i).length = 16 := by
  simp [tabTo, tabN_length, hw]; omega
theorem tabTo_set (ws : List Nat) (i : Nat) (hw : ws.length = 16) (hi : i < 16) : (tabTo ws i).set i (crcSteps 4 i) = tabTo ws (i + 1) := by
  have h := addTo_set ws tabN i (by rw [hw, tabN_length]) (by omega)
  have e : tabN[i]'(by rw [tabN_length]; exact hi) = crcSteps 4 i := by simp [tabN]
  rw [e] at h
  exact h
theorem tabTo_all (ws : List Nat) (hw : ws.length = 16) : tabTo ws 16 = tabN := by
  unfold tabTo
  rw [List.take_of_length_le (by rw [tabN_length]; omega), List.drop_eq_nil_of_le (by omega), List.append_nil]

set_option maxRecDepth 100000 in
set_option maxHeartbeats 1000000 in
theorem word1_any (b : Nat) (pl : Addr) (d m : Int) (ws : List Nat) (w : World) (hp : w.cell? pl = some (.pointer (some ⟨b, 0, none⟩))) (hpb : pl.block ≠ b) (hw : ws.length = 16) (ht : TabAt w b d m ws) :
    Calls Tryz.prog 294 #[.pointer (some pl)] w fun e w' => e = .returned (.tuple #[]) ∧ TabAt w' b d m tabN ∧ Same (· = b) w w' := by
  have HW : Hid (ws.length = 16) := hw
  have HT : Hid (TabAt w b d m ws) := ht
  clear hw ht
  go_enter Tryz.func294, Tryz.ntmps294
  go_wp2
  have HP : Hid (w.cell? pl = some (.pointer (some ⟨b, 0, none⟩))) := hp
  clear hp
  go_loopw [2] (fun iv_ wr => ∃ i : Nat, i ≤ 16 ∧ iv_ = .int .u32 (i : Int) ∧ Hid (TabAt wr b d m (tabTo ws i)) ∧ Hid (Same (· = b) w wr)) (fun iv_ _ => 16 - (intOf iv_).toNat)
  case atStart => exact ⟨0, by omega, rfl, HT, Same.refl _ _⟩
  case round =>
    clear HT
    obtain ⟨i, hi, rfl, HT, HS⟩ := hrel
    by_cases hlt : i < 16
    · have hpr : wr.cell? pl = some (.pointer (some ⟨b, 0, none⟩)) := HS.out.cell hpb HP.out
      obtain ⟨z, cz⟩ : ∃ z : Int, wr.cell? ⟨b, 3 + i, none⟩ = some (.int .u32 z) := ⟨_, HT.out.word i (by rw [tabTo_length ws i HW.out (by omega)]; exact hlt)⟩
      have fz := HT.out.frozen (3 + i)
      go_wp2
      go_region_with (go_at_call 295; go_must (refine (four_shifts i _ (by omega)).mono ?_; rintro e w' ⟨rfl, rfl⟩))
      all_goals
        go_wp2
        go_roundw
        case rel =>
          refine ⟨i + 1, by omega, by go_num, ?_, ?_⟩
          · have h1 := HT.out.setW i (crcSteps 4 i)
            rw [tabTo_set ws i HW.out hlt] at h1
            exact h1
          · exact (HS.out.setCell ⟨b, 3 + i, none⟩ rfl _).drew
        case measure => (simp [intOf]; try omega)
    · have hi16 : i = 16 := by omega
      obtain ⟨i1, hi1⟩ : ∃ i1, i1 = i := ⟨_, rfl⟩
      subst hi1
      have HT1 : Hid (TabAt wr b d m tabN) := by
        have h1 := HT.out
        rw [hi16, tabTo_all ws HW.out] at h1
        exact h1
      clear HT hi16
      go_wp2
      go_end0
      exact ⟨rfl, HT1.out, HS.out⟩
end Go.Proofs.YtapijhhmjjplmaaGreatDoor
namespace Go.Proofs.YtapijhhmjjplmaaGreatDoor
open Go.RowKit

theorem race_disable (w : World) : (callFunc 170 #[]).run Tryz.prog w = .ok (.value (.tuple #[])) w := run_call_mark0 Tryz.func170 (by kernel_rfl) (by kernel_rfl) (by kernel_rfl) .disable (by kernel_rfl) w
theorem race_enable (w : World) : (callFunc 172 #[]).run Tryz.prog w = .ok (.value (.tuple #[])) w := run_call_mark0 Tryz.func172 (by kernel_rfl) (by kernel_rfl) (by kernel_rfl) .enable (by kernel_rfl) w
theorem race_acquire (a : Addr) (w : World) : (callFunc 173 #[.pointer (some a)]).run Tryz.prog w = .ok (.value (.tuple #[])) w := run_call_marked Tryz.func173 (by kernel_rfl) (by kernel_rfl) (by kernel_rfl) .acquire (by kernel_rfl) a w
theorem race_release (a : Addr) (w : World) : (callFunc 175 #[.pointer (some a)]).run Tryz.prog w = .ok (.value (.tuple #[])) w := run_call_marked Tryz.func175 (by kernel_rfl) (by kernel_rfl) (by kernel_rfl) .releaseMerge (by kernel_rfl) a w

/-- (*atomic.Bool).Store(true), deferred: the cell holds 1. -/
theorem store_deferred (a : Addr) (x : Value) (u : FrameMode) (w : World) (hc : w.cell? a = some x) (hz : w.frozen? a = false) :
    CallsD Tryz.prog 323 #[.pointer (some a), .bool true] u w fun e u' w' => u' = u ∧ (e = .returned (.tuple #[]) ∧ w' = w.drew.setCell a (.int .u32 1)) := by
  have hc' : w.drew.cell? a = some x := by go_simp
  have hz' : w.drew.frozen? a = false := by go_simp
  have hst := run_call_store (P := Tryz.prog) Tryz.func325 (by kernel_rfl) (by kernel_rfl) (by kernel_rfl) (by kernel_rfl) (k := .u32) (y := 1) hc' hz'
  go_enter_d Tryz.func323, Tryz.ntmps323
  go_wp2
  go_region_calls
  all_goals (go_end0; exact ⟨rfl, rfl⟩)

set_option maxRecDepth 100000 in
set_option maxHeartbeats 1000000 in
/-- (*sync.Mutex).Unlock, deferred, the lock held and nobody waiting. -/
theorem unlock_deferred (a : Addr) (u : FrameMode) (w : World) (hc : w.cell? a = some (.int .i32 1)) (hz : w.frozen? a = false) :
    CallsD Tryz.prog 58 #[.pointer (some a)] u w fun e u' w' => u' = u ∧ (e = .returned (.tuple #[]) ∧ w' = w.setCell a (.int .i32 0)) := by
  have hd := race_disable
  have he := race_enable
  have hr := race_release
  have hadd := run_call_add (P := Tryz.prog) Tryz.func176 (by kernel_rfl) (by kernel_rfl) (by kernel_rfl) .i32 (by kernel_rfl) (y := -1) (s := 0) hc hz (by simp [go_sem]; rfl)
  have hcv := run_convert_to_unsafe (P := Tryz.prog) (src := 292) (dst := 244) Tryz.underlying292 Tryz.underlying244 (by kernel_rfl) hc
  go_enter_d Tryz.func58, Tryz.ntmps58
  go_wp2
  go_end0
  go_wp2
  go_end0
  exact ⟨rfl, rfl⟩

set_option maxRecDepth 100000 in
set_option maxHeartbeats 1000000 in
/-- (*sync.Mutex).Lock, the lock free. -/
theorem lock_free (a : Addr) (w : World) (hc : w.cell? a = some (.int .i32 0)) (hz : w.frozen? a = false) :
    Calls Tryz.prog 57 #[.pointer (some a)] w fun e w' => e = .returned (.tuple #[]) ∧ w' = w.setCell a (.int .i32 1) := by
  have hd := race_disable
  have he := race_enable
  have ha := race_acquire
  have hcas := run_call_cas_hit (P := Tryz.prog) Tryz.func171 (by kernel_rfl) (by kernel_rfl) (by kernel_rfl) .i32 (by kernel_rfl) (y := 1) hc hz
  have hc' : (w.setCell a (.int .i32 1)).cell? a = some (.int .i32 1) := World.cell?_setCell_same w a _ hc
  have hcv := run_convert_to_unsafe (P := Tryz.prog) (src := 292) (dst := 244) Tryz.underlying292 Tryz.underlying244 (by kernel_rfl) hc'
  go_enter Tryz.func57, Tryz.ntmps57
  go_wp2
  first | go_end0 | (simp only [Exit.inBlock, Exit.then]; refine bodyPost_ret (results_none rfl _ _ _) rfl ?_) | refine bodyPost_ret (results_none rfl _ _ _) rfl ?_
  go_wp2
  go_end0
  exact ⟨rfl, rfl⟩
end Go.Proofs.YtapijhhmjjplmaaGreatDoor
namespace Go.Proofs.YtapijhhmjjplmaaGreatDoor
open Go.RowKit

set_option maxRecDepth 100000 in
set_option maxHeartbeats 1600000 in
theorem slow_any (b : Nat) (pl : Addr) (ws : List Nat) (w : World) (hp : w.cell? pl = some (.pointer (some ⟨b, 0, none⟩))) (hpb : pl.block ≠ b) (hw : ws.length = 16) (ht : TabAt w b 0 0 ws) :
    Calls Tryz.prog 313 #[.pointer (some ⟨b, 0, none⟩), .func (.func 294) #[] #[.pointer (some pl)]] w fun e w' => e = .returned (.tuple #[]) ∧ TabAt w' b 1 0 tabN ∧ Same (· = b) w w' := by
  have ht1 := ht.set1 1
  have hs1 : Same (· = b) w (w.setCell ⟨b, 1, none⟩ (.int .i32 1)) := Same.setCell (S := (· = b)) (Same.refl _ w) ⟨b, 1, none⟩ rfl _
  have hp1 := hs1.cell hpb hp
  have HT1 : Hid (TabAt (w.setCell ⟨b, 1, none⟩ (.int .i32 1)) b 0 1 ws) := ht1
  have HS1 : Hid (Same (· = b) w (w.setCell ⟨b, 1, none⟩ (.int .i32 1))) := hs1
  have HP1 : Hid ((w.setCell ⟨b, 1, none⟩ (.int .i32 1)).cell? pl = some (.pointer (some ⟨b, 0, none⟩))) := hp1
  have c1 := ht.c1
  have f1 := ht.frozen 1
  have hl := run_call_load (P := Tryz.prog) Tryz.func322 (by kernel_rfl) (by kernel_rfl) (by kernel_rfl) .u32 (by kernel_rfl) (w := w.setCell ⟨b, 1, none⟩ (.int .i32 1)) (a := ⟨b, 0, none⟩) (x := 0) ht1.c0
  have hnot : ∀ (x : Bool) (w : World), (Op.unary .not (.bool x)).run Tryz.prog w = .ok (.bool (!x)) w := fun _ _ => rfl
  clear ht1 hs1 hp1 ht hp
  go_enter_defers Tryz.func313, Tryz.ntmps313
  go_wp2_with (first | (go_at_call 57; refine (lock_free ⟨b, 1, none⟩ _ c1 f1).mono ?_; rintro e w' ⟨rfl, rfl⟩) | (go_at_call 294; refine (word1_any b pl 0 1 ws _ HP1.out hpb hw HT1.out).mono ?_; rintro e w2 ⟨rfl, h2, s2⟩) | (go_at_call 312; go_in))
  have HS2 : Hid (Same (· = b) w w2) := HS1.out.trans s2
  refine leaves_cons (f := 323) (args := #[.pointer (some ⟨b, 0, none⟩), .bool true]) (by simp) (by simp [go_sem]) ?_
  refine (store_deferred ⟨b, 0, none⟩ (.int .u32 0) .returning _ h2.c0 (h2.frozen 0)).mono ?_
  rintro e u' w3 ⟨rfl, rfl, hw3⟩
  have h3 : TabAt w3 b 1 1 tabN := by rw [hw3]; exact TabAt.set0 (w := w2.drew) h2 1
  have s3 : Same (· = b) w w3 := by rw [hw3]; exact Same.setCell (S := (· = b)) HS2.out.drew ⟨b, 0, none⟩ rfl _
  refine leaves_cons (f := 58) (args := #[.pointer (some ⟨b, 1, none⟩)]) (by simp [settle]) (by simp [go_sem]) ?_
  refine (unlock_deferred ⟨b, 1, none⟩ _ _ h3.c1 (h3.frozen 1)).mono ?_
  rintro e u' w4 ⟨rfl, rfl, hw4⟩
  have h4 : TabAt w4 b 1 0 tabN := by rw [hw4]; exact h3.set1 0
  have s4 : Same (· = b) w w4 := by rw [hw4]; exact Same.setCell (S := (· = b)) s3 ⟨b, 1, none⟩ rfl _
  simp [Leaves, settle, results, Tryz.results313]
  exact ⟨h4, s4⟩

set_option maxRecDepth 100000 in
set_option maxHeartbeats 1600000 in
theorem do_first (b : Nat) (pl : Addr) (ws : List Nat) (w : World) (hp : w.cell? pl = some (.pointer (some ⟨b, 0, none⟩))) (hpb : pl.block ≠ b) (hw : ws.length = 16) (ht : TabAt w b 0 0 ws) :
    Calls Tryz.prog 293 #[.pointer (some ⟨b, 0, none⟩), .func (.func 294) #[] #[.pointer (some pl)]] w fun e w' => e = .returned (.tuple #[]) ∧ TabAt w' b 1 0 tabN ∧ Same (· = b) w w' := by
  have hl := run_call_load (P := Tryz.prog) Tryz.func322 (by kernel_rfl) (by kernel_rfl) (by kernel_rfl) .u32 (by kernel_rfl) (w := w) (a := ⟨b, 0, none⟩) (x := 0) ht.c0
  have hnot : ∀ (x : Bool) (w : World), (Op.unary .not (.bool x)).run Tryz.prog w = .ok (.bool (!x)) w := fun _ _ => rfl
  have HP : Hid (w.cell? pl = some (.pointer (some ⟨b, 0, none⟩))) := hp
  have HT : Hid (TabAt w b 0 0 ws) := ht
  clear hp ht
  go_enter Tryz.func293, Tryz.ntmps293
  go_wp2_with (first | (go_at_call 313; refine (slow_any b pl ws _ HP.out hpb hw HT.out).mono ?_; rintro e w' ⟨rfl, h2, s2⟩) | (go_at_call 312; go_in))
  go_end0
  exact ⟨rfl, h2, s2⟩

set_option maxRecDepth 100000 in
theorem do_done (b : Nat) (m : Int) (fv : Value) (ws : List Nat) (w : World) (ht : TabAt w b 1 m ws) :
    Calls Tryz.prog 293 #[.pointer (some ⟨b, 0, none⟩), fv] w fun e w' => e = .returned (.tuple #[]) ∧ w = w' := by
  have hl := run_call_load (P := Tryz.prog) Tryz.func322 (by kernel_rfl) (by kernel_rfl) (by kernel_rfl) .u32 (by kernel_rfl) (w := w) (a := ⟨b, 0, none⟩) (x := 1) ht.c0
  have hnot : ∀ (x : Bool) (w : World), (Op.unary .not (.bool x)).run Tryz.prog w = .ok (.bool (!x)) w := fun _ _ => rfl
  clear ht
  go_enter Tryz.func293, Tryz.ntmps293
  go_wp2
  go_end0
  exact ⟨rfl, rfl⟩

def zeros16 : List Nat := List.replicate 16 0
/-- A table, fresh or made. -/
def TabOk (w : World) (b : Nat) : Prop := TabAt w b 0 0 zeros16 ∨ TabAt w b 1 0 tabN
theorem TabOk.lt {w : World} {b : Nat} (h : TabOk w b) : b < w.heap.size := h.elim TabAt.lt TabAt.lt

set_option maxRecDepth 100000 in
set_option maxHeartbeats 1600000 in
theorem word_any (b x : Nat) (w : World) (ht : TabOk w b) (hx : x < 16) :
    Calls Tryz.prog 279 #[.pointer (some ⟨b, 0, none⟩), .int .u32 (x : Int)] w fun e w' => e = .returned (.int .u32 (tabN.getD x 0 : Int)) ∧ TabOk w' b ∧ Same (· = b) w w' := by
  have hmf : ∀ (fn : Fn) (first cap : Array Value) (w : World), (Instr.makeFunc fn first cap).run Tryz.prog w = .ok (.func fn first cap) w := fun _ _ _ _ => rfl
  have hlt := ht.lt
  obtain ⟨w1, hw1⟩ : ∃ w1, w1 = w.alloc (.cells #[.pointer (some ⟨b, 0, none⟩)] 174) := ⟨_, rfl⟩
  have p1 : w1.cell? ⟨w.heap.size, 0, none⟩ = some (.pointer (some ⟨b, 0, none⟩)) := by rw [hw1]; simp
  have s1 : Same (· = b) w w1 := by rw [hw1]; exact (Same.refl _ _).alloc _
  have HX : Hid (∀ w' : World, TabAt w' b 1 0 tabN → w'.cell? ⟨b, 3 + x, none⟩ = some (.int .u32 (tabN.getD x 0 : Int))) := fun w' h => by
    rw [h.word x (by rw [tabN_length]; exact hx), get_getD]
  obtain ⟨y, hy⟩ : ∃ y, y = tabN.getD x 0 := ⟨_, rfl⟩
  rw [← hy] at HX ⊢
  clear hy
  rcases ht with ht | ht
  · have HT : Hid (TabAt w1 b 0 0 zeros16) := by rw [hw1]; exact ht.alloc _
    have HP : Hid (w1.cell? ⟨w.heap.size, 0, none⟩ = some (.pointer (some ⟨b, 0, none⟩))) := p1
    have HS : Hid (Same (· = b) w w1) := s1
    have HD : Hid (Calls Tryz.prog 293 #[.pointer (some ⟨b, 0, none⟩), .func (.func 294) #[] #[.pointer (some ⟨w.heap.size, 0, none⟩)]] w1 fun e w' => e = .returned (.tuple #[]) ∧ w'.cell? ⟨w.heap.size, 0, none⟩ = some (.pointer (some ⟨b, 0, none⟩)) ∧ w'.cell? ⟨b, 3 + x, none⟩ = some (.int .u32 (y : Int)) ∧ Hid (TabAt w' b 1 0 tabN) ∧ Hid (Same (· = b) w w')) := by
      refine (do_first b ⟨w.heap.size, 0, none⟩ zeros16 w1 HP.out (by simp; omega) rfl HT.out).mono ?_
      rintro e w2 ⟨rfl, h2, s2⟩
      exact ⟨rfl, s2.cell (by simp; omega) HP.out, HX.out _ h2, h2, HS.out.trans s2⟩
    rw [hw1] at HD
    clear ht p1 s1 HT HP HS hw1 HX w1
    go_enter Tryz.func279, Tryz.ntmps279
    go_wp2_with (go_at_call 293; refine HD.out.mono ?_; rintro e w2 ⟨rfl, p2, c2, H2, S2⟩)
    go_ret
    exact ⟨rfl, .inr H2.out, S2.out⟩
  · have HT : Hid (TabAt w1 b 1 0 tabN) := by rw [hw1]; exact ht.alloc _
    have HS : Hid (Same (· = b) w w1) := s1
    have HD : Hid (∀ fv, Calls Tryz.prog 293 #[.pointer (some ⟨b, 0, none⟩), fv] w1 fun e w' => e = .returned (.tuple #[]) ∧ w'.cell? ⟨w.heap.size, 0, none⟩ = some (.pointer (some ⟨b, 0, none⟩)) ∧ w'.cell? ⟨b, 3 + x, none⟩ = some (.int .u32 (y : Int)) ∧ Hid (TabAt w' b 1 0 tabN) ∧ Hid (Same (· = b) w w')) := fun fv => by
      refine (do_done b 0 fv tabN w1 HT.out).mono ?_
      rintro e w2 ⟨rfl, rfl⟩
      exact ⟨rfl, p1, HX.out _ HT.out, HT, HS⟩
    rw [hw1] at HD
    clear ht p1 s1 HT HS hw1 HX w1
    go_enter Tryz.func279, Tryz.ntmps279
    go_wp2_with (go_at_call 293; refine (HD.out _).mono ?_; rintro e w2 ⟨rfl, p2, c2, H2, S2⟩)
    go_ret
    exact ⟨rfl, .inr H2.out, S2.out⟩
end Go.Proofs.YtapijhhmjjplmaaGreatDoor
namespace Go.Proofs.YtapijhhmjjplmaaGreatDoor
open Go.RowKit

theorem u32_and_15 (z : Nat) (h : (z : Int) ≤ 4294967295) : bits .and .u32 (z : Int) 15 = ((z % 16 : Nat) : Int) := by
  have h1 := u32_and_nat z 15 (by omega) (by omega)
  have h2 : z &&& 15 = z % 16 := Nat.and_two_pow_sub_one_eq_mod z 4
  rw [h2] at h1
  exact h1
theorem tabN_lt (i : Nat) : tabN.getD i 0 < w32 := getD_lt (by unfold w32; decide +kernel) (by decide) i

set_option maxRecDepth 100000 in
set_option maxHeartbeats 1600000 in
theorem tabCrc (b : Nat) (s : ByteArray) (w : World) (ht : TabOk w b) (hs : s.size ≤ 140737488351232) :
    Calls Tryz.prog 238 #[.pointer (some ⟨b, 0, none⟩), .string s] w fun e w' => e = .returned (.int .u32 (crcN s.data.toList : Int)) ∧ Same (· = b) w w' := by
  have hsi : (s.size : Int) ≤ 140737488351232 := by omega
  have HT : Hid (TabOk w b) := ht
  clear ht
  go_enter Tryz.func238, Tryz.ntmps238
  go_wp2
  go_loopw [5, 9] (fun r i wr => ∃ k q : Nat, k ≤ s.size ∧ i = .int .i64 k ∧ r = .int .u32 (q : Int) ∧ (q : Int) ≤ 4294967295 ∧ Hid (q = crcTo (s.data.toList.take k) 4294967295) ∧ Hid (TabOk wr b) ∧ Hid (Same (· = b) w wr)) (fun _ i _ => s.size - (intOf i).toNat)
  case atStart => exact ⟨0, 4294967295, Nat.zero_le _, rfl, rfl, by omega, rfl, HT, Same.refl _ _⟩
  case round =>
    clear HT
    obtain ⟨k, q, hk, rfl, rfl, hq, Hq, HT, HS⟩ := hrel
    by_cases hlt : k < s.size
    · obtain ⟨c, hc⟩ : ∃ c, c = s[k] := ⟨_, rfl⟩
      have hcb : c.toNat < 256 := c.toNat_lt
      have hqw : q < w32 := by unfold w32; omega
      obtain ⟨y, hy⟩ : ∃ y, y = q ^^^ c.toNat := ⟨_, rfl⟩
      have hyw : y < w32 := by rw [hy]; exact xor_w32 hqw (byte_w32 c)
      have hxor : bits .xor .u32 (q : Int) ((c.toNat : Int) % 4294967296) = (y : Int) := by rw [hy, Int.emod_eq_of_lt (by omega) (by omega)]; exact u32_xor_nat q c.toNat (by omega) (by omega)
      rw [hc] at hxor
      have hyi : (y : Int) ≤ 4294967295 := by unfold w32 at hyw; omega
      obtain ⟨r1, hr1⟩ : ∃ r, r = y % 16 := ⟨_, rfl⟩
      have hand1 := u32_and_15 y hyi
      rw [← hr1] at hand1
      have lr1 : r1 < 16 := by omega
      obtain ⟨t1, ht1⟩ : ∃ t, t = tabN.getD r1 0 := ⟨_, rfl⟩
      have lt1 : t1 < w32 := by rw [ht1]; exact tabN_lt _
      obtain ⟨z, hz⟩ : ∃ z, z = (y / 16) ^^^ t1 := ⟨_, rfl⟩
      have hzw : z < w32 := by rw [hz]; exact xor_w32 (by unfold w32 at *; omega) lt1
      have hxz : bits .xor .u32 ((y : Int) / 16) (t1 : Int) = (z : Int) := by
        have h := u32_xor_nat (y / 16) t1 (by omega) (by unfold w32 at lt1; omega)
        rw [hz, ← h]
        rfl
      have hzi : (z : Int) ≤ 4294967295 := by unfold w32 at hzw; omega
      obtain ⟨r2, hr2⟩ : ∃ r, r = z % 16 := ⟨_, rfl⟩
      have hand2 := u32_and_15 z hzi
      rw [← hr2] at hand2
      have lr2 : r2 < 16 := by omega
      obtain ⟨t2, ht2⟩ : ∃ t, t = tabN.getD r2 0 := ⟨_, rfl⟩
      have lt2 : t2 < w32 := by rw [ht2]; exact tabN_lt _
      obtain ⟨v, hv⟩ : ∃ v, v = (z / 16) ^^^ t2 := ⟨_, rfl⟩
      have hvw : v < w32 := by rw [hv]; exact xor_w32 (by unfold w32 at *; omega) lt2
      have hxv : bits .xor .u32 ((z : Int) / 16) (t2 : Int) = (v : Int) := by
        have h := u32_xor_nat (z / 16) t2 (by omega) (by unfold w32 at lt2; omega)
        rw [hv, ← h]
        rfl
      have hvi : (v : Int) ≤ 4294967295 := by unfold w32 at hvw; omega
      have HQ : Hid (v = crcTo (s.data.toList.take (k + 1)) 4294967295) := by
        show _ = _
        rw [take_snoc s k hlt, crcTo_snoc, ← Hq.out, ← hc, ← hy, crcSteps_eight, ← hr1, ← ht1, ← hz, ← hr2, ← ht2, ← hv]
      have HT1 : Hid (t1 = tabN.getD r1 0) := ht1
      have HT2 : Hid (t2 = tabN.getD r2 0) := ht2
      clear hc hy hyw hqw hr1 ht1 hz hzw hr2 ht2 hv hvw lt1 lt2 hcb Hq
      go_wp2_with fail
      refine (word_any b r1 _ HT.out lr1).mono ?_
      rintro e w2 ⟨rfl, h2, s2⟩
      rw [← HT1.out]
      have HT3 : Hid (TabOk w2 b) := h2
      have HS3 : Hid (Same (· = b) w w2) := HS.out.trans s2
      clear h2 s2 HT HS
      go_wp2_with fail
      refine (word_any b r2 _ HT3.out lr2).mono ?_
      rintro e w3 ⟨rfl, h3, s3⟩
      rw [← HT2.out]
      have HT4 : Hid (TabOk w3 b) := h3
      have HS4 : Hid (Same (· = b) w w3) := HS3.out.trans s3
      clear h3 s3 HT3 HS3
      go_wp2
      go_roundw
      case rel => exact ⟨k + 1, v, by omega, by go_num, rfl, hvi, HQ, HT4, HS4⟩
      case measure => (simp [intOf]; try omega)
    · have hnq := u32_not q (by omega)
      go_wp2
      go_ret
      have : s.data.toList.take k = s.data.toList := List.take_of_length_le (by simp; omega)
      have h := Hq.out
      rw [this] at h
      refine ⟨?_, HS.out⟩
      unfold crcN
      rw [← h]
      have e : ((4294967295 - q : Nat) : Int) = 4294967295 - (q : Int) := by omega
      rw [e]
      rfl

set_option maxRecDepth 100000 in
theorem sumsCrc (s : ByteArray) (w : World) (hs : s.size ≤ 140737488351232) :
    Calls Tryz.prog 185 #[.string s] w fun e w' => e = .returned (.int .u32 (crcN s.data.toList : Int)) ∧ Below w.heap.size w w' := by
  have HT : Hid (TabOk (w.alloc (.cells (tabRow 0 0 zeros16).toArray 127)) w.heap.size) := .inl (heap_alloc_new w _)
  obtain ⟨c, hc⟩ : ∃ c, c = crcN s.data.toList := ⟨_, rfl⟩
  have HD : Hid (Calls Tryz.prog 238 #[.pointer (some ⟨w.heap.size, 0, none⟩), .string s] (w.alloc (.cells (tabRow 0 0 zeros16).toArray 127)) fun e w' => e = .returned (.int .u32 (c : Int)) ∧ Hid (Below w.heap.size w w')) := by
    refine (tabCrc w.heap.size s _ HT.out hs).mono ?_
    rintro e w2 ⟨rfl, s2⟩
    refine ⟨by rw [hc], ?_⟩
    exact ((Below.refl _ _).alloc (Nat.le_refl _) _).trans (s2.below (B := w.heap.size) (by rintro k rfl; omega) (by simp))
  rw [← hc]
  clear hc HT
  go_enter Tryz.func185, Tryz.ntmps185
  go_wp2_with fail
  refine HD.out.mono ?_
  rintro e w2 ⟨rfl, HB⟩
  go_wp2
  go_ret
  exact ⟨rfl, HB.out⟩

theorem plainCrc (s : ByteArray) (w : World) (hs : s.size ≤ 140737488351232) :
    Calls Tryz.prog 67 #[.string s] w fun e w' => e = .returned (.int .i64 (crcN s.data.toList : Int)) ∧ Below w.heap.size w w' := by
  have hl : crcN s.data.toList < w32 := by unfold crcN w32; omega
  obtain ⟨c, hc⟩ : ∃ c, c = crcN s.data.toList := ⟨_, rfl⟩
  have HD : Hid (Calls Tryz.prog 185 #[.string s] w fun e w' => e = .returned (.int .u32 (c : Int)) ∧ Hid (Below w.heap.size w w')) := by
    rw [hc]; exact sumsCrc s w hs
  rw [← hc] at hl ⊢
  have hci : (c : Int) ≤ 4294967295 := by unfold w32 at hl; omega
  clear hc hl
  go_enter Tryz.func67, Tryz.ntmps67
  go_wp2_with (first | (go_at_call 185; refine HD.out.mono ?_; rintro e w2 ⟨rfl, HB⟩) | (go_at_call 110; go_in))
  go_ret
  exact ⟨rfl, HB.out⟩
end Go.Proofs.YtapijhhmjjplmaaGreatDoor
namespace Go.Proofs.YtapijhhmjjplmaaGreatDoor
open Go.RowKit

set_option maxRecDepth 100000 in
set_option maxHeartbeats 1000000 in
theorem refCrc (s : ByteArray) (w : World) (hs : s.size ≤ 140737488351232) :
    Calls Tryz.prog 68 #[.string s] w fun e w' => e = .returned (.int .i64 (crcN s.data.toList : Int)) ∧ w = w' := by
  have hsi : (s.size : Int) ≤ 140737488351232 := by omega
  go_enter Tryz.func68, Tryz.ntmps68
  go_wp2
  go_loop [3, 4] (fun r i => ∃ k q : Nat, k ≤ s.size ∧ i = .int .i64 k ∧ r = .int .i64 (q : Int) ∧ (q : Int) ≤ 4294967295 ∧ Hid (q = crcTo (s.data.toList.take k) 4294967295)) (fun _ i => s.size - (intOf i).toNat)
  case atStart => exact ⟨0, 4294967295, Nat.zero_le _, rfl, rfl, by omega, rfl⟩
  case round =>
    obtain ⟨k, q, hk, rfl, rfl, hq, Hq⟩ := hrel
    by_cases hlt : k < s.size
    · obtain ⟨c, hc⟩ : ∃ c, c = s[k] := ⟨_, rfl⟩
      have hcb : c.toNat < 256 := c.toNat_lt
      have hqw : q < w32 := by unfold w32; omega
      obtain ⟨y, hy⟩ : ∃ y, y = q ^^^ c.toNat := ⟨_, rfl⟩
      have hyw : y < w32 := by rw [hy]; exact xor_w32 hqw (byte_w32 c)
      have hxor : bits .xor .i64 (q : Int) (wrap64 (c.toNat : Int)) = (y : Int) := by rw [hy, Go.IntWalk.wrap64_in _ (by omega)]; exact i64_xor_nat q c.toNat (by omega) (by omega)
      have hyi : (y : Int) ≤ 4294967295 := by unfold w32 at hyw; omega
      have HY : Hid (y = q ^^^ c.toNat) := hy
      have HCC : Hid (c = s[k]) := hc
      rw [hc] at hxor
      have HQ8 : Hid (crcTo (s.data.toList.take (k + 1)) 4294967295 = crcSteps 8 y) := by
        show _ = _
        rw [take_snoc s k hlt, crcTo_snoc, ← Hq.out, ← HCC.out, ← HY.out]
      clear hy hc hqw hyw HY HCC
      go_wp2
      clear hxor
      go_loop [3, 5] (fun r j => ∃ m z : Nat, m ≤ 8 ∧ j = .int .i64 ((8 : Int) - m) ∧ r = .int .i64 (z : Int) ∧ (z : Int) ≤ 4294967295 ∧ Hid (crcSteps m z = crcSteps 8 y)) (fun _ j => 8 - (intOf j).toNat)
      case atStart => exact ⟨8, y, by omega, rfl, rfl, hyi, rfl⟩
      case round =>
        obtain ⟨m, z, hm, rfl, rfl, hz, Hz⟩ := hrel
        by_cases hm0 : 0 < m
        · obtain ⟨m, rfl⟩ : ∃ m', m = m' + 1 := ⟨m - 1, by omega⟩
          have hzw : z < w32 := by unfold w32; omega
          by_cases hodd : z % 2 = 1
          · have hb1 : (((z : Int) % 2) == 1) = true := by rw [beq_iff_eq]; omega
            obtain ⟨u, hu⟩ : ∃ u, u = (z / 2) ^^^ 3988292384 := ⟨_, rfl⟩
            have hxor : bits .xor .i64 ((z : Int) / 2) 3988292384 = (u : Int) := by
              have h := i64_xor_nat (z / 2) 3988292384 (by omega) (by omega)
              rw [hu, ← h]
              rfl
            have hcs : crcStep z = u := by unfold crcStep; rw [if_pos hodd, hu]
            have huw : u < w32 := by rw [← hcs]; exact crcStep_lt z hzw
            have hui : (u : Int) ≤ 4294967295 := by unfold w32 at huw; omega
            have HU : Hid (crcSteps m u = crcSteps 8 y) := by
              show _ = _
              rw [← Hz.out, ← hcs]; rfl
            clear hcs huw hu hzw hodd
            go_wp2
            go_round
            case rel => exact ⟨m, u, by omega, by go_num, rfl, hui, HU⟩
            case measure => (simp [intOf]; try omega)
          · have hb1 : (((z : Int) % 2) == 1) = false := by rw [beq_eq_false_iff_ne]; omega
            have hcs : crcStep z = z / 2 := by unfold crcStep; rw [if_neg hodd]
            have HU : Hid (crcSteps m (z / 2) = crcSteps 8 y) := by
              show _ = _
              rw [← Hz.out, ← hcs]; rfl
            clear hcs hzw hodd
            go_wp2
            go_round
            case rel => exact ⟨m, z / 2, by omega, by go_num, by go_num, by omega, HU⟩
            case measure => (simp [intOf]; try omega)
        · have hm1 : m = 0 := by omega
          subst hm1
          go_wp2
          go_round
          case rel =>
            refine ⟨k + 1, z, by omega, by go_num, rfl, hz, ?_⟩
            show _ = _
            rw [HQ8.out, ← Hz.out]; rfl
          case measure => (simp [intOf]; try omega)
    · go_wp2
      go_ret
      have : s.data.toList.take k = s.data.toList := List.take_of_length_le (by simp; omega)
      have h := Hq.out
      rw [this] at h
      refine ⟨?_, rfl⟩
      unfold crcN
      rw [← h]
      have e : ((4294967295 - q : Nat) : Int) = 4294967295 - (q : Int) := by omega
      rw [e]
      rfl
end Go.Proofs.YtapijhhmjjplmaaGreatDoor
namespace Go.Proofs.YtapijhhmjjplmaaGreatDoor
open Go.RowKit

theorem turn_val (x n : Nat) (hx : x < 4294967296) (hp : x * 2 ^ (32 - n) < 4611686018427387904) : (bits .or .i64 ((x : Int) / 2 ^ n) (wrap64 ((x : Int) * 2 ^ (32 - n)))).tmod 4294967296 = (rotN x n : Int) := by
  have e1 : (x : Int) / 2 ^ n = ((x / 2 ^ n : Nat) : Int) := by rw [Int.natCast_ediv, Int.natCast_pow]; rfl
  have e2 : (x : Int) * 2 ^ (32 - n) = ((x * 2 ^ (32 - n) : Nat) : Int) := by rw [Int.natCast_mul, Int.natCast_pow]; rfl
  have hd : x / 2 ^ n ≤ x := Nat.div_le_self _ _
  rw [e1, e2, Go.IntWalk.wrap64_in _ (by omega), i64_or_nat _ _ (by omega) (by omega)]
  unfold rotN
  rw [Int.natCast_emod]
  exact Int.tmod_eq_emod_of_nonneg (Int.natCast_nonneg _)

set_option maxRecDepth 100000 in
theorem turn_any (x n : Nat) (w : World) (hx : (x : Int) ≤ 4294967295) (h1 : 2 ≤ n) (h2 : n ≤ 30) :
    Calls Tryz.prog 184 #[.int .i64 (x : Int), .int .i64 (n : Int)] w fun e w' => e = .returned (.int .i64 (rotN x n : Int)) ∧ w = w' := by
  have hp : x * 2 ^ (32 - n) < 4611686018427387904 := by
    have h3 : 2 ^ (32 - n) ≤ 2 ^ 30 := Nat.pow_le_pow_right (by decide) (by omega)
    have h4 : x * 2 ^ (32 - n) ≤ 4294967295 * 2 ^ 30 := Nat.mul_le_mul (by omega) h3
    omega
  have hv := turn_val x n (by omega) hp
  clear hp
  go_enter Tryz.func184, Tryz.ntmps184
  go_wp2
  go_ret
  exact ⟨rfl, rfl⟩
end Go.Proofs.YtapijhhmjjplmaaGreatDoor
namespace Go.Proofs.YtapijhhmjjplmaaGreatDoor
open Go.RowKit

theorem cell_lt' {w : World} {p : Addr} {v : Value} (h : w.cell? p = some v) : p.block < w.heap.size := by
  rcases Nat.lt_or_ge p.block w.heap.size with h' | h'
  · exact h'
  · simp [World.cell?, Array.getElem?_eq_none h'] at h

/-- Bytes at an address. -/
def BytesAt (w : World) (bp op : Nat) (p : List Nat) : Prop := ∀ j (h : j < p.length), w.cell? ⟨bp, op + j, none⟩ = some (.int .u8 (p[j] : Int))

set_option maxRecDepth 100000 in
set_option maxHeartbeats 4000000 in
theorem block_any (bm gk ck bh ch bp op cp : Nat) (ks h p : List Nat) (w : World)
    (hm0 : w.cell? ⟨bm, 0, none⟩ = some (.slice (some ⟨gk, 0, none⟩) 64 ck)) (hk : Row w gk (ints ks)) (hkl : ks.length = 64) (hkw : ∀ d ∈ ks, d < w32)
    (hh : Row w bh (ints h)) (hhl : h.length = 8) (hhw : ∀ d ∈ h, d < w32) (hp : BytesAt w bp op p) (hpl : p.length = 64) (hpb : ∀ d ∈ p, d < 256) (hbp : bp < w.heap.size) :
    Calls Tryz.prog 108 #[.pointer (some ⟨bm, 0, none⟩), .slice (some ⟨bh, 0, none⟩) 8 ch, .slice (some ⟨bp, op, none⟩) 64 cp] w fun e w' =>
      e = .returned (.tuple #[]) ∧ Row w' bh (ints (mixN ks h p)) ∧ w.heap.size ≤ w'.heap.size ∧ (∀ b, b < w.heap.size → b ≠ bh → w'.heap[b]? = w.heap[b]?) ∧ w'.os = w.os ∧ w'.tape = w.tape ∧ w'.output = w.output := by
  have hmk : ∀ w, (Instr.makeSlice 34 (.int .i64 64) (.int .i64 64)).run Tryz.prog w = .ok (.slice (some ⟨w.heap.size, 0, none⟩) 64 64) (w.alloc (.cells (madeCells #[.int .i64 0] 64) 3)) := fun w =>
    run_make_row' (P := Tryz.prog) 34 3 (.int .i64 0) 8 Tryz.underlying34 infoInt rfl .i64 .i64 64 (by omega) (by omega) w
  go_enter Tryz.func108, Tryz.ntmps108
  go_wp2
  clear hmk
  go_loopw [7] (fun iv_ wr => ∃ i : Nat, i ≤ 16 ∧ iv_ = .int .i64 i ∧ Hid (Row wr w.heap.size (ints (fill (schedTo p i) 64))) ∧ Hid (Below w.heap.size w wr)) (fun i _ => 16 - (intOf i).toNat)
  case atStart => exact ⟨0, by omega, rfl, row_made w 64 _, (Below.refl _ _).alloc (Nat.le_refl _) _⟩
  case round =>
    obtain ⟨i, hi, rfl, HR, HB⟩ := hrel
    by_cases hlt : i < 16
    · obtain ⟨b0, e0⟩ : ∃ b, b = p.getD (4 * i) 0 := ⟨_, rfl⟩
      obtain ⟨b1, e1⟩ : ∃ b, b = p.getD (4 * i + 1) 0 := ⟨_, rfl⟩
      obtain ⟨b2, e2⟩ : ∃ b, b = p.getD (4 * i + 2) 0 := ⟨_, rfl⟩
      obtain ⟨b3, e3⟩ : ∃ b, b = p.getD (4 * i + 3) 0 := ⟨_, rfl⟩
      have q0 : b0 < 256 := by rw [e0]; exact getD_lt hpb (by omega) _
      have q1 : b1 < 256 := by rw [e1]; exact getD_lt hpb (by omega) _
      have q2 : b2 < 256 := by rw [e2]; exact getD_lt hpb (by omega) _
      have q3 : b3 < 256 := by rw [e3]; exact getD_lt hpb (by omega) _
      have cp0 : ∀ j, j < 64 → wr.cell? ⟨bp, op + j, none⟩ = some (.int .u8 (p.getD j 0 : Int)) := fun j hj => by
        rw [HB.out.cell (by exact hbp), hp j (by omega), List.getD_eq_getElem?_getD, List.getElem?_eq_getElem (by omega)]
        rfl
      have c0 : wr.cell? ⟨bp, op + 4 * i, none⟩ = some (.int .u8 (b0 : Int)) := by rw [e0]; exact cp0 _ (by omega)
      have c1 : wr.cell? ⟨bp, op + (4 * i + 1), none⟩ = some (.int .u8 (b1 : Int)) := by rw [e1]; exact cp0 _ (by omega)
      have c2 : wr.cell? ⟨bp, op + (4 * i + 2), none⟩ = some (.int .u8 (b2 : Int)) := by rw [e2]; exact cp0 _ (by omega)
      have c3 : wr.cell? ⟨bp, op + (4 * i + 3), none⟩ = some (.int .u8 (b3 : Int)) := by rw [e3]; exact cp0 _ (by omega)
      have hfl : (fill (schedTo p i) 64).length = 64 := fill_length _ _ (by rw [schedTo_length]; omega)
      obtain ⟨z, cz⟩ : ∃ z : Int, wr.cell? ⟨w.heap.size, i, none⟩ = some (.int .i64 z) := ⟨_, row_at HR.out i (by omega)⟩
      have fz := HR.out.frozen i
      have HE : Hid (wd p i = b0 * 16777216 + b1 * 65536 + b2 * 256 + b3) := by
        show _ = _
        rw [e0, e1, e2, e3]; rfl
      clear e0 e1 e2 e3 cp0
      clear hkw hhw hpb hk hh hp
      go_wp2
      go_region
      go_wp2
      go_roundw
      case rel =>
        have ez : ((wd p i : Nat) : Int) = (b0 : Int) * 16777216 + (b1 : Int) * 65536 + (b2 : Int) * 256 + (b3 : Int) := by rw [HE.out]; omega
        refine ⟨i + 1, by omega, by go_num, ?_, ?_⟩
        · show Row _ _ _
          have h1 := row_set HR.out i (by omega) (wd p i)
          have h2 : (fill (schedTo p i) 64).set i (wd p i) = fill (schedTo p (i + 1)) 64 := by
            have h3 := fill_set (schedTo p i) 64 (wd p i) (by rw [schedTo_length]; omega)
            rw [schedTo_length] at h3
            rw [h3]
            show _ = fill (schedTo p i ++ [nxt (schedTo p i) p i]) 64
            rw [nxt, if_pos hlt]
          rw [h2, ez] at h1
          exact h1
        · exact (HB.out.setCell (p := ⟨w.heap.size, i, none⟩) (Nat.le_refl _) _).drew
      case measure => (simp [intOf]; try omega)
    · have hi16 : i = 16 := by omega
      obtain ⟨i1, hi1⟩ : ∃ i1, i1 = i := ⟨_, rfl⟩
      subst hi1
      have HR1 : Hid (Row wr w.heap.size (ints (fill (schedTo p 16) 64))) := by
        have h := HR.out
        rw [hi16] at h
        exact h
      clear HR hi16
      have HK : Hid (Row w gk (ints ks)) := hk
      have HH : Hid (Row w bh (ints h)) := hh
      have HKW : Hid (∀ d ∈ ks, d < w32) := hkw
      have HHW : Hid (∀ d ∈ h, d < w32) := hhw
      have HPB : Hid (∀ d ∈ p, d < 256) := hpb
      have HM0 : Hid (w.cell? ⟨bm, 0, none⟩ = some (.slice (some ⟨gk, 0, none⟩) 64 ck)) := hm0
      have HKL : Hid (ks.length = 64) := hkl
      have HHL : Hid (h.length = 8) := hhl
      clear hk hh hkw hhw hpb hp hm0 hkl hhl hpl
      go_wp2
      go_loopw [8] (fun iv_ wr => ∃ i : Nat, i ≤ 64 ∧ 16 ≤ i ∧ iv_ = .int .i64 i ∧ Hid (Row wr w.heap.size (ints (fill (schedTo p i) 64))) ∧ Hid (Below w.heap.size w wr)) (fun i _ => 64 - (intOf i).toNat)
      case atStart => exact ⟨16, by omega, by omega, rfl, HR1, HB⟩
      case round =>
        clear HR1 HB hlt
        obtain ⟨i, hi, hi16, rfl, HR, HB⟩ := hrel
        by_cases hlt : i < 64
        · have hfl : (fill (schedTo p i) 64).length = 64 := fill_length _ _ (by rw [schedTo_length]; omega)
          have hsl := schedTo_length p i
          have gat : ∀ j, j < i → wr.cell? ⟨w.heap.size, j, none⟩ = some (.int .i64 ((schedTo p i).getD j 0 : Int)) := fun j hj => by
            rw [row_at HR.out j (by omega), fill_at _ _ _ (by omega) (by omega), List.getD_eq_getElem?_getD, List.getElem?_eq_getElem (by omega)]
            rfl
          have glt : ∀ j, (schedTo p i).getD j 0 < w32 := fun j => getD_lt (schedTo_lt p HPB.out i) (by decide) j
          obtain ⟨x16, e16⟩ : ∃ x, x = (schedTo p i).getD (i - 16) 0 := ⟨_, rfl⟩
          obtain ⟨x15, e15⟩ : ∃ x, x = (schedTo p i).getD (i - 15) 0 := ⟨_, rfl⟩
          obtain ⟨x7, e7⟩ : ∃ x, x = (schedTo p i).getD (i - 7) 0 := ⟨_, rfl⟩
          obtain ⟨x2, e2⟩ : ∃ x, x = (schedTo p i).getD (i - 2) 0 := ⟨_, rfl⟩
          have q16 : (x16 : Int) ≤ 4294967295 := by have := glt (i - 16); rw [← e16] at this; unfold w32 at this; omega
          have q15 : (x15 : Int) ≤ 4294967295 := by have := glt (i - 15); rw [← e15] at this; unfold w32 at this; omega
          have q7 : (x7 : Int) ≤ 4294967295 := by have := glt (i - 7); rw [← e7] at this; unfold w32 at this; omega
          have q2 : (x2 : Int) ≤ 4294967295 := by have := glt (i - 2); rw [← e2] at this; unfold w32 at this; omega
          have c16 : wr.cell? ⟨w.heap.size, i - 16, none⟩ = some (.int .i64 (x16 : Int)) := by rw [e16]; exact gat _ (by omega)
          have c15 : wr.cell? ⟨w.heap.size, i - 15, none⟩ = some (.int .i64 (x15 : Int)) := by rw [e15]; exact gat _ (by omega)
          have c7 : wr.cell? ⟨w.heap.size, i - 7, none⟩ = some (.int .i64 (x7 : Int)) := by rw [e7]; exact gat _ (by omega)
          have c2 : wr.cell? ⟨w.heap.size, i - 2, none⟩ = some (.int .i64 (x2 : Int)) := by rw [e2]; exact gat _ (by omega)
          obtain ⟨z, cz⟩ : ∃ z : Int, wr.cell? ⟨w.heap.size, i, none⟩ = some (.int .i64 z) := ⟨_, row_at HR.out i (by omega)⟩
          have fz := HR.out.frozen i
          have HN : Hid (nxt (schedTo p i) p i = (x16 + x7 + s0 x15 + s1 x2) % 4294967296) := by
            show _ = _
            rw [nxt, if_neg (by omega), ← e16, ← e15, ← e7, ← e2]
          clear e16 e15 e7 e2 gat glt hsl
          go_wp2_with fail
          refine (turn_any x15 7 _ q15 (by omega) (by omega)).mono ?_
          rintro e w' ⟨rfl, rfl⟩
          obtain ⟨a7, ha7⟩ : ∃ a, a = rotN x15 7 := ⟨_, rfl⟩
          rw [← ha7]
          have ba7 : (a7 : Int) ≤ 4294967295 := by have := rotN_lt x15 7; rw [← ha7] at this; unfold w32 at this; omega
          have Ha7 : Hid (a7 = rotN x15 7) := ha7
          clear ha7
          go_wp2_with fail
          refine (turn_any x15 18 _ q15 (by omega) (by omega)).mono ?_
          rintro e w' ⟨rfl, rfl⟩
          obtain ⟨a18, ha18⟩ : ∃ a, a = rotN x15 18 := ⟨_, rfl⟩
          rw [← ha18]
          have ba18 : (a18 : Int) ≤ 4294967295 := by have := rotN_lt x15 18; rw [← ha18] at this; unfold w32 at this; omega
          have Ha18 : Hid (a18 = rotN x15 18) := ha18
          clear ha18
          go_wp2_with fail
          refine (turn_any x2 17 _ q2 (by omega) (by omega)).mono ?_
          rintro e w' ⟨rfl, rfl⟩
          obtain ⟨c17, hc17⟩ : ∃ a, a = rotN x2 17 := ⟨_, rfl⟩
          rw [← hc17]
          have bc17 : (c17 : Int) ≤ 4294967295 := by have := rotN_lt x2 17; rw [← hc17] at this; unfold w32 at this; omega
          have Hc17 : Hid (c17 = rotN x2 17) := hc17
          clear hc17
          go_wp2_with fail
          refine (turn_any x2 19 _ q2 (by omega) (by omega)).mono ?_
          rintro e w' ⟨rfl, rfl⟩
          obtain ⟨c19, hc19⟩ : ∃ a, a = rotN x2 19 := ⟨_, rfl⟩
          rw [← hc19]
          have bc19 : (c19 : Int) ≤ 4294967295 := by have := rotN_lt x2 19; rw [← hc19] at this; unfold w32 at this; omega
          have Hc19 : Hid (c19 = rotN x2 19) := hc19
          clear hc19
          obtain ⟨y1, hy1⟩ : ∃ y, y = a7 ^^^ a18 := ⟨_, rfl⟩
          obtain ⟨y2, hy2⟩ : ∃ y, y = y1 ^^^ (x15 / 8) := ⟨_, rfl⟩
          obtain ⟨z1, hz1⟩ : ∃ y, y = c17 ^^^ c19 := ⟨_, rfl⟩
          obtain ⟨z2, hz2⟩ : ∃ y, y = z1 ^^^ (x2 / 1024) := ⟨_, rfl⟩
          have ly1 : y1 < w32 := by rw [hy1]; exact xor_w32 (by unfold w32; omega) (by unfold w32; omega)
          have ly2 : y2 < w32 := by rw [hy2]; exact xor_w32 ly1 (by unfold w32; omega)
          have lz1 : z1 < w32 := by rw [hz1]; exact xor_w32 (by unfold w32; omega) (by unfold w32; omega)
          have lz2 : z2 < w32 := by rw [hz2]; exact xor_w32 lz1 (by unfold w32; omega)
          unfold w32 at ly1 ly2 lz1 lz2
          have ny1 : bits .xor .i64 (a7 : Int) (a18 : Int) = (y1 : Int) := by rw [hy1]; exact i64_xor_nat _ _ (by omega) (by omega)
          have ny2 : bits .xor .i64 (y1 : Int) ((x15 : Int) / 8) = (y2 : Int) := by rw [hy2, ← i64_xor_nat _ _ (by omega) (by omega)]; rfl
          have nz1 : bits .xor .i64 (c17 : Int) (c19 : Int) = (z1 : Int) := by rw [hz1]; exact i64_xor_nat _ _ (by omega) (by omega)
          have nz2 : bits .xor .i64 (z1 : Int) ((x2 : Int) / 1024) = (z2 : Int) := by rw [hz2, ← i64_xor_nat _ _ (by omega) (by omega)]; rfl
          have uy2 : (y2 : Int) ≤ 4294967295 := by omega
          have uz2 : (z2 : Int) ≤ 4294967295 := by omega
          have HN2 : Hid (nxt (schedTo p i) p i = (x16 + x7 + y2 + z2) % 4294967296) := by
            show _ = _
            rw [HN.out, s0, s1, ← Ha7.out, ← Ha18.out, ← Hc17.out, ← Hc19.out, ← hy1, ← hz1, ← hy2, ← hz2]
          clear hy1 hy2 hz1 hz2 ly1 ly2 lz1 lz2 HN
          go_wp2
          go_region
          go_wp2
          go_roundw
          case rel =>
            have ez : ((nxt (schedTo p i) p i : Nat) : Int) = ((x16 : Int) + (x7 : Int) + (y2 : Int) + (z2 : Int)) % 4294967296 := by rw [HN2.out]; omega
            refine ⟨i + 1, by omega, by omega, by go_num, ?_, ?_⟩
            · show Row _ _ _
              have h1 := row_set HR.out i (by omega) (nxt (schedTo p i) p i)
              have h2 : (fill (schedTo p i) 64).set i (nxt (schedTo p i) p i) = fill (schedTo p (i + 1)) 64 := by
                have h3 := fill_set (schedTo p i) 64 (nxt (schedTo p i) p i) (by rw [schedTo_length]; omega)
                rw [schedTo_length] at h3
                rw [h3]
                rfl
              rw [h2, ez] at h1
              exact h1
            · exact (HB.out.setCell (p := ⟨w.heap.size, i, none⟩) (Nat.le_refl _) _).drew
          case measure => (simp [intOf]; try omega)
        · have hi64 : i = 64 := by omega
          obtain ⟨i2, hi2⟩ : ∃ i2, i2 = i := ⟨_, rfl⟩
          subst hi2
          have HR2 : Hid (Row wr w.heap.size (ints (schedTo p 64))) := by
            have h := HR.out
            rw [hi64] at h
            have e : fill (schedTo p 64) 64 = schedTo p 64 := by unfold fill; rw [schedTo_length]; simp
            rw [e] at h
            exact h
          clear HR hi64
          obtain ⟨i0, hi0, hz0, hz1, hz2⟩ := info_parts infoInt
          have hgk : gk < w.heap.size := HK.out.lt
          have hbhl : bh < w.heap.size := HH.out.lt
          have hbml : bm < w.heap.size := cell_lt' HM0.out
          obtain ⟨wa, hwa⟩ : ∃ wa, wa = wr := ⟨_, rfl⟩
          subst hwa
          have hsza : w.heap.size < wa.heap.size := HR2.out.lt
          have HCH : Hid (∀ j u, (iv h)[j]? = some u → (wa.alloc (.cells #[] 3)).cell? ((⟨bh, 0, none⟩ : Addr).add j) = some u) := by
            intro j u hj
            have hjl : j < h.length := by
              have := (List.getElem?_eq_some_iff.1 hj).1
              rw [iv_length] at this
              exact this
            rw [iv_at h j hjl] at hj
            cases hj
            have ea : (⟨bh, 0, none⟩ : Addr).add j = ⟨bh, j, none⟩ := by
              unfold Addr.add
              split
              · rename_i h0; rw [h0]
              · simp
            rw [ea, World.cell?_alloc_lt _ _ ⟨bh, j, none⟩ (by show bh < _; omega), HB.out.cell (by exact hbhl)]
            exact row_at HH.out j hjl
          have HO0 : Hid ((wa.alloc (.cells #[] 3)).ownsRow wa.heap.size 3 1 (.slice (some ⟨wa.heap.size, 0, none⟩) 0 0) 0 []) :=
            ⟨rfl, .inr ⟨_, 0, #[], rfl, Nat.le_refl _, by show (wa.heap.push _)[wa.heap.size]? = _; rw [Array.getElem?_push_size], Nat.le_refl _, Nat.zero_le _, rfl, rfl⟩⟩
          go_wp2_with (at_builtin; refine wpList_append_own_at _ rfl _ _ 34 rfl wa.heap.size 3 i0 (.int .i64 0) 1 8 Tryz.underlying34 hi0 hz0 hz1 hz2 rfl (by decide) _ _ _ rfl HO0.out ⟨bh, 0, none⟩ 8 ch (iv h) rfl ?a1 HCH.out ?a2 ?a3 ?a4 ?a5 ?_)
          case a1 => rw [iv_length, HHL.out]
          case a2 => intro u hu; unfold iv at hu; obtain ⟨q, _, rfl⟩ := List.mem_map.1 hu; rfl
          case a3 => unfold maxLen; omega
          case a4 => omega
          case a5 => simp
          intro v' wb hown' hgrow _ _
          obtain ⟨gv, cv, rfl, hgv, hrv⟩ := own_row hown' (by omega)
          have HBb : Hid (Below w.heap.size w wb) := (HB.out.alloc (by omega) _).grown hgrow (by simp; omega) (fun k hk => by have : wa.heap.size = k := Option.some.inj hk; omega)
          have hszb : wa.heap.size < wb.heap.size := by have := hgrow.size; simp at this; omega
          have HWb : Hid (Row wb w.heap.size (ints (schedTo p 64))) := (HR2.out.alloc _).of_heap (hgrow.block _ (by simp; omega) (by intro hh; have : w.heap.size = wa.heap.size := Option.some.inj hh; omega))
          have HVb : Hid (Row wb gv (ints h)) := hrv
          have hgvb : gv < wb.heap.size := hrv.lt
          clear hown' hgrow hrv HO0 HCH HR2 HB
          have hlist : ∀ (l : List Nat), l.length = 8 → ∃ v0 v1 v2 v3 v4 v5 v6 v7, l = [v0, v1, v2, v3, v4, v5, v6, v7] := fun l hl => by
            match l, hl with
            | [v0, v1, v2, v3, v4, v5, v6, v7], _ => exact ⟨v0, v1, v2, v3, v4, v5, v6, v7, rfl⟩
          have HL8 : Hid (∀ (l : List Nat), l.length = 8 → ∃ v0 v1 v2 v3 v4 v5 v6 v7, l = [v0, v1, v2, v3, v4, v5, v6, v7]) := hlist
          clear hlist
          go_wp2
          go_loopw [16] (fun iv_ wr => ∃ i : Nat, i ≤ 64 ∧ iv_ = .int .i64 i ∧ Hid (Row wr gv (ints (rnds ks (schedTo p 64) h i))) ∧ Hid (Only gv wb wr)) (fun i _ => 64 - (intOf i).toNat)
          case atStart => exact ⟨0, by omega, rfl, HVb, Only.refl _ _⟩
          case round =>
            clear HVb hlt
            obtain ⟨i, hi, rfl, HV, HO⟩ := hrel
            by_cases hlt : i < 64
            · obtain ⟨v, hv⟩ : ∃ v, v = rnds ks (schedTo p 64) h i := ⟨_, rfl⟩
              have hvl : v.length = 8 := by rw [hv]; exact rnds_length _ _ _ HHL.out i
              have hvw : ∀ d ∈ v, d < w32 := by rw [hv]; exact rnds_lt _ _ _ HHL.out HHW.out i
              obtain ⟨v0, v1, v2, v3, v4, v5, v6, v7, hv8⟩ := HL8.out v hvl
              have hrv := HV.out
              rw [← hv, hv8] at hrv
              have HVR : Hid (Row wr gv (ints [v0, v1, v2, v3, v4, v5, v6, v7])) := hrv
              have HVE : Hid ([v0, v1, v2, v3, v4, v5, v6, v7] = rnds ks (schedTo p 64) h i) := by rw [← hv8]; exact hv
              rw [hv8] at hvw
              have b0 : (v0 : Int) ≤ 4294967295 := by have := hvw v0 (by simp); unfold w32 at this; omega
              have c0 := row_at hrv 0 (by simp)
              have f0 := hrv.frozen 0
              have b1 : (v1 : Int) ≤ 4294967295 := by have := hvw v1 (by simp); unfold w32 at this; omega
              have c1 := row_at hrv 1 (by simp)
              have f1 := hrv.frozen 1
              have b2 : (v2 : Int) ≤ 4294967295 := by have := hvw v2 (by simp); unfold w32 at this; omega
              have c2 := row_at hrv 2 (by simp)
              have f2 := hrv.frozen 2
              have b3 : (v3 : Int) ≤ 4294967295 := by have := hvw v3 (by simp); unfold w32 at this; omega
              have c3 := row_at hrv 3 (by simp)
              have f3 := hrv.frozen 3
              have b4 : (v4 : Int) ≤ 4294967295 := by have := hvw v4 (by simp); unfold w32 at this; omega
              have c4 := row_at hrv 4 (by simp)
              have f4 := hrv.frozen 4
              have b5 : (v5 : Int) ≤ 4294967295 := by have := hvw v5 (by simp); unfold w32 at this; omega
              have c5 := row_at hrv 5 (by simp)
              have f5 := hrv.frozen 5
              have b6 : (v6 : Int) ≤ 4294967295 := by have := hvw v6 (by simp); unfold w32 at this; omega
              have c6 := row_at hrv 6 (by simp)
              have f6 := hrv.frozen 6
              have b7 : (v7 : Int) ≤ 4294967295 := by have := hvw v7 (by simp); unfold w32 at this; omega
              have c7 := row_at hrv 7 (by simp)
              have f7 := hrv.frozen 7
              simp only [List.getElem_cons_zero, List.getElem_cons_succ] at c0 c1 c2 c3 c4 c5 c6 c7
              clear hv hvl hvw hv8 hrv HV
              obtain ⟨kk, hkk⟩ : ∃ x, x = ks.getD i 0 := ⟨_, rfl⟩
              obtain ⟨ww, hww⟩ : ∃ x, x = (schedTo p 64).getD i 0 := ⟨_, rfl⟩
              have bk : (kk : Int) ≤ 4294967295 := by have := getD_lt HKW.out (by decide) i; rw [← hkk] at this; unfold w32 at this; omega
              have bw : (ww : Int) ≤ 4294967295 := by have := getD_lt (schedTo_lt p HPB.out 64) (by decide) i; rw [← hww] at this; unfold w32 at this; omega
              have cm : wr.cell? ⟨bm, 0, none⟩ = some (.slice (some ⟨gk, 0, none⟩) 64 ck) := by
                rw [HO.out.cell (by show bm < _; omega) (by show bm ≠ _; omega), HBb.out.cell (by exact hbml)]
                exact HM0.out
              have ck' : wr.cell? ⟨gk, i, none⟩ = some (.int .i64 (kk : Int)) := by
                rw [HO.out.cell (by show gk < _; omega) (by show gk ≠ _; omega), HBb.out.cell (by exact hgk), row_at HK.out i (by rw [HKL.out]; exact hlt), hkk, List.getD_eq_getElem?_getD, List.getElem?_eq_getElem (by rw [HKL.out]; exact hlt)]
                rfl
              have cw : wr.cell? ⟨w.heap.size, i, none⟩ = some (.int .i64 (ww : Int)) := by
                rw [HO.out.cell (by show w.heap.size < _; omega) (by show w.heap.size ≠ _; omega), row_at HWb.out i (by rw [schedTo_length]; exact hlt), hww, List.getD_eq_getElem?_getD, List.getElem?_eq_getElem (by rw [schedTo_length]; exact hlt)]
                rfl
              have HKK : Hid (kk = ks.getD i 0) := hkk
              have HWW : Hid (ww = (schedTo p 64).getD i 0) := hww
              clear hkk hww
              go_wp2_with fail
              refine (turn_any v4 6 _ b4 (by omega) (by omega)).mono ?_
              rintro e w' ⟨rfl, rfl⟩
              obtain ⟨e6, he6⟩ : ∃ a, a = rotN v4 6 := ⟨_, rfl⟩
              rw [← he6]
              have be6 : (e6 : Int) ≤ 4294967295 := by have := rotN_lt v4 6; rw [← he6] at this; unfold w32 at this; omega
              have He6 : Hid (e6 = rotN v4 6) := he6
              clear he6
              go_wp2_with fail
              refine (turn_any v4 11 _ b4 (by omega) (by omega)).mono ?_
              rintro e w' ⟨rfl, rfl⟩
              obtain ⟨e11, he11⟩ : ∃ a, a = rotN v4 11 := ⟨_, rfl⟩
              rw [← he11]
              have be11 : (e11 : Int) ≤ 4294967295 := by have := rotN_lt v4 11; rw [← he11] at this; unfold w32 at this; omega
              have He11 : Hid (e11 = rotN v4 11) := he11
              clear he11
              go_wp2_with fail
              refine (turn_any v4 25 _ b4 (by omega) (by omega)).mono ?_
              rintro e w' ⟨rfl, rfl⟩
              obtain ⟨e25, he25⟩ : ∃ a, a = rotN v4 25 := ⟨_, rfl⟩
              rw [← he25]
              have be25 : (e25 : Int) ≤ 4294967295 := by have := rotN_lt v4 25; rw [← he25] at this; unfold w32 at this; omega
              have He25 : Hid (e25 = rotN v4 25) := he25
              clear he25
              go_wp2_with fail
              refine (turn_any v0 2 _ b0 (by omega) (by omega)).mono ?_
              rintro e w' ⟨rfl, rfl⟩
              obtain ⟨a2, ha2⟩ : ∃ a, a = rotN v0 2 := ⟨_, rfl⟩
              rw [← ha2]
              have ba2 : (a2 : Int) ≤ 4294967295 := by have := rotN_lt v0 2; rw [← ha2] at this; unfold w32 at this; omega
              have Ha2 : Hid (a2 = rotN v0 2) := ha2
              clear ha2
              go_wp2_with fail
              refine (turn_any v0 13 _ b0 (by omega) (by omega)).mono ?_
              rintro e w' ⟨rfl, rfl⟩
              obtain ⟨a13, ha13⟩ : ∃ a, a = rotN v0 13 := ⟨_, rfl⟩
              rw [← ha13]
              have ba13 : (a13 : Int) ≤ 4294967295 := by have := rotN_lt v0 13; rw [← ha13] at this; unfold w32 at this; omega
              have Ha13 : Hid (a13 = rotN v0 13) := ha13
              clear ha13
              go_wp2_with fail
              refine (turn_any v0 22 _ b0 (by omega) (by omega)).mono ?_
              rintro e w' ⟨rfl, rfl⟩
              obtain ⟨a22, ha22⟩ : ∃ a, a = rotN v0 22 := ⟨_, rfl⟩
              rw [← ha22]
              have ba22 : (a22 : Int) ≤ 4294967295 := by have := rotN_lt v0 22; rw [← ha22] at this; unfold w32 at this; omega
              have Ha22 : Hid (a22 = rotN v0 22) := ha22
              clear ha22
              obtain ⟨y1, hy1⟩ : ∃ y, y = e6 ^^^ e11 := ⟨_, rfl⟩
              obtain ⟨y2, hy2⟩ : ∃ y, y = y1 ^^^ e25 := ⟨_, rfl⟩
              obtain ⟨y3, hy3⟩ : ∃ y, y = v4 &&& v5 := ⟨_, rfl⟩
              obtain ⟨y4, hy4⟩ : ∃ y, y = (4294967295 - v4) &&& v6 := ⟨_, rfl⟩
              obtain ⟨y5, hy5⟩ : ∃ y, y = y3 ^^^ y4 := ⟨_, rfl⟩
              obtain ⟨z1, hz1⟩ : ∃ y, y = a2 ^^^ a13 := ⟨_, rfl⟩
              obtain ⟨z2, hz2⟩ : ∃ y, y = z1 ^^^ a22 := ⟨_, rfl⟩
              obtain ⟨z3, hz3⟩ : ∃ y, y = v0 &&& v1 := ⟨_, rfl⟩
              obtain ⟨z4, hz4⟩ : ∃ y, y = v0 &&& v2 := ⟨_, rfl⟩
              obtain ⟨z5, hz5⟩ : ∃ y, y = z3 ^^^ z4 := ⟨_, rfl⟩
              obtain ⟨z6, hz6⟩ : ∃ y, y = v1 &&& v2 := ⟨_, rfl⟩
              obtain ⟨z7, hz7⟩ : ∃ y, y = z5 ^^^ z6 := ⟨_, rfl⟩
              have ly1 : y1 < w32 := by rw [hy1]; exact xor_w32 (by unfold w32; omega) (by unfold w32; omega)
              have ly2 : y2 < w32 := by rw [hy2]; exact xor_w32 ly1 (by unfold w32; omega)
              have ly3 : y3 < w32 := by rw [hy3]; exact and_w32 (by unfold w32; omega)
              have ly4 : y4 < w32 := by rw [hy4]; exact and_w32 (by unfold w32; omega)
              have ly5 : y5 < w32 := by rw [hy5]; exact xor_w32 ly3 ly4
              have lz1 : z1 < w32 := by rw [hz1]; exact xor_w32 (by unfold w32; omega) (by unfold w32; omega)
              have lz2 : z2 < w32 := by rw [hz2]; exact xor_w32 lz1 (by unfold w32; omega)
              have lz3 : z3 < w32 := by rw [hz3]; exact and_w32 (by unfold w32; omega)
              have lz4 : z4 < w32 := by rw [hz4]; exact and_w32 (by unfold w32; omega)
              have lz5 : z5 < w32 := by rw [hz5]; exact xor_w32 lz3 lz4
              have lz6 : z6 < w32 := by rw [hz6]; exact and_w32 (by unfold w32; omega)
              have lz7 : z7 < w32 := by rw [hz7]; exact xor_w32 lz5 lz6
              unfold w32 at ly1 ly2 ly3 ly4 ly5 lz1 lz2 lz3 lz4 lz5 lz6 lz7
              have ny1 : bits .xor .i64 (e6 : Int) (e11 : Int) = (y1 : Int) := by rw [hy1]; exact i64_xor_nat _ _ (by omega) (by omega)
              have ny2 : bits .xor .i64 (y1 : Int) (e25 : Int) = (y2 : Int) := by rw [hy2]; exact i64_xor_nat _ _ (by omega) (by omega)
              have ny3 : bits .and .i64 (v4 : Int) (v5 : Int) = (y3 : Int) := by rw [hy3]; exact i64_and_nat _ _ (by omega) (by omega)
              have ny5 : bits .xor .i64 (y3 : Int) (y4 : Int) = (y5 : Int) := by rw [hy5]; exact i64_xor_nat _ _ (by omega) (by omega)
              have nz1 : bits .xor .i64 (a2 : Int) (a13 : Int) = (z1 : Int) := by rw [hz1]; exact i64_xor_nat _ _ (by omega) (by omega)
              have nz2 : bits .xor .i64 (z1 : Int) (a22 : Int) = (z2 : Int) := by rw [hz2]; exact i64_xor_nat _ _ (by omega) (by omega)
              have nz3 : bits .and .i64 (v0 : Int) (v1 : Int) = (z3 : Int) := by rw [hz3]; exact i64_and_nat _ _ (by omega) (by omega)
              have nz4 : bits .and .i64 (v0 : Int) (v2 : Int) = (z4 : Int) := by rw [hz4]; exact i64_and_nat _ _ (by omega) (by omega)
              have nz5 : bits .xor .i64 (z3 : Int) (z4 : Int) = (z5 : Int) := by rw [hz5]; exact i64_xor_nat _ _ (by omega) (by omega)
              have nz6 : bits .and .i64 (v1 : Int) (v2 : Int) = (z6 : Int) := by rw [hz6]; exact i64_and_nat _ _ (by omega) (by omega)
              have nz7 : bits .xor .i64 (z5 : Int) (z6 : Int) = (z7 : Int) := by rw [hz7]; exact i64_xor_nat _ _ (by omega) (by omega)
              have ny4 : bits .and .i64 (4294967295 - (v4 : Int)) (v6 : Int) = (y4 : Int) := by
                rw [hy4, ← i64_and_nat _ _ (by omega) (by omega)]
                have e : ((4294967295 - v4 : Nat) : Int) = 4294967295 - (v4 : Int) := by omega
                rw [e]
              have uy2 : (y2 : Int) ≤ 4294967295 := by omega
              have uy5 : (y5 : Int) ≤ 4294967295 := by omega
              have uz2 : (z2 : Int) ≤ 4294967295 := by omega
              have uz7 : (z7 : Int) ≤ 4294967295 := by omega
              have HT : Hid (tOf [v0, v1, v2, v3, v4, v5, v6, v7] kk ww = v7 + y2 + y5 + kk + ww) := by
                show _ = _
                simp only [tOf, List.getD_cons_zero, List.getD_cons_succ]
                rw [← He6.out, ← He11.out, ← He25.out, ← hy1, ← hy2, ← hy3, ← hy4, ← hy5]
              have HU : Hid (uOf [v0, v1, v2, v3, v4, v5, v6, v7] = z2 + z7) := by
                show _ = _
                simp only [uOf, List.getD_cons_zero, List.getD_cons_succ]
                rw [← Ha2.out, ← Ha13.out, ← Ha22.out, ← hz1, ← hz2, ← hz3, ← hz4, ← hz5, ← hz6, ← hz7]
              clear hy1 hy2 hy3 hy4 hy5 hz1 hz2 hz3 hz4 hz5 hz6 hz7 ly1 ly2 ly3 ly4 ly5 lz1 lz2 lz3 lz4 lz5 lz6 lz7 He6 He11 He25 Ha2 Ha13 Ha22
              go_wp2
              go_quiet (fail)
              clear ny1 ny2 ny3 ny4 ny5
              go_wp2
              go_quiet (fail)
              clear nz1 nz2 nz3 nz4 nz5 nz6 nz7 cm ck' cw
              go_wp2
              clear c0 c1 c2 c3 c4 c5 c6 c7 f0 f1 f2 f3 f4 f5 f6 f7
              go_loopw [27] (fun kv wr => ∃ m : Nat, m ≤ 7 ∧ kv = .int .i64 m ∧ Hid (Row wr gv (ints (shf [v0, v1, v2, v3, v4, v5, v6, v7] m))) ∧ Hid (Only gv wb wr)) (fun k _ => (intOf k).toNat)
              case atStart => exact ⟨7, by omega, rfl, HVR.out, (HO.out.drewN _).drewN _⟩
              case round =>
                clear HVR HO
                obtain ⟨m, hm, rfl, HV, HO⟩ := hrel
                have hsl := shf_length v0 v1 v2 v3 v4 v5 v6 v7 m hm
                by_cases hm0 : 0 < m
                · obtain ⟨x, hx⟩ : ∃ x, x = (shf [v0, v1, v2, v3, v4, v5, v6, v7] m).getD (m - 1) 0 := ⟨_, rfl⟩
                  have cx : wr.cell? ⟨gv, m - 1, none⟩ = some (.int .i64 (x : Int)) := by
                    rw [row_at HV.out (m - 1) (by omega), hx, List.getD_eq_getElem?_getD, List.getElem?_eq_getElem (by omega)]
                    rfl
                  obtain ⟨z, cz⟩ : ∃ z : Int, wr.cell? ⟨gv, m, none⟩ = some (.int .i64 z) := ⟨_, row_at HV.out m (by omega)⟩
                  have fz := HV.out.frozen m
                  have HX : Hid (x = (shf [v0, v1, v2, v3, v4, v5, v6, v7] m).getD (m - 1) 0) := hx
                  clear hx
                  go_wp2
                  go_roundw
                  case rel =>
                    refine ⟨m - 1, by omega, by go_num, ?_, HO.out.setCell rfl _⟩
                    show Row _ _ _
                    have h1 := row_set HV.out m (by omega) x
                    have h2 := shf_set v0 v1 v2 v3 v4 v5 v6 v7 m (by omega) hm
                    rw [← HX.out] at h2
                    rw [h2] at h1
                    exact h1
                  case measure => (simp [intOf]; try omega)
                · have hm1 : m = 0 := by omega
                  obtain ⟨m1, hm2⟩ : ∃ m1, m1 = m := ⟨_, rfl⟩
                  subst hm2
                  have HV0 : Hid (Row wr gv (ints [v0, v0, v1, v2, v3, v4, v5, v6])) := by
                    have h := HV.out
                    rw [hm1] at h
                    exact h
                  clear HV hsl hm1
                  have c4 : wr.cell? ⟨gv, 4, none⟩ = some (.int .i64 (v3 : Int)) := row_at HV0.out 4 (by simp)
                  have f4 := HV0.out.frozen 4
                  have c0 : wr.cell? ⟨gv, 0, none⟩ = some (.int .i64 (v0 : Int)) := row_at HV0.out 0 (by simp)
                  have f0 := HV0.out.frozen 0
                  go_wp2
                  go_roundw
                  case rel =>
                    refine ⟨i + 1, by omega, by go_num, ?_, (HO.out.setCell rfl _).setCell rfl _⟩
                    show Row _ _ _
                    have hT := HT.out
                    have hU := HU.out
                    obtain ⟨tt, htt⟩ : ∃ x, x = tOf [v0, v1, v2, v3, v4, v5, v6, v7] kk ww := ⟨_, rfl⟩
                    obtain ⟨uu, huu⟩ : ∃ x, x = uOf [v0, v1, v2, v3, v4, v5, v6, v7] := ⟨_, rfl⟩
                    have h1 := row_set HV0.out 4 (by simp) ((v3 + tt) % 4294967296)
                    have h2 := row_set h1 0 (by simp) ((tt + uu) % 4294967296)
                    have e4 : (((v3 + tt) % 4294967296 : Nat) : Int) = ((v3 : Int) + ((v7 : Int) + (y2 : Int) + (y5 : Int) + (kk : Int) + (ww : Int))) % 4294967296 := by rw [htt, hT]; omega
                    have e0 : (((tt + uu) % 4294967296 : Nat) : Int) = ((v7 : Int) + (y2 : Int) + (y5 : Int) + (kk : Int) + (ww : Int) + ((z2 : Int) + (z7 : Int))) % 4294967296 := by rw [htt, huu, hT, hU]; omega
                    have e5 : rnds ks (schedTo p 64) h (i + 1) = (([v0, v0, v1, v2, v3, v4, v5, v6] : List Nat).set 4 ((v3 + tt) % 4294967296)).set 0 ((tt + uu) % 4294967296) := by
                      show rnd (rnds ks (schedTo p 64) h i) (ks.getD i 0) ((schedTo p 64).getD i 0) = _
                      rw [← HVE.out, ← HKK.out, ← HWW.out, htt, huu]
                      rfl
                    rw [e5]
                    rw [e4, e0] at h2
                    exact h2
                  case measure => (simp [intOf]; try omega)
            · have hi64 : i = 64 := by omega
              obtain ⟨i3, hi3⟩ : ∃ i3, i3 = i := ⟨_, rfl⟩
              subst hi3
              obtain ⟨v, hv⟩ : ∃ v, v = rnds ks (schedTo p 64) h 64 := ⟨_, rfl⟩
              have HV2 : Hid (Row wr gv (ints v)) := by
                have hh := HV.out
                rw [hi64] at hh
                rw [hv]; exact hh
              have hvl : v.length = 8 := by rw [hv]; exact rnds_length _ _ _ HHL.out 64
              have hvw : ∀ d ∈ v, d < w32 := by rw [hv]; exact rnds_lt _ _ _ HHL.out HHW.out 64
              have HVL : Hid (v.length = 8) := hvl
              have HVW : Hid (∀ d ∈ v, d < w32) := hvw
              have HVE : Hid (v = rnds ks (schedTo p 64) h 64) := hv
              clear HV hi64 hv hvl hvw
              obtain ⟨wc, hwc⟩ : ∃ wc, wc = wr := ⟨_, rfl⟩
              subst hwc
              have HHc : Hid (Row wc bh (ints h)) := (HH.out.on HBb.out hbhl).only HO.out (by omega)
              go_wp2
              go_loopw [28] (fun iv_ wr => ∃ i : Nat, i ≤ 8 ∧ iv_ = .int .i64 i ∧ Hid (Row wr bh (ints ((addAll h v).take i ++ h.drop i))) ∧ Hid (Only bh wc wr)) (fun i _ => 8 - (intOf i).toNat)
              case atStart => exact ⟨0, by omega, rfl, HHc, Only.refl _ _⟩
              case round =>
                clear HHc hlt
                obtain ⟨i, hi, rfl, HR, HOc⟩ := hrel
                have hlen : ((addAll h v).take i ++ h.drop i).length = 8 := by
                  rw [List.length_append, List.length_take, List.length_drop, addAll_length, HHL.out]; omega
                by_cases hlt : i < 8
                · obtain ⟨x, hx⟩ : ∃ x, x = h.getD i 0 := ⟨_, rfl⟩
                  obtain ⟨y, hy⟩ : ∃ y, y = v.getD i 0 := ⟨_, rfl⟩
                  have bx : (x : Int) ≤ 4294967295 := by have := getD_lt HHW.out (by decide) i; rw [← hx] at this; unfold w32 at this; omega
                  have by' : (y : Int) ≤ 4294967295 := by have := getD_lt HVW.out (by decide) i; rw [← hy] at this; unfold w32 at this; omega
                  have cx : wr.cell? ⟨bh, i, none⟩ = some (.int .i64 (x : Int)) := by
                    rw [row_at HR.out i (by omega), hx, get_getD, addTo_get h (addAll h v) i (by rw [addAll_length]; omega)]
                  have cy : wr.cell? ⟨gv, i, none⟩ = some (.int .i64 (y : Int)) := by
                    rw [row_at (HV2.out.only HOc.out (by omega)) i (by rw [HVL.out]; exact hlt), hy, List.getD_eq_getElem?_getD, List.getElem?_eq_getElem (by rw [HVL.out]; exact hlt)]
                    rfl
                  have fx := HR.out.frozen i
                  have HX : Hid (x = h.getD i 0) := hx
                  have HY : Hid (y = v.getD i 0) := hy
                  clear hx hy
                  go_wp2
                  go_region
                  go_wp2
                  go_roundw
                  case rel =>
                    refine ⟨i + 1, by omega, by go_num, ?_, (HOc.out.setCell rfl _).drew⟩
                    show Row _ _ _
                    have h1 := row_set HR.out i (by omega) ((addAll h v)[i]'(by rw [addAll_length]; exact hlt))
                    rw [addTo_set h (addAll h v) i (by rw [addAll_length, HHL.out]) (by rw [HHL.out]; exact hlt), addAll_at h v i hlt, ← HX.out, ← HY.out] at h1
                    have e : (((x + y) % 4294967296 : Nat) : Int) = ((x : Int) + (y : Int)) % 4294967296 := by omega
                    rw [e] at h1
                    exact h1
                  case measure => (simp [intOf]; try omega)
                · have hi8 : i = 8 := by omega
                  go_wp2
                  go_end0
                  have hR := HR.out
                  rw [hi8, List.take_of_length_le (by rw [addAll_length]; omega), List.drop_of_length_le (by rw [HHL.out]; omega), List.append_nil] at hR
                  refine ⟨rfl, ?_, ?_, ?_, ?_, ?_, ?_⟩
                  · unfold mixN
                    rw [← HVE.out]
                    exact hR
                  · have := HOc.out.size; have := HO.out.size; have := HBb.out.size; omega
                  · intro b hb hne
                    have h1 := HOc.out.block b (by have := HO.out.size; omega) hne
                    have h2 := HO.out.block b (by omega) (by omega)
                    have h3 := HBb.out.block b hb
                    rw [h1, h2, h3]
                  · exact HOc.out.os.trans (HO.out.os.trans HBb.out.os)
                  · exact HOc.out.tape.trans (HO.out.tape.trans HBb.out.tape)
                  · exact HOc.out.output.trans (HO.out.output.trans HBb.out.output)
end Go.Proofs.YtapijhhmjjplmaaGreatDoor
namespace Go.Proofs.YtapijhhmjjplmaaGreatDoor
open Go.RowKit

set_option maxRecDepth 100000 in
theorem four_any (n : Nat) (w : World) (hn : (n : Int) ≤ 4294967295) :
    Calls Tryz.prog 109 #[.int .i64 (n : Int)] w fun e w' => e = .returned (.string ⟨(four4 n).toArray⟩) ∧ Below w.heap.size w w' := by
  have hcv : (convert 134 9 (.slice (some ⟨w.heap.size, 0, none⟩) 4 4)).run Tryz.prog (w.alloc (.cells #[.int .u8 ((n : Int) / 16777216 % 256), .int .u8 ((n : Int) / 65536 % 256), .int .u8 ((n : Int) / 256 % 256), .int .u8 ((n : Int) % 256)] 5)) = .ok (.string ⟨(four4 n).toArray⟩) (w.alloc (.cells #[.int .u8 ((n : Int) / 16777216 % 256), .int .u8 ((n : Int) / 65536 % 256), .int .u8 ((n : Int) / 256 % 256), .int .u8 ((n : Int) % 256)] 5)) := by
    refine run_convert_bytes_back (P := Tryz.prog) _ 134 9 5 ⟨w.heap.size, 0, none⟩ 4 (four4 n) Tryz.underlying134 Tryz.underlying5 Tryz.underlying9 ?_
    have hb : ∀ m : Nat, (UInt8.ofNat (m % 256)).toNat = m % 256 := fun m => by
      rw [UInt8.toNat_ofNat']; omega
    intro j hj
    match j, hj with
    | 0, _ => simp [four4, Addr.add, hb]
    | 1, _ => simp [four4, Addr.add, hb]
    | 2, _ => simp [four4, Addr.add, hb]
    | 3, _ => simp [four4, Addr.add, hb]
  go_enter Tryz.func109, Tryz.ntmps109
  go_wp2
  go_ret
  exact ⟨rfl, (Below.refl _ _).alloc (Nat.le_refl _) _⟩

theorem OwnB.open {w : World} {B : Nat} {v : Value} {l : List Nat} (h : OwnB w B v l) : ∃ g cap, v = .slice (some ⟨g, 0, none⟩) l.length cap ∧ l.length ≤ cap ∧ B ≤ g ∧ g < w.heap.size := by
  obtain ⟨g, cap, cur, fz, rfl, hB, hg, _, h2, _⟩ := h
  exact ⟨g, cap, rfl, h2, hB, (Array.getElem?_eq_some_iff.1 hg).1⟩
theorem OwnB.heap {w w' : World} {B : Nat} {v : Value} {l : List Nat} (h : OwnB w B v l) (e : ∀ k, v.ownBlock = some k → w'.heap[k]? = w.heap[k]?) : OwnB w' B v l := by
  obtain ⟨g, cap, cur, fz, rfl, hB, hg, h3⟩ := h
  exact ⟨g, cap, cur, fz, rfl, hB, by rw [e g rfl]; exact hg, h3⟩
theorem OwnB.base {w : World} {B : Nat} {v : Value} {l : List Nat} (h : OwnB w B v l) : ∀ k, v.ownBlock = some k → B ≤ k := by
  obtain ⟨g, cap, cur, fz, rfl, hB, _⟩ := h
  intro k hk
  cases hk
  exact hB
theorem four_size (H : List Nat) : ∀ i, i ≤ H.length → (⟨((H.take i).flatMap four4).toArray⟩ : ByteArray).size = 4 * i := by
  intro i hi
  show ((H.take i).flatMap four4).toArray.size = _
  rw [List.size_toArray]
  induction i with
  | zero => rfl
  | succ i ih =>
    rw [List.take_succ_eq_append_getElem (by omega), List.flatMap_append, List.length_append, ih (by omega)]
    show _ + 4 = _
    omega
theorem four_snoc (H : List Nat) (i : Nat) (h : i < H.length) : (⟨((H.take i).flatMap four4).toArray⟩ ++ ⟨(four4 (H.getD i 0)).toArray⟩ : ByteArray) = ⟨((H.take (i + 1)).flatMap four4).toArray⟩ := by
  rw [List.take_succ_eq_append_getElem h, List.flatMap_append, ← get_getD H i h]
  apply ByteArray.ext
  simp
def lenV : Value → Nat
  | .slice _ n _ => n
  | _ => 0
def pad1 (s : ByteArray) (k : Nat) : List Nat := bytesN s ++ [128] ++ List.replicate k 0
theorem pad1_length (s : ByteArray) (k : Nat) : (pad1 s k).length = s.size + 1 + k := by simp [pad1, bytesN_length]; omega
theorem pad1_succ (s : ByteArray) (k : Nat) : pad1 s k ++ [0] = pad1 s (k + 1) := by
  unfold pad1; rw [List.replicate_succ']; simp
def pad2 (s : ByteArray) (j : Nat) : List Nat := pad1 s (zN s.size) ++ lenB (8 * s.size) j
theorem pad2_length (s : ByteArray) (j : Nat) : (pad2 s j).length = s.size + 1 + zN s.size + j := by simp [pad2, pad1_length, lenB_length]
theorem pad2_all (s : ByteArray) : pad2 s 8 = padN (bytesN s) := by unfold pad2 pad1 padN; rw [bytesN_length]
theorem pad2_succ (s : ByteArray) (j : Nat) : pad2 s j ++ [8 * s.size / 2 ^ (8 * (7 - j)) % 256] = pad2 s (j + 1) := by
  unfold pad2; rw [lenB_succ, List.append_assoc]

set_option maxRecDepth 100000 in
set_option maxHeartbeats 4000000 in
theorem refSum_any (bm gk ck gh ch : Nat) (ks hs : List Nat) (s : ByteArray) (w : World)
    (hm0 : w.cell? ⟨bm, 0, none⟩ = some (.slice (some ⟨gk, 0, none⟩) 64 ck)) (hm1 : w.cell? ⟨bm, 1, none⟩ = some (.slice (some ⟨gh, 0, none⟩) 8 ch))
    (hk : Row w gk (ints ks)) (hkl : ks.length = 64) (hkw : ∀ d ∈ ks, d < w32)
    (hh : Row w gh (ints hs)) (hhl : hs.length = 8) (hhw : ∀ d ∈ hs, d < w32) (hsz : s.size ≤ 300000) :
    Calls Tryz.prog 66 #[.pointer (some ⟨bm, 0, none⟩), .string s] w fun e w' =>
      e = .returned (.string ⟨(shaB ks hs (bytesN s)).toArray⟩) ∧ Below w.heap.size w w' := by
  have HM0 : Hid (w.cell? ⟨bm, 0, none⟩ = some (.slice (some ⟨gk, 0, none⟩) 64 ck)) := hm0
  have HM1 : Hid (w.cell? ⟨bm, 1, none⟩ = some (.slice (some ⟨gh, 0, none⟩) 8 ch)) := hm1
  have HK : Hid (Row w gk (ints ks)) := hk
  have HH : Hid (Row w gh (ints hs)) := hh
  have HKW : Hid (∀ d ∈ ks, d < w32) := hkw
  have HHW : Hid (∀ d ∈ hs, d < w32) := hhw
  have HKL : Hid (ks.length = 64) := hkl
  have HHL : Hid (hs.length = 8) := hhl
  clear hm0 hm1 hk hh hkw hhw hkl hhl
  obtain ⟨v0, w0, hcv, hown, hbl, cap0, rfl⟩ := run_bytes w s
  have HO0 : Hid (OwnB w0 w.heap.size (.slice (some ⟨w.heap.size, 0, none⟩) s.size cap0) (bytesN s)) := hown
  have HB0 : Hid (Below w.heap.size w w0) := hbl
  have hz0 := hbl.size
  clear hown hbl
  have hn1 : (bytesN s).length < 1000000 := by rw [bytesN_length]; omega
  go_enter Tryz.func66, Tryz.ntmps66
  go_wp2_with (at_builtin; go_loud (refine wpList_append_byte _ rfl _ _ rfl w.heap.size _ _ rfl (HO0.out.alloc _) ⟨w0.heap.size, 0, none⟩ 1 128 rfl (cell_one_new _ _ _ 0 _ rfl) hn1 (by simp; omega) ?_))
  intro v1 w1 hown1 hgrow1
  have HO1 : Hid (OwnB w1 w.heap.size v1 (pad1 s 0)) := by
    show OwnB _ _ _ _
    unfold pad1
    rw [List.replicate_zero, List.append_nil]
    exact hown1
  have HB1 : Hid (Below w.heap.size w w1) := (HB0.out.alloc hz0 _).grown hgrow1 (by simp; omega) (fun k hk => by cases hk; exact Nat.le_refl _)
  clear hown1 hgrow1 hcv HO0 HB0 hz0
  have hzn : zN s.size = (119 - s.size % 64) % 64 := rfl
  obtain ⟨z, hzz⟩ : ∃ z, z = zN s.size := ⟨_, rfl⟩
  rw [← hzz] at hzn
  have hz63 : z ≤ 63 := by omega
  have HZ : Hid (z = zN s.size) := hzz
  clear hzz
  go_wp2
  go_loopw [5] (fun pv wr => ∃ k : Nat, k ≤ z ∧ lenV pv = s.size + 1 + k ∧ Hid (OwnB wr w.heap.size pv (pad1 s k)) ∧ Hid (Below w.heap.size w wr)) (fun pv _ => s.size + 1 + z - lenV pv)
  case atStart =>
    refine ⟨0, by omega, ?_, HO1, HB1⟩
    obtain ⟨g, cap, rfl, _⟩ := HO1.out.open
    show (pad1 s 0).length = _
    rw [pad1_length]
  case round =>
    clear HO1 HB1
    obtain ⟨k, hk, hlk, HO, HB⟩ := hrel
    obtain ⟨g, cap, hv, hcap, hg1, hg2⟩ := HO.out.open
    subst hv
    rw [pad1_length] at *
    have hszr := HB.out.size
    by_cases hlt : k < z
    · have h56 : ((s.size : Int) + 1 + (k : Int)) % 64 ≠ 56 := by omega
      have hn1 : (pad1 s k).length < 1000000 := by rw [pad1_length]; omega
      clear hzn
      go_wp2_with (at_builtin; go_loud (refine wpList_append_byte _ rfl _ _ rfl w.heap.size _ _ rfl (HO.out.alloc _) ⟨wr.heap.size, 0, none⟩ 1 0 rfl (cell_one_new _ _ _ 0 _ rfl) hn1 (by simp; omega) ?_))
      intro v' w' hown' hgrow
      have HO2 : Hid (OwnB w' w.heap.size v' (pad1 s (k + 1))) := by
        show OwnB _ _ _ _
        rw [← pad1_succ]
        exact hown'
      have HB2 : Hid (Below w.heap.size w w') := (HB.out.alloc hszr _).grown hgrow (by simp; omega) (fun k hk => by cases hk; exact hg1)
      clear hown' hgrow h56
      go_wp2
      have hl2 : lenV v' = s.size + 1 + (k + 1) := by
        obtain ⟨g, cap, rfl, _⟩ := HO2.out.open
        show (pad1 s (k + 1)).length = _
        rw [pad1_length]
      go_roundw
      case rel => exact ⟨k + 1, by omega, hl2, HO2, HB2⟩
      case measure => rw [hl2]; simp [lenV]; omega
    · have hkz : k = z := by omega
      have h56 : ((s.size : Int) + 1 + (k : Int)) % 64 = 56 := by omega
      have HO2 : Hid (OwnB wr w.heap.size (.slice (some ⟨g, 0, none⟩) (s.size + 1 + k) cap) (pad2 s 0)) := by
        show OwnB _ _ _ _
        unfold pad2 lenB
        rw [List.range_zero, List.map_nil, List.append_nil, ← HZ.out, ← hkz]
        exact HO.out
      clear HO hkz
      go_wp2
      go_loopw [5, 6] (fun pv iv_ wr => ∃ m : Nat, m ≤ 8 ∧ iv_ = .int .i64 ((m : Int) - 1) ∧ Hid (OwnB wr w.heap.size pv (pad2 s (8 - m))) ∧ Hid (Below w.heap.size w wr)) (fun _ iv_ _ => (intOf iv_ + 1).toNat)
      case atStart => exact ⟨8, by omega, rfl, HO2, HB⟩
      case round =>
        clear HO2 HB h56 hszr hg2
        have HZN : Hid (z = (119 - s.size % 64) % 64) := hzn
        clear hzn
        obtain ⟨m, hm, rfl, HO, HB⟩ := hrel
        obtain ⟨g, cap, hv, hcap, hg1, hg2⟩ := HO.out.open
        rw [pad2_length, ← HZ.out] at hv hcap
        obtain ⟨n, hn⟩ : ∃ n, n = s.size + 1 + z + (8 - m) := ⟨_, rfl⟩
        rw [← hn] at hv hcap
        subst hv
        have HN : Hid (n = s.size + 1 + z + (8 - m)) := hn
        have hnb : n ≤ 300100 := by omega
        clear hn
        have hszr := HB.out.size
        by_cases hlt : 0 < m
        · obtain ⟨i, rfl⟩ : ∃ i, m = i + 1 := ⟨m - 1, by omega⟩
          have ei : (((i + 1 : Nat) : Int) - 1) = (i : Int) := by omega
          rw [ei]
          obtain ⟨q, hq⟩ : ∃ q : Nat, (q : Int) = 8 * (i : Int) := ⟨8 * i, by omega⟩
          have hq' : 8 * (i : Int) = (q : Int) := hq.symm
          have hqn : q = 8 * i := by omega
          have HQ : Hid (q = 8 * i) := hqn
          have hq64 : q < 64 := by omega
          clear hq hqn
          have hn1 : (pad2 s (8 - (i + 1))).length < 1000000 := by rw [pad2_length, ← HZ.out]; omega
          clear hz63 hm hnb
          go_wp2_with (at_builtin; go_loud (refine wpList_append_byte _ rfl _ _ rfl w.heap.size _ _ rfl (HO.out.alloc _) ⟨wr.heap.size, 0, none⟩ 1 (8 * s.size / 2 ^ q % 256) rfl ?hx hn1 (by simp; omega) ?_))
          case hx =>
            have e : ((8 * s.size / 2 ^ q % 256 : Nat) : Int) = 8 * (s.size : Int) / 2 ^ q % 256 := by push_cast; rfl
            rw [e]
            exact cell_one_new _ _ _ 0 _ rfl
          intro v' w' hown' hgrow
          have HO2 : Hid (OwnB w' w.heap.size v' (pad2 s (8 - i))) := by
            show OwnB _ _ _ _
            have e : 8 - i = (7 - i) + 1 := by omega
            rw [e, ← pad2_succ]
            have e2 : 8 * (7 - (7 - i)) = q := by rw [HQ.out]; omega
            rw [e2]
            exact hown'
          have HB2 : Hid (Below w.heap.size w w') := (HB.out.alloc hszr _).grown hgrow (by simp; omega) (fun k hk => by cases hk; exact hg1)
          clear hown' hgrow
          go_wp2
          go_roundw
          case rel => exact ⟨i, by omega, rfl, HO2, HB2⟩
          case measure => (simp [intOf]; try omega)
        · have hm0 : m = 0 := by omega
          have HO3 : Hid (OwnB wr w.heap.size (.slice (some ⟨g, 0, none⟩) n cap) (padN (bytesN s))) := by
            show OwnB _ _ _ _
            rw [← pad2_all]
            have h := HO.out
            rw [hm0] at h
            exact h
          have hn64 : n % 64 = 0 := by rw [HN.out, hm0, HZN.out]; omega
          have hnl : n = (padN (bytesN s)).length := by rw [← pad2_all, pad2_length, HN.out, hm0, ← HZ.out]
          have HNL : Hid (n = (padN (bytesN s)).length) := hnl
          obtain ⟨nb, hnb64⟩ : ∃ nb, n = 64 * nb := ⟨n / 64, by omega⟩
          have HNB : Hid (n = 64 * nb) := hnb64
          clear hn64 hnl hnb64 HO HZ HZN HN hm0
          obtain ⟨i0, hi0, hz0, hz1, hz2⟩ := info_parts infoInt
          have hgk : gk < w.heap.size := HK.out.lt
          have hghl : gh < w.heap.size := HH.out.lt
          have hbml : bm < w.heap.size := cell_lt' HM0.out
          obtain ⟨wa, hwa⟩ : ∃ wa, wa = wr := ⟨_, rfl⟩
          subst hwa
          have cm1 : wa.cell? ⟨bm, 1, none⟩ = some (.slice (some ⟨gh, 0, none⟩) 8 ch) := by
            rw [HB.out.cell (by exact hbml)]
            exact HM1.out
          have hbma : bm < wa.heap.size := by omega
          have HCH : Hid (∀ j u, (iv hs)[j]? = some u → (wa.alloc (.cells #[] 3)).cell? ((⟨gh, 0, none⟩ : Addr).add j) = some u) := by
            intro j u hj
            have hjl : j < hs.length := by
              have := (List.getElem?_eq_some_iff.1 hj).1
              rw [iv_length] at this
              exact this
            rw [iv_at hs j hjl] at hj
            cases hj
            have ea : (⟨gh, 0, none⟩ : Addr).add j = ⟨gh, j, none⟩ := by
              unfold Addr.add
              split
              · rename_i h0; rw [h0]
              · simp
            rw [ea, World.cell?_alloc_lt _ _ ⟨gh, j, none⟩ (by show gh < _; omega), HB.out.cell (by exact hghl)]
            exact row_at HH.out j hjl
          have HO0 : Hid ((wa.alloc (.cells #[] 3)).ownsRow wa.heap.size 3 1 (.slice (some ⟨wa.heap.size, 0, none⟩) 0 0) 0 []) :=
            ⟨rfl, .inr ⟨_, 0, #[], rfl, Nat.le_refl _, by show (wa.heap.push _)[wa.heap.size]? = _; rw [Array.getElem?_push_size], Nat.le_refl _, Nat.zero_le _, rfl, rfl⟩⟩
          go_wp2_with (at_builtin; refine wpList_append_own_at _ rfl _ _ 34 rfl wa.heap.size 3 i0 (.int .i64 0) 1 8 Tryz.underlying34 hi0 hz0 hz1 hz2 rfl (by decide) _ _ _ rfl HO0.out ⟨gh, 0, none⟩ 8 ch (iv hs) rfl ?a1 HCH.out ?a2 ?a3 ?a4 ?a5 ?_)
          case a1 => rw [iv_length, HHL.out]
          case a2 => intro u hu; unfold iv at hu; obtain ⟨q, _, rfl⟩ := List.mem_map.1 hu; rfl
          case a3 => unfold maxLen; omega
          case a4 => omega
          case a5 => simp
          intro v' wb hown' hgrow _ _
          obtain ⟨gv, cv, rfl, hgv, hrv⟩ := own_row hown' (by omega)
          have HBb : Hid (Below w.heap.size w wb) := (HB.out.alloc (by omega) _).grown hgrow (by simp; omega) (fun k hk => by have : wa.heap.size = k := Option.some.inj hk; omega)
          have hszb : wa.heap.size < wb.heap.size := by have := hgrow.size; simp at this; omega
          have HVb : Hid (Row wb gv (ints hs)) := hrv
          have hgvb : gv < wb.heap.size := hrv.lt
          have HOb : Hid (OwnB wb w.heap.size (.slice (some ⟨g, 0, none⟩) n cap) (padN (bytesN s))) := (HO3.out.alloc _).heap (fun k hk => by cases hk; exact hgrow.block g (by simp; omega) (by intro hh; have : g = wa.heap.size := Option.some.inj hh; omega))
          clear hown' hgrow hrv HO0 HCH HB HO3 cm1 hbma
          have HPB : Hid (∀ d ∈ padN (bytesN s), d < 256) := padN_lt _ (bytesN_lt s)
          go_wp2
          go_loopw [8] (fun av wr => ∃ j : Nat, j ≤ nb ∧ av = .int .i64 ((64 * j : Nat) : Int) ∧ Hid (Row wr gv (ints (mixTo ks hs (padN (bytesN s)) j))) ∧ Hid (Only gv wb wr)) (fun av _ => n - (intOf av).toNat)
          case atStart => exact ⟨0, by omega, rfl, HVb, Only.refl _ _⟩
          case round =>
            clear HVb hlt
            obtain ⟨j, hj, rfl, HV, HO⟩ := hrel
            have hsw := HO.out.size
            by_cases hlt : j < nb
            · obtain ⟨at_, hat⟩ : ∃ at_, at_ = 64 * j := ⟨_, rfl⟩
              have HAT : Hid (at_ = 64 * j) := hat
              rw [← hat]
              have hatn : at_ + 64 ≤ n := by rw [HNB.out, hat]; omega
              have hjn : 64 * (j + 1) ≤ (padN (bytesN s)).length := by rw [← HNL.out, HNB.out]; omega
              have HBY : Hid (BytesAt wr g at_ (blk (padN (bytesN s)) j)) := by
                intro i hi
                rw [blk_length _ _ hjn] at hi
                rw [HO.out.cell (by show g < _; omega) (by show g ≠ _; omega), blk_at _ _ _ hjn hi, hat]
                have h := HOb.out
                rw [HNL.out] at h
                exact h.cell _ (by omega)
              have cm : Hid (wr.cell? ⟨bm, 0, none⟩ = some (.slice (some ⟨gk, 0, none⟩) 64 ck)) := by
                show _ = _
                rw [HO.out.cell (by show bm < _; omega) (by show bm ≠ _; omega), HBb.out.cell (by exact hbml)]
                exact HM0.out
              have HKr : Hid (Row wr gk (ints ks)) := (HK.out.on HBb.out hgk).only HO.out (by omega)
              have hgr : g < wr.heap.size := by omega
              have HJN : Hid (64 * (j + 1) ≤ (padN (bytesN s)).length) := hjn
              clear hat hjn
              go_wp2_with fail
              refine (block_any bm gk ck gv cv g at_ (cap - at_) ks (mixTo ks hs (padN (bytesN s)) j) (blk (padN (bytesN s)) j) wr cm.out HKr.out HKL.out HKW.out HV.out (mixTo_length _ _ _ HHL.out j) (mixTo_lt _ _ _ HHW.out j) HBY.out (blk_length _ _ HJN.out) (blk_lt _ HPB.out j) hgr).mono ?_
              rintro e w' ⟨rfl, hrow, h1, h2, h3, h4, h5⟩
              have HRN : Hid (Row w' gv (ints (mixTo ks hs (padN (bytesN s)) (j + 1)))) := hrow
              have HON : Hid (Only gv wb w') := HO.out.trans ⟨h3, h4, h5, h1, h2⟩
              clear hrow h1 h2 h3 h4 h5 HBY HKr cm HV HO
              go_wp2
              go_roundw
              case rel =>
                refine ⟨j + 1, by omega, ?_, HRN, HON⟩
                rw [show ((64 * (j + 1) : Nat) : Int) = (at_ : Int) + 64 by rw [HAT.out]; omega]
              case measure => (simp [intOf]; try omega)
            · obtain ⟨at_, hat⟩ : ∃ at_, at_ = 64 * j := ⟨_, rfl⟩
              have hatn : at_ = n := by rw [HNB.out, hat]; omega
              have hjb : j = nb := by omega
              have hatn' : n ≤ at_ := by omega
              rw [← hat]
              obtain ⟨H, hH⟩ : ∃ H, H = mixTo ks hs (padN (bytesN s)) nb := ⟨_, rfl⟩
              have HHE : Hid (H = mixTo ks hs (padN (bytesN s)) nb) := hH
              have HHn : Hid (H.length = 8) := by rw [hH]; exact mixTo_length _ _ _ HHL.out nb
              have HHl : Hid (∀ d ∈ H, d < w32) := by rw [hH]; exact mixTo_lt _ _ _ HHW.out nb
              have HVf : Hid (Row wr gv (ints H)) := by
                have h := HV.out
                rw [hjb] at h
                rw [hH]
                exact h
              clear hat hatn hjb hH HV
              obtain ⟨wx, hwx⟩ : ∃ wx, wx = wr := ⟨_, rfl⟩
              subst hwx
              go_wp2
              go_loopw [1, 9] (fun tv iv_ wr => ∃ i : Nat, i ≤ 8 ∧ iv_ = .int .i64 (i : Int) ∧ tv = .string ⟨((H.take i).flatMap four4).toArray⟩ ∧ Hid (Below wx.heap.size wx wr)) (fun _ iv_ _ => 8 - (intOf iv_).toNat)
              case atStart => exact ⟨0, by omega, rfl, rfl, Below.refl _ _⟩
              case round =>
                rename ¬ at_ < n => h9
                clear hatn' h9
                obtain ⟨i, hi, rfl, rfl, HBx⟩ := hrel
                have hsx := HBx.out.size
                by_cases hlt : i < 8
                · obtain ⟨x, hx⟩ : ∃ x, x = H.getD i 0 := ⟨_, rfl⟩
                  have bx : (x : Int) ≤ 4294967295 := by have := getD_lt HHl.out (by decide) i; rw [← hx] at this; unfold w32 at this; omega
                  have cx : wr.cell? ⟨gv, i, none⟩ = some (.int .i64 (x : Int)) := by
                    rw [row_at (HVf.out.on HBx.out HVf.out.lt) i (by rw [HHn.out]; exact hlt), hx, get_getD]
                  have HX : Hid (x = H.getD i 0) := hx
                  clear hx
                  obtain ⟨a, ha⟩ : ∃ a : ByteArray, a = ⟨((H.take i).flatMap four4).toArray⟩ := ⟨_, rfl⟩
                  have has : a.size = 4 * i := by rw [ha]; exact four_size _ i (by rw [HHn.out]; omega)
                  have HA : Hid (a = ⟨((H.take i).flatMap four4).toArray⟩) := ha
                  rw [← ha]
                  have has' : a.size ≤ 32 := by omega
                  clear ha has
                  go_wp2_with fail
                  refine (four_any x _ bx).mono ?_
                  rintro e w' ⟨rfl, hb⟩
                  have HB2 : Hid (Below wx.heap.size wx w') := HBx.out.trans (hb.mono hsx)
                  clear hb
                  obtain ⟨b, hb⟩ : ∃ b : ByteArray, b = ⟨(four4 x).toArray⟩ := ⟨_, rfl⟩
                  have hbs : b.size = 4 := by rw [hb]; rfl
                  have HBE : Hid (b = ⟨(four4 x).toArray⟩) := hb
                  rw [← hb]
                  have hbs' : b.size ≤ 4 := by omega
                  clear hb hbs
                  go_wp2
                  go_roundw
                  case rel =>
                    refine ⟨i + 1, by omega, by go_num, ?_, HB2⟩
                    rw [HA.out, HBE.out, HX.out]
                    exact congrArg Value.string (four_snoc H i (by rw [HHn.out]; exact hlt))
                  case measure => (simp [intOf]; try omega)
                · have hi8 : i = 8 := by omega
                  go_wp2
                  go_ret
                  refine ⟨?_, ?_⟩
                  · rw [hi8, List.take_of_length_le (by rw [HHn.out]; omega), HHE.out]
                    unfold shaB
                    rw [← HNL.out, HNB.out, Nat.mul_div_cancel_left _ (by omega)]
                    rfl
                  · exact HBb.out.trans ((HO.out.below w.heap.size (by omega) (by omega)).trans (HBx.out.mono (by omega)))
end Go.Proofs.YtapijhhmjjplmaaGreatDoor
namespace Go.Proofs.YtapijhhmjjplmaaGreatDoor
open Go.RowKit

def startL : List Nat := [1779033703, 3144134277, 1013904242, 2773480762, 1359893119, 2600822924, 528734635, 1541459225]
def roundL : List Nat := [1116352408, 1899447441, 3049323471, 3921009573, 961987163, 1508970993, 2453635748, 2870763221, 3624381080, 310598401, 607225278, 1426881987, 1925078388, 2162078206, 2614888103, 3248222580, 3835390401, 4022224774, 264347078, 604807628, 770255983, 1249150122, 1555081692, 1996064986, 2554220882, 2821834349, 2952996808, 3210313671, 3336571891, 3584528711, 113926993, 338241895, 666307205, 773529912, 1294757372, 1396182291, 1695183700, 1986661051, 2177026350, 2456956037, 2730485921, 2820302411, 3259730800, 3345764771, 3516065817, 3600352804, 4094571909, 275423344, 430227734, 506948616, 659060556, 883997877, 958139571, 1322822218, 1537002063, 1747873779, 1955562222, 2024104815, 2227730452, 2361852424, 2428436474, 2756734187, 3204031479, 3329325298]
theorem kc_lit : kc 64 = roundL := by decide +kernel
theorem hc_lit : hc 8 = startL := by decide +kernel
theorem startL_lt : ∀ d ∈ startL, d < w32 := by unfold w32; decide
theorem roundL_lt : ∀ d ∈ roundL, d < w32 := by unfold w32; decide
end Go.Proofs.YtapijhhmjjplmaaGreatDoor
