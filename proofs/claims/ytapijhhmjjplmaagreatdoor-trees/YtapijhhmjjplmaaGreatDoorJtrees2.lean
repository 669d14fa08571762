/- OWN TEXT: joined of: OnceDo PCrc RefCrc RefSum Lits Args Law Upto Does SumsStep Great SumsFacts TreesFacts DMem RefD1 RefD2 RefD3 RefD5. -/
import Derived.Laws.NewBlocks
import Derived.Test.YtapijhhmjjplmaaGreatDoorProg
import Derived.ProofKit
import Derived.Deep.Slices
import Derived.SizedLaws
import Derived.Deep.RegionWith
import Derived.Test.YtapijhhmjjplmaaGreatDoorRows
import Derived.LaidMore
import Derived.LaidLaws
import Derived.LaidHandle
import Derived.OpenShut
import Derived.Lay
import Derived.JoinedOf
import Derived.Maps.AppendAt
import Derived.Test.YtapijhhmjjplmaaGreatDoorJtrees1
namespace Go.Proofs.YtapijhhmjjplmaaGreatDoor
open Go.RowKit
set_option maxRecDepth 100000 in
set_option maxHeartbeats 1600000 in
theorem slow_any (b : Nat) (pl : Addr) (ws : List Nat) (w : World) (hp : w.cell? pl = some (.pointer (some ⟨b, 0, none⟩))) (hpb : pl.block ≠ b) (hw : ws.length = 16) (ht : TabAt w b 0 0 ws) :
    Calls Tryz.prog 313 #[.pointer (some ⟨b, 0, none⟩), .func (.func 294) #[] #[.pointer (some pl)]] w fun e w' => e = .returned (.tuple #[]) ∧ TabAt w' b 1 0 tabN ∧ Same (· = b) w w' := by
  have ht1 := ht.set1 1
  have hs1 : Same (· = b) w (w.setCell ⟨b, 1, none⟩ (.int .i32 1)) := Same.setCell (S := (· = b)) (Same.refl _ w) ⟨b, 1, none⟩ rfl _
  have hp1 := hs1.cell hpb hp
  have HT1 : Hid (TabAt (w.setCell ⟨b, 1, none⟩ (.int .i32 1)) b 0 1 ws) := ht1
  have HS1 : Hid (Same (· = b) w (w.setCell ⟨b, 1, none⟩ (.int .i32 1))) := hs1
  have HP1 : Hid ((w.setCell ⟨b, 1, none⟩ (.int .i32 1)).cell? pl = some (.pointer (some ⟨b, 0, none⟩))) := hp1
  have c1 := ht.c1
  have f1 := ht.frozen 1
  have hl := run_call_load (P := Tryz.prog) Tryz.func322 (by kernel_rfl) (by kernel_rfl) (by kernel_rfl) .u32 (by kernel_rfl) (w := w.setCell ⟨b, 1, none⟩ (.int .i32 1)) (a := ⟨b, 0, none⟩) (x := 0) ht1.c0
  have hnot : ∀ (x : Bool) (w : World), (Op.unary .not (.bool x)).run Tryz.prog w = .ok (.bool (!x)) w := fun _ _ => rfl
  clear ht1 hs1 hp1 ht hp
  go_enter_defers Tryz.func313, Tryz.ntmps313
  go_wp2_with (first | (go_at_call 57; refine (lock_free ⟨b, 1, none⟩ _ c1 f1).mono ?_; rintro e w' ⟨rfl, rfl⟩) | (go_at_call 294; refine (word1_any b pl 0 1 ws _ HP1.out hpb hw HT1.out).mono ?_; rintro e w2 ⟨rfl, h2, s2⟩) | (go_at_call 312; go_in))
  have HS2 : Hid (Same (· = b) w w2) := HS1.out.trans s2
  refine leaves_cons (f := 323) (args := #[.pointer (some ⟨b, 0, none⟩), .bool true]) (by simp) (by simp [go_sem]) ?_
  refine (store_deferred ⟨b, 0, none⟩ (.int .u32 0) .returning _ h2.c0 (h2.frozen 0)).mono ?_
  rintro e u' w3 ⟨rfl, rfl, hw3⟩
  have h3 : TabAt w3 b 1 1 tabN := by rw [hw3]; exact TabAt.set0 (w := w2.drew) h2 1
  have s3 : Same (· = b) w w3 := by rw [hw3]; exact Same.setCell (S := (· = b)) HS2.out.drew ⟨b, 0, none⟩ rfl _
  refine leaves_cons (f := 58) (args := #[.pointer (some ⟨b, 1, none⟩)]) (by simp [settle]) (by simp [go_sem]) ?_
  refine (unlock_deferred ⟨b, 1, none⟩ _ _ h3.c1 (h3.frozen 1)).mono ?_
  rintro e u' w4 ⟨rfl, rfl, hw4⟩
  have h4 : TabAt w4 b 1 0 tabN := by rw [hw4]; exact h3.set1 0
  have s4 : Same (· = b) w w4 := by rw [hw4]; exact Same.setCell (S := (· = b)) s3 ⟨b, 1, none⟩ rfl _
  simp [Leaves, settle, results, Tryz.results313]
  exact ⟨h4, s4⟩
set_option maxRecDepth 100000 in
set_option maxHeartbeats 1600000 in
theorem do_first (b : Nat) (pl : Addr) (ws : List Nat) (w : World) (hp : w.cell? pl = some (.pointer (some ⟨b, 0, none⟩))) (hpb : pl.block ≠ b) (hw : ws.length = 16) (ht : TabAt w b 0 0 ws) :
    Calls Tryz.prog 293 #[.pointer (some ⟨b, 0, none⟩), .func (.func 294) #[] #[.pointer (some pl)]] w fun e w' => e = .returned (.tuple #[]) ∧ TabAt w' b 1 0 tabN ∧ Same (· = b) w w' := by
  have hl := run_call_load (P := Tryz.prog) Tryz.func322 (by kernel_rfl) (by kernel_rfl) (by kernel_rfl) .u32 (by kernel_rfl) (w := w) (a := ⟨b, 0, none⟩) (x := 0) ht.c0
  have hnot : ∀ (x : Bool) (w : World), (Op.unary .not (.bool x)).run Tryz.prog w = .ok (.bool (!x)) w := fun _ _ => rfl
  have HP : Hid (w.cell? pl = some (.pointer (some ⟨b, 0, none⟩))) := hp
  have HT : Hid (TabAt w b 0 0 ws) := ht
  clear hp ht
  go_enter Tryz.func293, Tryz.ntmps293
  go_wp2_with (first | (go_at_call 313; refine (slow_any b pl ws _ HP.out hpb hw HT.out).mono ?_; rintro e w' ⟨rfl, h2, s2⟩) | (go_at_call 312; go_in))
  go_end0
  exact ⟨rfl, h2, s2⟩
set_option maxRecDepth 100000 in
theorem do_done (b : Nat) (m : Int) (fv : Value) (ws : List Nat) (w : World) (ht : TabAt w b 1 m ws) :
    Calls Tryz.prog 293 #[.pointer (some ⟨b, 0, none⟩), fv] w fun e w' => e = .returned (.tuple #[]) ∧ w = w' := by
  have hl := run_call_load (P := Tryz.prog) Tryz.func322 (by kernel_rfl) (by kernel_rfl) (by kernel_rfl) .u32 (by kernel_rfl) (w := w) (a := ⟨b, 0, none⟩) (x := 1) ht.c0
  have hnot : ∀ (x : Bool) (w : World), (Op.unary .not (.bool x)).run Tryz.prog w = .ok (.bool (!x)) w := fun _ _ => rfl
  clear ht
  go_enter Tryz.func293, Tryz.ntmps293
  go_wp2
  go_end0
  exact ⟨rfl, rfl⟩
def zeros16 : List Nat := List.replicate 16 0
/-- A table, fresh or made. -/
def TabOk (w : World) (b : Nat) : Prop := TabAt w b 0 0 zeros16 ∨ TabAt w b 1 0 tabN
theorem TabOk.lt {w : World} {b : Nat} (h : TabOk w b) : b < w.heap.size := h.elim TabAt.lt TabAt.lt
set_option maxRecDepth 100000 in
set_option maxHeartbeats 1600000 in
theorem word_any (b x : Nat) (w : World) (ht : TabOk w b) (hx : x < 16) :
    Calls Tryz.prog 279 #[.pointer (some ⟨b, 0, none⟩), .int .u32 (x : Int)] w fun e w' => e = .returned (.int .u32 (tabN.getD x 0 : Int)) ∧ TabOk w' b ∧ Same (· = b) w w' := by
  have hmf : ∀ (fn : Fn) (first cap : Array Value) (w : World), (Instr.makeFunc fn first cap).run Tryz.prog w = .ok (.func fn first cap) w := fun _ _ _ _ => rfl
  have hlt := ht.lt
  obtain ⟨w1, hw1⟩ : ∃ w1, w1 = w.alloc (.cells #[.pointer (some ⟨b, 0, none⟩)] 174) := ⟨_, rfl⟩
  have p1 : w1.cell? ⟨w.heap.size, 0, none⟩ = some (.pointer (some ⟨b, 0, none⟩)) := by rw [hw1]; simp
  have s1 : Same (· = b) w w1 := by rw [hw1]; exact (Same.refl _ _).alloc _
  have HX : Hid (∀ w' : World, TabAt w' b 1 0 tabN → w'.cell? ⟨b, 3 + x, none⟩ = some (.int .u32 (tabN.getD x 0 : Int))) := fun w' h => by
    rw [h.word x (by rw [tabN_length]; exact hx), get_getD]
  obtain ⟨y, hy⟩ : ∃ y, y = tabN.getD x 0 := ⟨_, rfl⟩
  rw [← hy] at HX ⊢
  clear hy
  rcases ht with ht | ht
  · have HT : Hid (TabAt w1 b 0 0 zeros16) := by rw [hw1]; exact ht.alloc _
    have HP : Hid (w1.cell? ⟨w.heap.size, 0, none⟩ = some (.pointer (some ⟨b, 0, none⟩))) := p1
    have HS : Hid (Same (· = b) w w1) := s1
    have HD : Hid (Calls Tryz.prog 293 #[.pointer (some ⟨b, 0, none⟩), .func (.func 294) #[] #[.pointer (some ⟨w.heap.size, 0, none⟩)]] w1 fun e w' => e = .returned (.tuple #[]) ∧ w'.cell? ⟨w.heap.size, 0, none⟩ = some (.pointer (some ⟨b, 0, none⟩)) ∧ w'.cell? ⟨b, 3 + x, none⟩ = some (.int .u32 (y : Int)) ∧ Hid (TabAt w' b 1 0 tabN) ∧ Hid (Same (· = b) w w')) := by
      refine (do_first b ⟨w.heap.size, 0, none⟩ zeros16 w1 HP.out (by simp; omega) rfl HT.out).mono ?_
      rintro e w2 ⟨rfl, h2, s2⟩
      exact ⟨rfl, s2.cell (by simp; omega) HP.out, HX.out _ h2, h2, HS.out.trans s2⟩
    rw [hw1] at HD
    clear ht p1 s1 HT HP HS hw1 HX w1
    go_enter Tryz.func279, Tryz.ntmps279
    go_wp2_with (go_at_call 293; refine HD.out.mono ?_; rintro e w2 ⟨rfl, p2, c2, H2, S2⟩)
    go_ret
    exact ⟨rfl, .inr H2.out, S2.out⟩
  · have HT : Hid (TabAt w1 b 1 0 tabN) := by rw [hw1]; exact ht.alloc _
    have HS : Hid (Same (· = b) w w1) := s1
    have HD : Hid (∀ fv, Calls Tryz.prog 293 #[.pointer (some ⟨b, 0, none⟩), fv] w1 fun e w' => e = .returned (.tuple #[]) ∧ w'.cell? ⟨w.heap.size, 0, none⟩ = some (.pointer (some ⟨b, 0, none⟩)) ∧ w'.cell? ⟨b, 3 + x, none⟩ = some (.int .u32 (y : Int)) ∧ Hid (TabAt w' b 1 0 tabN) ∧ Hid (Same (· = b) w w')) := fun fv => by
      refine (do_done b 0 fv tabN w1 HT.out).mono ?_
      rintro e w2 ⟨rfl, rfl⟩
      exact ⟨rfl, p1, HX.out _ HT.out, HT, HS⟩
    rw [hw1] at HD
    clear ht p1 s1 HT HS hw1 HX w1
    go_enter Tryz.func279, Tryz.ntmps279
    go_wp2_with (go_at_call 293; refine (HD.out _).mono ?_; rintro e w2 ⟨rfl, p2, c2, H2, S2⟩)
    go_ret
    exact ⟨rfl, .inr H2.out, S2.out⟩
end Go.Proofs.YtapijhhmjjplmaaGreatDoor
namespace Go.Proofs.YtapijhhmjjplmaaGreatDoor
open Go.RowKit
theorem u32_and_15 (z : Nat) (h : (z : Int) ≤ 4294967295) : bits .and .u32 (z : Int) 15 = ((z % 16 : Nat) : Int) := by
  have h1 := u32_and_nat z 15 (by omega) (by omega)
  have h2 : z &&& 15 = z % 16 := Nat.and_two_pow_sub_one_eq_mod z 4
  rw [h2] at h1
  exact h1
theorem tabN_lt (i : Nat) : tabN.getD i 0 < w32 := getD_lt (by unfold w32; decide +kernel) (by decide) i
set_option maxRecDepth 100000 in
set_option maxHeartbeats 1600000 in
theorem tabCrc (b : Nat) (s : ByteArray) (w : World) (ht : TabOk w b) (hs : s.size ≤ 140737488351232) :
    Calls Tryz.prog 238 #[.pointer (some ⟨b, 0, none⟩), .string s] w fun e w' => e = .returned (.int .u32 (crcN s.data.toList : Int)) ∧ Same (· = b) w w' := by
  have hsi : (s.size : Int) ≤ 140737488351232 := by omega
  have HT : Hid (TabOk w b) := ht
  clear ht
  go_enter Tryz.func238, Tryz.ntmps238
  go_wp2
  go_loopw [5, 9] (fun r i wr => ∃ k q : Nat, k ≤ s.size ∧ i = .int .i64 k ∧ r = .int .u32 (q : Int) ∧ (q : Int) ≤ 4294967295 ∧ Hid (q = crcTo (s.data.toList.take k) 4294967295) ∧ Hid (TabOk wr b) ∧ Hid (Same (· = b) w wr)) (fun _ i _ => s.size - (intOf i).toNat)
  case atStart => exact ⟨0, 4294967295, Nat.zero_le _, rfl, rfl, by omega, rfl, HT, Same.refl _ _⟩
  case round =>
    clear HT
    obtain ⟨k, q, hk, rfl, rfl, hq, Hq, HT, HS⟩ := hrel
    by_cases hlt : k < s.size
    · obtain ⟨c, hc⟩ : ∃ c, c = s[k] := ⟨_, rfl⟩
      have hcb : c.toNat < 256 := c.toNat_lt
      have hqw : q < w32 := by unfold w32; omega
      obtain ⟨y, hy⟩ : ∃ y, y = q ^^^ c.toNat := ⟨_, rfl⟩
      have hyw : y < w32 := by rw [hy]; exact xor_w32 hqw (byte_w32 c)
      have hxor : bits .xor .u32 (q : Int) ((c.toNat : Int) % 4294967296) = (y : Int) := by rw [hy, Int.emod_eq_of_lt (by omega) (by omega)]; exact u32_xor_nat q c.toNat (by omega) (by omega)
      rw [hc] at hxor
      have hyi : (y : Int) ≤ 4294967295 := by unfold w32 at hyw; omega
      obtain ⟨r1, hr1⟩ : ∃ r, r = y % 16 := ⟨_, rfl⟩
      have hand1 := u32_and_15 y hyi
      rw [← hr1] at hand1
      have lr1 : r1 < 16 := by omega
      obtain ⟨t1, ht1⟩ : ∃ t, t = tabN.getD r1 0 := ⟨_, rfl⟩
      have lt1 : t1 < w32 := by rw [ht1]; exact tabN_lt _
      obtain ⟨z, hz⟩ : ∃ z, z = (y / 16) ^^^ t1 := ⟨_, rfl⟩
      have hzw : z < w32 := by rw [hz]; exact xor_w32 (by unfold w32 at *; omega) lt1
      have hxz : bits .xor .u32 ((y : Int) / 16) (t1 : Int) = (z : Int) := by
        have h := u32_xor_nat (y / 16) t1 (by omega) (by unfold w32 at lt1; omega)
        rw [hz, ← h]
        rfl
      have hzi : (z : Int) ≤ 4294967295 := by unfold w32 at hzw; omega
      obtain ⟨r2, hr2⟩ : ∃ r, r = z % 16 := ⟨_, rfl⟩
      have hand2 := u32_and_15 z hzi
      rw [← hr2] at hand2
      have lr2 : r2 < 16 := by omega
      obtain ⟨t2, ht2⟩ : ∃ t, t = tabN.getD r2 0 := ⟨_, rfl⟩
      have lt2 : t2 < w32 := by rw [ht2]; exact tabN_lt _
      obtain ⟨v, hv⟩ : ∃ v, v = (z / 16) ^^^ t2 := ⟨_, rfl⟩
      have hvw : v < w32 := by rw [hv]; exact xor_w32 (by unfold w32 at *; omega) lt2
      have hxv : bits .xor .u32 ((z : Int) / 16) (t2 : Int) = (v : Int) := by
        have h := u32_xor_nat (z / 16) t2 (by omega) (by unfold w32 at lt2; omega)
        rw [hv, ← h]
        rfl
      have hvi : (v : Int) ≤ 4294967295 := by unfold w32 at hvw; omega
      have HQ : Hid (v = crcTo (s.data.toList.take (k + 1)) 4294967295) := by
        show _ = _
        rw [take_snoc s k hlt, crcTo_snoc, ← Hq.out, ← hc, ← hy, crcSteps_eight, ← hr1, ← ht1, ← hz, ← hr2, ← ht2, ← hv]
      have HT1 : Hid (t1 = tabN.getD r1 0) := ht1
      have HT2 : Hid (t2 = tabN.getD r2 0) := ht2
      clear hc hy hyw hqw hr1 ht1 hz hzw hr2 ht2 hv hvw lt1 lt2 hcb Hq
      go_wp2_with fail
      refine (word_any b r1 _ HT.out lr1).mono ?_
      rintro e w2 ⟨rfl, h2, s2⟩
      rw [← HT1.out]
      have HT3 : Hid (TabOk w2 b) := h2
      have HS3 : Hid (Same (· = b) w w2) := HS.out.trans s2
      clear h2 s2 HT HS
      go_wp2_with fail
      refine (word_any b r2 _ HT3.out lr2).mono ?_
      rintro e w3 ⟨rfl, h3, s3⟩
      rw [← HT2.out]
      have HT4 : Hid (TabOk w3 b) := h3
      have HS4 : Hid (Same (· = b) w w3) := HS3.out.trans s3
      clear h3 s3 HT3 HS3
      go_wp2
      go_roundw
      case rel => exact ⟨k + 1, v, by omega, by go_num, rfl, hvi, HQ, HT4, HS4⟩
      case measure => (simp [intOf]; try omega)
    · have hnq := u32_not q (by omega)
      go_wp2
      go_ret
      have : s.data.toList.take k = s.data.toList := List.take_of_length_le (by simp; omega)
      have h := Hq.out
      rw [this] at h
      refine ⟨?_, HS.out⟩
      unfold crcN
      rw [← h]
      have e : ((4294967295 - q : Nat) : Int) = 4294967295 - (q : Int) := by omega
      rw [e]
      rfl
set_option maxRecDepth 100000 in
theorem sumsCrc (s : ByteArray) (w : World) (hs : s.size ≤ 140737488351232) :
    Calls Tryz.prog 185 #[.string s] w fun e w' => e = .returned (.int .u32 (crcN s.data.toList : Int)) ∧ Below w.heap.size w w' := by
  have HT : Hid (TabOk (w.alloc (.cells (tabRow 0 0 zeros16).toArray 127)) w.heap.size) := .inl (heap_alloc_new w _)
  obtain ⟨c, hc⟩ : ∃ c, c = crcN s.data.toList := ⟨_, rfl⟩
  have HD : Hid (Calls Tryz.prog 238 #[.pointer (some ⟨w.heap.size, 0, none⟩), .string s] (w.alloc (.cells (tabRow 0 0 zeros16).toArray 127)) fun e w' => e = .returned (.int .u32 (c : Int)) ∧ Hid (Below w.heap.size w w')) := by
    refine (tabCrc w.heap.size s _ HT.out hs).mono ?_
    rintro e w2 ⟨rfl, s2⟩
    refine ⟨by rw [hc], ?_⟩
    exact ((Below.refl _ _).alloc (Nat.le_refl _) _).trans (s2.below (B := w.heap.size) (by rintro k rfl; omega) (by simp))
  rw [← hc]
  clear hc HT
  go_enter Tryz.func185, Tryz.ntmps185
  go_wp2_with fail
  refine HD.out.mono ?_
  rintro e w2 ⟨rfl, HB⟩
  go_wp2
  go_ret
  exact ⟨rfl, HB.out⟩
end Go.Proofs.YtapijhhmjjplmaaGreatDoor
namespace Go.Proofs.YtapijhhmjjplmaaGreatDoor
open Go.RowKit
set_option maxRecDepth 100000 in
set_option maxHeartbeats 1000000 in
theorem refCrc (s : ByteArray) (w : World) (hs : s.size ≤ 140737488351232) :
    Calls Tryz.prog 68 #[.string s] w fun e w' => e = .returned (.int .i64 (crcN s.data.toList : Int)) ∧ w = w' := by
  have hsi : (s.size : Int) ≤ 140737488351232 := by omega
  go_enter Tryz.func68, Tryz.ntmps68
  go_wp2
  go_loop [3, 4] (fun r i => ∃ k q : Nat, k ≤ s.size ∧ i = .int .i64 k ∧ r = .int .i64 (q : Int) ∧ (q : Int) ≤ 4294967295 ∧ Hid (q = crcTo (s.data.toList.take k) 4294967295)) (fun _ i => s.size - (intOf i).toNat)
  case atStart => exact ⟨0, 4294967295, Nat.zero_le _, rfl, rfl, by omega, rfl⟩
  case round =>
    obtain ⟨k, q, hk, rfl, rfl, hq, Hq⟩ := hrel
    by_cases hlt : k < s.size
    · obtain ⟨c, hc⟩ : ∃ c, c = s[k] := ⟨_, rfl⟩
      have hcb : c.toNat < 256 := c.toNat_lt
      have hqw : q < w32 := by unfold w32; omega
      obtain ⟨y, hy⟩ : ∃ y, y = q ^^^ c.toNat := ⟨_, rfl⟩
      have hyw : y < w32 := by rw [hy]; exact xor_w32 hqw (byte_w32 c)
      have hxor : bits .xor .i64 (q : Int) (wrap64 (c.toNat : Int)) = (y : Int) := by rw [hy, Go.IntWalk.wrap64_in _ (by omega)]; exact i64_xor_nat q c.toNat (by omega) (by omega)
      have hyi : (y : Int) ≤ 4294967295 := by unfold w32 at hyw; omega
      have HY : Hid (y = q ^^^ c.toNat) := hy
      have HCC : Hid (c = s[k]) := hc
      rw [hc] at hxor
      have HQ8 : Hid (crcTo (s.data.toList.take (k + 1)) 4294967295 = crcSteps 8 y) := by
        show _ = _
        rw [take_snoc s k hlt, crcTo_snoc, ← Hq.out, ← HCC.out, ← HY.out]
      clear hy hc hqw hyw HY HCC
      go_wp2
      clear hxor
      go_loop [3, 5] (fun r j => ∃ m z : Nat, m ≤ 8 ∧ j = .int .i64 ((8 : Int) - m) ∧ r = .int .i64 (z : Int) ∧ (z : Int) ≤ 4294967295 ∧ Hid (crcSteps m z = crcSteps 8 y)) (fun _ j => 8 - (intOf j).toNat)
      case atStart => exact ⟨8, y, by omega, rfl, rfl, hyi, rfl⟩
      case round =>
        obtain ⟨m, z, hm, rfl, rfl, hz, Hz⟩ := hrel
        by_cases hm0 : 0 < m
        · obtain ⟨m, rfl⟩ : ∃ m', m = m' + 1 := ⟨m - 1, by omega⟩
          have hzw : z < w32 := by unfold w32; omega
          by_cases hodd : z % 2 = 1
          · have hb1 : (((z : Int) % 2) == 1) = true := by rw [beq_iff_eq]; omega
            obtain ⟨u, hu⟩ : ∃ u, u = (z / 2) ^^^ 3988292384 := ⟨_, rfl⟩
            have hxor : bits .xor .i64 ((z : Int) / 2) 3988292384 = (u : Int) := by
              have h := i64_xor_nat (z / 2) 3988292384 (by omega) (by omega)
              rw [hu, ← h]
              rfl
            have hcs : crcStep z = u := by unfold crcStep; rw [if_pos hodd, hu]
            have huw : u < w32 := by rw [← hcs]; exact crcStep_lt z hzw
            have hui : (u : Int) ≤ 4294967295 := by unfold w32 at huw; omega
            have HU : Hid (crcSteps m u = crcSteps 8 y) := by
              show _ = _
              rw [← Hz.out, ← hcs]; rfl
            clear hcs huw hu hzw hodd
            go_wp2
            go_round
            case rel => exact ⟨m, u, by omega, by go_num, rfl, hui, HU⟩
            case measure => (simp [intOf]; try omega)
          · have hb1 : (((z : Int) % 2) == 1) = false := by rw [beq_eq_false_iff_ne]; omega
            have hcs : crcStep z = z / 2 := by unfold crcStep; rw [if_neg hodd]
            have HU : Hid (crcSteps m (z / 2) = crcSteps 8 y) := by
              show _ = _
              rw [← Hz.out, ← hcs]; rfl
            clear hcs hzw hodd
            go_wp2
            go_round
            case rel => exact ⟨m, z / 2, by omega, by go_num, by go_num, by omega, HU⟩
            case measure => (simp [intOf]; try omega)
        · have hm1 : m = 0 := by omega
          subst hm1
          go_wp2
          go_round
          case rel =>
            refine ⟨k + 1, z, by omega, by go_num, rfl, hz, ?_⟩
            show _ = _
            rw [HQ8.out, ← Hz.out]; rfl
          case measure => (simp [intOf]; try omega)
    · go_wp2
      go_ret
      have : s.data.toList.take k = s.data.toList := List.take_of_length_le (by simp; omega)
      have h := Hq.out
      rw [this] at h
      refine ⟨?_, rfl⟩
      unfold crcN
      rw [← h]
      have e : ((4294967295 - q : Nat) : Int) = 4294967295 - (q : Int) := by omega
      rw [e]
      rfl
end Go.Proofs.YtapijhhmjjplmaaGreatDoor
namespace Go.Proofs.YtapijhhmjjplmaaGreatDoor
open Go.RowKit
set_option maxRecDepth 100000 in
theorem four_any (n : Nat) (w : World) (hn : (n : Int) ≤ 4294967295) :
    Calls Tryz.prog 109 #[.int .i64 (n : Int)] w fun e w' => e = .returned (.string ⟨(four4 n).toArray⟩) ∧ Below w.heap.size w w' := by
  have hcv : (convert 134 9 (.slice (some ⟨w.heap.size, 0, none⟩) 4 4)).run Tryz.prog (w.alloc (.cells #[.int .u8 ((n : Int) / 16777216 % 256), .int .u8 ((n : Int) / 65536 % 256), .int .u8 ((n : Int) / 256 % 256), .int .u8 ((n : Int) % 256)] 5)) = .ok (.string ⟨(four4 n).toArray⟩) (w.alloc (.cells #[.int .u8 ((n : Int) / 16777216 % 256), .int .u8 ((n : Int) / 65536 % 256), .int .u8 ((n : Int) / 256 % 256), .int .u8 ((n : Int) % 256)] 5)) := by
    refine run_convert_bytes_back (P := Tryz.prog) _ 134 9 5 ⟨w.heap.size, 0, none⟩ 4 (four4 n) Tryz.underlying134 Tryz.underlying5 Tryz.underlying9 ?_
    have hb : ∀ m : Nat, (UInt8.ofNat (m % 256)).toNat = m % 256 := fun m => by
      rw [UInt8.toNat_ofNat']; omega
    intro j hj
    match j, hj with
    | 0, _ => simp [four4, Addr.add, hb]
    | 1, _ => simp [four4, Addr.add, hb]
    | 2, _ => simp [four4, Addr.add, hb]
    | 3, _ => simp [four4, Addr.add, hb]
  go_enter Tryz.func109, Tryz.ntmps109
  go_wp2
  go_ret
  exact ⟨rfl, (Below.refl _ _).alloc (Nat.le_refl _) _⟩
end Go.Proofs.YtapijhhmjjplmaaGreatDoor
namespace Go.Proofs.YtapijhhmjjplmaaGreatDoor
open Go.RowKit
def startL : List Nat := [1779033703, 3144134277, 1013904242, 2773480762, 1359893119, 2600822924, 528734635, 1541459225]
def roundL : List Nat := [1116352408, 1899447441, 3049323471, 3921009573, 961987163, 1508970993, 2453635748, 2870763221, 3624381080, 310598401, 607225278, 1426881987, 1925078388, 2162078206, 2614888103, 3248222580, 3835390401, 4022224774, 264347078, 604807628, 770255983, 1249150122, 1555081692, 1996064986, 2554220882, 2821834349, 2952996808, 3210313671, 3336571891, 3584528711, 113926993, 338241895, 666307205, 773529912, 1294757372, 1396182291, 1695183700, 1986661051, 2177026350, 2456956037, 2730485921, 2820302411, 3259730800, 3345764771, 3516065817, 3600352804, 4094571909, 275423344, 430227734, 506948616, 659060556, 883997877, 958139571, 1322822218, 1537002063, 1747873779, 1955562222, 2024104815, 2227730452, 2361852424, 2428436474, 2756734187, 3204031479, 3329325298]
theorem kc_lit : kc 64 = roundL := by decide +kernel
theorem hc_lit : hc 8 = startL := by decide +kernel
end Go.Proofs.YtapijhhmjjplmaaGreatDoor
namespace Go.Proofs.YtapijhhmjjplmaaGreatDoor
open Go.ChangeShapes Go.WideShapes Go.RowKit Go.Deep
/-- One step of a script. -/
structure Stp where
  kind : Int
  a : Int
  b : Int
  d : Int
  s : ByteArray
  t : ByteArray
/-- Is an int in the range of a Go int? -/
def inR (n : Int) : Prop := -9223372036854775808 ≤ n ∧ n ≤ 9223372036854775807
/-- The step x lies at ⟨bl, o⟩. -/
structure StpAt (w : World) (bl o : Nat) (x : Stp) : Prop where
  c0 : w.cell? ⟨bl, o, none⟩ = some (.int .i64 x.kind)
  c1 : w.cell? ⟨bl, o + 1, none⟩ = some (.int .i64 x.a)
  c2 : w.cell? ⟨bl, o + 2, none⟩ = some (.int .i64 x.b)
  c3 : w.cell? ⟨bl, o + 3, none⟩ = some (.int .i64 x.d)
  c4 : w.cell? ⟨bl, o + 4, none⟩ = some (.string x.s)
  c5 : w.cell? ⟨bl, o + 5, none⟩ = some (.string x.t)
  rk : inR x.kind
  ra : inR x.a
  rb : inR x.b
  rd : inR x.d
  ns : x.s.size ≤ 140737488351232
  nt : x.t.size ≤ 140737488351232
/-- The script's value, and what lies there. -/
def Scr (w : World) (v : Value) (l : List Stp) : Prop :=
  (∃ ao cap, v = .slice ao 0 cap ∧ l = []) ∨ ∃ bl off cap, v = .slice (some ⟨bl, off, none⟩) l.length cap ∧ 0 < l.length ∧ l.length ≤ 140737488351232 ∧ ∀ i (h : i < l.length), StpAt w bl (off + i * 6) l[i]
theorem StpAt.on {B : Nat} {w w' : World} {bl o : Nat} {x : Stp} (h : StpAt w bl o x) (hb : Below B w w') (hB : bl < B) : StpAt w' bl o x :=
  ⟨by rw [hb.cell (by exact hB)]; exact h.c0, by rw [hb.cell (by exact hB)]; exact h.c1, by rw [hb.cell (by exact hB)]; exact h.c2, by rw [hb.cell (by exact hB)]; exact h.c3,
   by rw [hb.cell (by exact hB)]; exact h.c4, by rw [hb.cell (by exact hB)]; exact h.c5, h.rk, h.ra, h.rb, h.rd, h.ns, h.nt⟩
theorem opCells : Tryz.prog.cellsOf 67 = 6 := by kernel_rfl
theorem opBytes : Tryz.prog.bytesOf 67 = 64 := by kernel_rfl
theorem intCells : Tryz.prog.cellsOf 3 = 1 := by kernel_rfl
theorem strCells1 : Tryz.prog.cellsOf 9 = 1 := by kernel_rfl
theorem inR_of {n : Int} (h : (Lit.int .i64 n).wf = true) : inR n := by
  simp [Lit.wf, IntKind.min, IntKind.max, IntKind.signed, IntKind.bits] at h
  unfold inR
  omega
section
variable {H : Type} {enc : TypeId × Value → H} {W : World} {sp : Nat → Bool} {held : Bool}
theorem six {cs : List Value} (h : cs.length = 6) : ∃ c0 c1 c2 c3 c4 c5, cs = [c0, c1, c2, c3, c4, c5] := by
  match cs, h with
  | [c0, c1, c2, c3, c4, c5], _ => exact ⟨c0, c1, c2, c3, c4, c5, rfl⟩
/-- One step out of its reading. -/
theorem open_stp {n : Nat} {ad : Addr} {cs : List Value} {D : DataW H} {Pl : List MemPlace} (hcs : W.cells? 0 ad 6 = some cs)
    (h : DataW.trod enc Tryz.prog W 0 sp held n 67 cs = some (D, Pl)) (hw : (D.weights Tryz.prog 67).all (· ≤ reachBytes) = true) :
    ∃ x, StpAt W ad.block ad.off x ∧ ad.spot = none := by
  obtain ⟨bl, o, sp0⟩ := ad
  obtain ⟨xs, m, _, hx, hl, hlen, hf⟩ := DataW.trod_struct Tryz.underlying67 h
  rw [opCells] at hl
  obtain ⟨c0, c1, c2, c3, c4, c5, rfl⟩ := six hl
  match xs, hlen with
  | [y0, y1, y2, y3, y4, y5], _ =>
    have f0 : DataW.trod enc Tryz.prog W 0 sp held m 3 [c0] = some y0 := by simpa [intCells] using hf 0 _ rfl
    have f1 : DataW.trod enc Tryz.prog W 0 sp held m 3 [c1] = some y1 := by simpa [intCells] using hf 1 _ rfl
    have f2 : DataW.trod enc Tryz.prog W 0 sp held m 3 [c2] = some y2 := by simpa [intCells] using hf 2 _ rfl
    have f3 : DataW.trod enc Tryz.prog W 0 sp held m 3 [c3] = some y3 := by simpa [intCells] using hf 3 _ rfl
    have f4 : DataW.trod enc Tryz.prog W 0 sp held m 9 [c4] = some y4 := by simpa [strCells1] using hf 4 _ rfl
    have f5 : DataW.trod enc Tryz.prog W 0 sp held m 9 [c5] = some y5 := by simpa [strCells1] using hf 5 _ rfl
    obtain ⟨k0, e0, -, w0⟩ := DataW.trod_int Tryz.underlying3 f0
    obtain ⟨k1, e1, -, w1⟩ := DataW.trod_int Tryz.underlying3 f1
    obtain ⟨k2, e2, -, w2⟩ := DataW.trod_int Tryz.underlying3 f2
    obtain ⟨k3, e3, -, w3⟩ := DataW.trod_int Tryz.underlying3 f3
    obtain ⟨s4, e4, g4, -⟩ := DataW.trod_string Tryz.underlying9 f4
    obtain ⟨s5, e5, g5, -⟩ := DataW.trod_string Tryz.underlying9 f5
    simp only [List.cons.injEq, and_true] at e0 e1 e2 e3 e4 e5
    subst e0 e1 e2 e3 e4 e5
    simp only [Prod.mk.injEq] at hx
    have hwe : DataW.weights Tryz.prog 67 D = DataW.weightsEach Tryz.prog [3, 3, 3, 3, 9, 9] [y0.1, y1.1, y2.1, y3.1, y4.1, y5.1] := by
      rw [hx.1]
      simp [DataW.weights, Tryz.underlying67]
    rw [hwe] at hw
    have hs4 : s4.size ≤ 140737488351232 := by
      have := List.all_eq_true.1 hw s4.data.toList.length (DataW.weights_mem_each (j := 4) (t := 9) (d := y4.1) rfl rfl _ (by rw [g4]; simp [DataW.weights]))
      rw [Array.length_toList, ByteArray.size_data] at this
      exact of_decide_eq_true this
    have hs5 : s5.size ≤ 140737488351232 := by
      have := List.all_eq_true.1 hw s5.data.toList.length (DataW.weights_mem_each (j := 5) (t := 9) (d := y5.1) rfl rfl _ (by rw [g5]; simp [DataW.weights]))
      rw [Array.length_toList, ByteArray.size_data] at this
      exact of_decide_eq_true this
    have hc : ∀ j, j < 6 → W.cell? (Addr.add ⟨bl, o, sp0⟩ j) = [Value.int .i64 k0, .int .i64 k1, .int .i64 k2, .int .i64 k3, .string s4, .string s5][j]? := by
      intro j hj
      have h6 := hcs
      unfold World.cells? at h6
      rw [if_pos (Nat.zero_le _)] at h6
      have := mapM_some_get h6 j j (List.getElem?_range hj)
      exact this
    have hsp : sp0 = none := by
      have h0 := hc 0 (by omega)
      cases sp0 with
      | none => rfl
      | some q =>
        exfalso
        unfold World.cell? at h0
        split at h0
        · simp [Addr.add] at h0
        · cases h0
    subst hsp
    refine ⟨⟨k0, k1, k2, k3, s4, s5⟩, ⟨?_, ?_, ?_, ?_, ?_, ?_, inR_of w0, inR_of w1, inR_of w2, inR_of w3, hs4, hs5⟩, rfl⟩
    · exact hc 0 (by omega)
    · exact hc 1 (by omega)
    · exact hc 2 (by omega)
    · exact hc 3 (by omega)
    · exact hc 4 (by omega)
    · exact hc 5 (by omega)
/-- The script out of its reading. -/
theorem open_script {fuel : Nat} {v : Value} {d : DataW H} {p : List MemPlace} (h : DataW.trod enc Tryz.prog W 0 sp held fuel 22 v.cells.toList = some (d, p))
    (hv : ∃ ao len cap, v = .slice ao len cap) (hw : (d.weights Tryz.prog 22).all (· ≤ reachBytes) = true) : ∃ l, Scr W v l := by
  obtain ⟨ao, len, cap, rfl⟩ := hv
  rcases open_slice Tryz.underlying22 h with ⟨h0, _⟩ | ⟨a, len', cap', m, n, D, Pl, h0, _, hlc, _, hm, hx, hel⟩
  · simp [Value.cells] at h0
    obtain ⟨rfl, rfl, rfl⟩ := h0
    exact ⟨[], .inl ⟨_, _, rfl, rfl⟩⟩
  · simp [Value.cells] at h0
    obtain ⟨rfl, rfl, rfl⟩ := h0
    simp only [Prod.mk.injEq] at hx
    have hm' : len ≤ m := by rw [hm]; split <;> omega
    have hwe := hw
    rw [hx.1] at hwe
    simp only [DataW.weights, Tryz.underlying22, List.all_cons, List.all_append, Bool.and_eq_true] at hwe
    obtain ⟨bl, off, spt⟩ := a
    have hall : ∀ i, i < len → ((D i).weights Tryz.prog 67).all (· ≤ reachBytes) = true := by
      intro i hi
      refine List.all_eq_true.2 fun n hn => List.all_eq_true.1 hwe.2.1 n ?_
      have hmem : D i ∈ (List.range len).map D := List.mem_map.2 ⟨i, List.mem_range.2 hi, rfl⟩
      generalize (List.range len).map D = L at hmem
      clear hwe hw hx
      induction L with
      | nil => cases hmem
      | cons x r ih =>
        simp only [DataW.weightsAll, List.mem_append]
        rcases List.mem_cons.1 hmem with h1 | h1
        · exact .inl (h1 ▸ hn)
        · exact .inr (ih h1)
    have hone : ∀ i, ∃ x : Stp, i < len → StpAt W bl (off + i * 6) x ∧ (i = 0 → spt = none) := by
      intro i
      by_cases hi : i < len
      · obtain ⟨cs', hc1, hc2⟩ := hel i (by omega)
        rw [opCells] at hc1
        obtain ⟨x, hx1, hx2⟩ := open_stp hc1 hc2 (hall i hi)
        refine ⟨x, fun _ => ⟨?_, fun h0 => ?_⟩⟩
        · have e1 : (Addr.add ⟨bl, off, spt⟩ (i * 6)).block = bl := by unfold Addr.add; split <;> rfl
          have e2 : (Addr.add ⟨bl, off, spt⟩ (i * 6)).off = off + i * 6 := by
            unfold Addr.add
            split
            · rename_i h; rw [h]; rfl
            · rfl
          rw [e1, e2] at hx1
          exact hx1
        · subst h0
          exact hx2
      · exact ⟨⟨0, 0, 0, 0, ByteArray.empty, ByteArray.empty⟩, fun h => absurd h hi⟩
    obtain ⟨X, hX⟩ := Classical.axiomOfChoice hone
    have hlen64 : len ≤ 140737488351232 := by
      have h1 := of_decide_eq_true hwe.1
      rw [opBytes, List.length_map, List.length_range] at h1
      unfold reachBytes at h1
      omega
    by_cases h0 : len = 0
    · subst h0
      exact ⟨[], .inl ⟨_, _, rfl, rfl⟩⟩
    · have hsp : spt = none := (hX 0 (by omega)).2 rfl
      subst hsp
      refine ⟨(List.range len).map X, .inr ⟨bl, off, cap, by simp, by rw [List.length_map, List.length_range]; omega, by simpa using hlen64, fun i hi => ?_⟩⟩
      have hi' : i < len := by simpa using hi
      rw [List.getElem_map, List.getElem_range]
      exact (hX i hi').1
end
end Go.Proofs.YtapijhhmjjplmaaGreatDoor
namespace Go.Proofs.YtapijhhmjjplmaaGreatDoor
open Go.RowKit
abbrev stpV (x : Stp) : Value := .agg #[.int .i64 x.kind, .int .i64 x.a, .int .i64 x.b, .int .i64 x.d, .string x.s, .string x.t]
/-- How much a script is, up to step i. -/
def bulk (l : List Stp) : Nat := (l.map fun x => x.s.size + x.t.size).sum
theorem bulk_succ (l : List Stp) (i : Nat) (h : i < l.length) : bulk (l.take (i + 1)) = bulk (l.take i) + (l[i].s.size + l[i].t.size) := by
  unfold bulk
  rw [List.take_succ_eq_append_getElem h, List.map_append, List.sum_append]
  simp
/-- What 'small' comes to. -/
def SmallPost (l : List Stp) (w : World) (e : Ending) (w' : World) : Prop := ∃ r : Bool, e = .returned (.bool r) ∧ (r = true → l.length + bulk l ≤ 262144) ∧ Below w.heap.size w w'
set_option maxRecDepth 100000 in
set_option maxHeartbeats 1000000 in
theorem small_any (v : Value) (l : List Stp) (w : World) (hs : Scr w v l) :
    Calls Tryz.prog 22 #[v] w fun e w' => SmallPost l w e w' := by
  rcases hs with ⟨ao, cap, rfl, rfl⟩ | ⟨bl, off, cap, rfl, hpos, hlen, hcell⟩
  · go_enter Tryz.func22, Tryz.ntmps22
    go_wp2
    go_loop [4] (fun i => i = .int .i64 0) (fun _ => 0)
    case atStart => rfl
    case round =>
      obtain rfl := hrel
      go_wp2
      go_ret
      exact ⟨true, rfl, fun _ => by simp [bulk], Below.refl _ _⟩
  · obtain ⟨n, hn⟩ : ∃ n, n = l.length := ⟨_, rfl⟩
    have HN : Hid (n = l.length) := hn
    have HC : Hid (∀ i (h : i < l.length), StpAt w bl (off + i * 6) l[i]) := hcell
    have hlen' : (n : Int) ≤ 140737488351232 := by omega
    rw [← hn]
    clear hn hcell hlen hpos
    by_cases hbig : n ≤ 262144
    · have hbi : (n : Int) ≤ 262144 := by omega
      go_enter Tryz.func22, Tryz.ntmps22
      go_wp2
      go_loopw [3, 4] (fun nv i wr => ∃ m q : Nat, m ≤ n ∧ i = .int .i64 m ∧ nv = .int .i64 (q : Int) ∧ q ≤ 262144 ∧ Hid (q = n + bulk (l.take m)) ∧ Hid (∃ nq, wr = w.drewN nq)) (fun _ i _ => n - (intOf i).toNat)
      case atStart => exact ⟨0, n, by omega, rfl, rfl, hbig, rfl, ⟨0, rfl⟩⟩
      case round =>
        obtain ⟨m, q, hm, rfl, rfl, hq, Hq, ⟨nq, hnq⟩⟩ := hrel
        subst hnq
        by_cases hlt : m < n
        · have hml : m < l.length := by have := HN.out; omega
          obtain ⟨x, hx⟩ : ∃ x, x = l[m] := ⟨_, rfl⟩
          have hat := HC.out m hml
          rw [← hx] at hat
          have c4 := hat.c4
          have c5 := hat.c5
          have n4 : (x.s.size : Int) ≤ 140737488351232 := by have := hat.ns; omega
          have n5 : (x.t.size : Int) ≤ 140737488351232 := by have := hat.nt; omega
          have HX : Hid (x = l[m]) := hx
          clear hat hx
          by_cases hle : q + x.s.size + x.t.size ≤ 262144
          · have hle' : (q : Int) + (x.s.size : Int) + (x.t.size : Int) ≤ 262144 := by omega
            go_wp2
            go_quiet (fail)
            go_wp2
            go_roundw
            case rel =>
              refine ⟨m + 1, q + x.s.size + x.t.size, by omega, by go_num, by go_num, hle, ?_, ?_⟩
              · show _ = _
                rw [bulk_succ l m hml, ← HX.out, Hq.out]
                omega
              · exact ⟨_, rfl⟩
            case measure => (simp [intOf]; try omega)
          · have hle' : 262144 < (q : Int) + (x.s.size : Int) + (x.t.size : Int) := by omega
            go_wp2
            go_quiet (fail)
            go_wp2
            go_ret
            exact ⟨false, rfl, (fun h => by cases h), ⟨rfl, rfl, rfl, Nat.le_refl _, fun _ _ => rfl⟩⟩
        · go_wp2
          go_ret
          refine ⟨true, rfl, fun _ => ?_, ⟨rfl, rfl, rfl, Nat.le_refl _, fun _ _ => rfl⟩⟩
          have h1 := Hq.out
          have h2 := HN.out
          rw [List.take_of_length_le (by omega)] at h1
          omega
    · have hbi : 262144 < (n : Int) := by omega
      go_enter Tryz.func22, Tryz.ntmps22
      go_wp2
      go_ret
      exact ⟨false, rfl, (fun h => by cases h), Below.refl _ _⟩
end Go.Proofs.YtapijhhmjjplmaaGreatDoor
namespace Go.Proofs.YtapijhhmjjplmaaGreatDoor
open Go.RowKit
theorem Scr.on {w w' : World} {v : Value} {l : List Stp} (h : Scr w v l) (hb : Below w.heap.size w w') : Scr w' v l := by
  rcases h with h | ⟨bl, off, cap, rfl, hpos, hlen, hcell⟩
  · exact .inl h
  · refine .inr ⟨bl, off, cap, rfl, hpos, hlen, fun i hi => (hcell i hi).on hb ?_⟩
    have h0 := (hcell i hi).c0
    rcases Nat.lt_or_ge bl w.heap.size with h' | h'
    · exact h'
    · simp [World.cell?, Array.getElem?_eq_none h'] at h0
/-- The law's world as UpTo lays it, ahead of the maker. -/
def freshW : Array Value := #[.pointer none, .slice none 0 0, .slice none 0 0, .slice none 0 0, .int .i64 0, .int .i64 262144]
/-- What the maker leaves. -/
structure Made (w w1 : World) (b : Nat) (kv hv : Value) : Prop where
  le : w.heap.size ≤ b
  blk : w1.heap[b]? = some (.cells #[kv, hv] 142 (0, 0))
  ok : w1.ownsRow w.heap.size 3 1 kv 64 (iv (kc 64))
  oh : w1.ownsRow w.heap.size 3 1 hv 8 (iv (hc 8))
  kh : kv.ownBlock ≠ hv.ownBlock
  kb : kv.ownBlock ≠ some b
  hb : hv.ownBlock ≠ some b
  below : Below w.heap.size w w1
def UptoPost (w : World) (e : Ending) (w' : World) : Prop := e = .returned (.int .i64 (-1)) ∧ Below w.heap.size w w'
def PlaysPost (w : World) (e : Ending) (w' : World) : Prop := e = .returned (.bool true) ∧ Below w.heap.size w w'
end Go.Proofs.YtapijhhmjjplmaaGreatDoor
namespace Go.Proofs.YtapijhhmjjplmaaGreatDoor
open Go.RowKit
theorem looks_nil (bw : Nat) (W : World) (h3 : W.cell? ⟨bw, 3, none⟩ = some (.slice none 0 0)) :
    Calls Tryz.prog 42 #[.pointer (some ⟨bw, 0, none⟩)] W fun e W' => e = .returned (.bool true) ∧ W = W' := by
  go_enter Tryz.func42, Tryz.ntmps42
  go_wp2
  go_loop [3] (fun i => i = .int .i64 0) (fun _ => 0)
  case atStart => rfl
  case round =>
    obtain rfl := hrel
    go_wp2
    go_ret
    exact ⟨rfl, rfl⟩
end Go.Proofs.YtapijhhmjjplmaaGreatDoor
namespace Go.Proofs.YtapijhhmjjplmaaGreatDoor
open Go.RowKit
theorem row_of_own {w : World} {B n : Nat} {e : TypeId} {v : Value} {l : List Nat} (h : w.ownsRow B e 1 v n (iv l)) (hn : 0 < n) : ∃ g cap, v = .slice (some ⟨g, 0, none⟩) n cap ∧ B ≤ g ∧ Row w g (ints l) := by
  obtain ⟨_, h | ⟨g, cap, cur, hv, hB, hg, _, _, _, htk⟩⟩ := h
  · omega
  · refine ⟨g, cap, hv, hB, e, cur.toList.drop (n * 1), ?_⟩
    have e1 : (ints l).map (Value.int .i64) = iv l := by simp [ints, iv]
    rw [e1, ← htk, List.take_append_drop]
    exact hg
/-- What the law's world holds ahead of every step of Sums. -/
def wRow (b : Nat) : Array Value := #[.pointer (some ⟨b, 0, none⟩), .slice none 0 0, .slice none 0 0, .slice none 0 0, .int .i64 0, .int .i64 262144]
structure SInv (w W : World) : Prop where
  below : Below w.heap.size w W
  ex : ∃ b gk ck gh ch, W.heap[w.heap.size]? = some (.cells (wRow b) 73 (0, 0)) ∧
    W.heap[b]? = some (.cells #[.slice (some ⟨gk, 0, none⟩) 64 ck, .slice (some ⟨gh, 0, none⟩) 8 ch] 142 (0, 0)) ∧ Row W gk (ints roundL) ∧ Row W gh (ints startL)
theorem SInv.init {w w1 : World} {b : Nat} {kv hv : Value} (M : Made (w.alloc (.cells freshW 73)) w1 b kv hv) : SInv w (w1.setCell ⟨w.heap.size, 0, none⟩ (.pointer (some ⟨b, 0, none⟩))) := by
  obtain ⟨gk, ck, rfl, hgk, rk⟩ := row_of_own M.ok (by omega)
  obtain ⟨gh, ch, rfl, hgh, rh⟩ := row_of_own M.oh (by omega)
  have hle := M.le
  simp at hle hgk hgh
  have h0 : w1.heap[w.heap.size]? = some (.cells freshW 73 (0, 0)) := by
    rw [M.below.block _ (by simp)]
    exact heap_alloc_new w _
  refine ⟨?_, b, gk, ck, gh, ch, ?_, ?_, ?_, ?_⟩
  · exact (((Below.refl _ _).alloc (Nat.le_refl _) _).trans (M.below.mono (by simp))).setCell (Nat.le_refl _) _
  · rw [heap_setCell_same w1 _ 0 _ _ _ h0]
    rfl
  · rw [heap_setCell_other _ _ _ _ (by show b ≠ w.heap.size; omega)]
    exact M.blk
  · rw [← kc_lit]
    exact rk.setOther _ (by show w.heap.size ≠ gk; omega) _
  · rw [← hc_lit]
    exact rh.setOther _ (by show w.heap.size ≠ gh; omega) _
end Go.Proofs.YtapijhhmjjplmaaGreatDoor
namespace Go.Proofs.YtapijhhmjjplmaaGreatDoor
open Go.ChangeShapes Go.WideShapes Go.ChangeAt Go.WideMaps Go.WideElems Go.RowKit
theorem own : ownKnob Tryz.prog.godebug = none := by kernel_rfl
def laidL : List (String × DataW Unit) := Rows.sumsRow.laid
theorem plain_of_laidH {P : Program} {W : World} {l : List (String × DataW Unit)} (h : laidMetH P l W) : laidMet P (l.filter fun x => x.2.handleName?.isNone) W := by
  unfold laidMetH at h
  split at h
  · rename_i hf
    have e : (l.filter fun x => x.2.handleName?.isNone) = l := by
      rw [List.filter_eq_self]
      intro x hx
      have := (List.filter_eq_nil_iff.1 hf) x hx
      cases hn : x.2.handleName? with
      | none => rfl
      | some s => rw [hn] at this; exact absurd rfl this
    rw [e]
    exact h
  · exact h.1
/-- The witness's world: what the door lays, and the pinned table besides. -/
def bigL : List (String × DataW Unit) := [("unicode/utf8.first", Rows.laid_unicode_utf8_first)]
theorem big_is : ((laidL.filter fun x => x.2.handleName?.isNone).filter fun x => ["unicode/utf8.first"].contains x.1) = bigL := by kernel_rfl
set_option maxRecDepth 100000 in
theorem wit_met (os : Os) (args : Array Value) : laidMetH Tryz.prog laidL (((World.doorLaid Tryz.prog 264 os).layVars Tryz.prog bigL).forCall (fun _ _ => 0) ⟨#[], args, []⟩).memory :=
  laidMetH_of_parts3 (fuel := 8) (laidMet_layVars (w0 := World.doorLaid Tryz.prog 264 os) ["unicode/utf8.first"] ((List.range (World.doorLaid Tryz.prog 264 os).heap.size).filter (· != 16)) (by rw [big_is]; simp [World.memory, World.forCall, Input.heap]) (by kernel_rfl) (by kernel_rfl)
    (LaidIn.of_run _ 8 (by kernel_rfl) (by kernel_rfl) (by kernel_rfl) (by kernel_rfl))) (by kernel_rfl) (by kernel_rfl)
end Go.Proofs.YtapijhhmjjplmaaGreatDoor
namespace Go.Proofs.YtapijhhmjjplmaaGreatDoor
theorem s_laidOut : laidOutB Tryz.prog = true := by kernel_rfl
theorem s_mapsRowed : mapsRowed Tryz.prog = true := by kernel_rfl
end Go.Proofs.YtapijhhmjjplmaaGreatDoor
namespace Go.Proofs.YtapijhhmjjplmaaGreatDoor
theorem t_wf : Rows.treesRow.wf (OpenSpec.ofChange Rows.treesSpec) = true := by kernel_rfl
theorem t_inPlace : (Rows.treesRow.inPlace == Tryz.prog.inPlace 5) = true := by kernel_rfl
theorem t_unfollowed : (Rows.treesRow.unfollowed == Tryz.prog.unfollowed 5) = true := by kernel_rfl
theorem t_recurses : (Rows.treesRow.recurses == Tryz.prog.recurses 5) = true := by kernel_rfl
theorem t_named : (Rows.treesRow.named == Tryz.prog.varsNamed 5) = true := by kernel_rfl
theorem t_namedTie : namedTie Tryz.prog Rows.treesRow.named Rows.treesSpec.vars = true := by kernel_rfl
theorem t_funcNamed : Tryz.prog.funcNamed "keepsake/keepsakelaw.Trees" = some 5 := by kernel_rfl
theorem t_joined : joinedFacts Tryz.prog 5 Tryz.f5 Rows.treesSpec Rows.treesRow = true := by
  unfold joinedFacts
  rw [t_wf, s_laidOut, s_mapsRowed, t_namedTie, t_inPlace, t_unfollowed, t_recurses, t_named]
  kernel_rfl
end Go.Proofs.YtapijhhmjjplmaaGreatDoor
namespace Go.Proofs.YtapijhhmjjplmaaGreatDoor
open Go.RowKit
/-- The slice v has a row of its own, or none; its block is of S. -/
def OwnS (w : World) (S : Nat → Prop) (e : TypeId) (k : Nat) (v : Value) (n : Nat) (xs : List Value) : Prop := w.ownsRow 0 e k v n xs ∧ ∀ g, v.ownBlock = some g → S g
theorem own_heap {w w' : World} {B n k : Nat} {e : TypeId} {v : Value} {xs : List Value} (h : w.ownsRow B e k v n xs) (hg : ∀ g, v.ownBlock = some g → w'.heap[g]? = w.heap[g]?) : w'.ownsRow B e k v n xs := by
  obtain ⟨h1, h2 | ⟨g, cap, cur, hv, hB, hh, h3⟩⟩ := h
  · exact ⟨h1, .inl h2⟩
  · exact ⟨h1, .inr ⟨g, cap, cur, hv, hB, by rw [hg g (by rw [hv]; rfl)]; exact hh, h3⟩⟩
theorem OwnS.on {w w' : World} {S T : Nat → Prop} {n k : Nat} {e : TypeId} {v : Value} {xs : List Value} (h : OwnS w S e k v n xs) (hs : Same T w w') (hd : ∀ g, v.ownBlock = some g → ¬ T g) : OwnS w' S e k v n xs := by
  refine ⟨own_heap h.1 fun g hg => ?_, h.2⟩
  obtain ⟨h1, h2 | ⟨g', cap, cur, hv, hB, hh, h3⟩⟩ := h.1
  · rw [h2.1] at hg; cases hg
  · rw [hv] at hg
    cases hg
    exact hs.block g' (Array.getElem?_eq_some_iff.1 hh).1 (hd g' (by rw [hv]; rfl))
theorem OwnS.lt {w : World} {S : Nat → Prop} {n k : Nat} {e : TypeId} {v : Value} {xs : List Value} (h : OwnS w S e k v n xs) {g : Nat} (hg : v.ownBlock = some g) : g < w.heap.size := by
  obtain ⟨h1, h2 | ⟨g', cap, cur, hv, hB, hh, h3⟩⟩ := h.1
  · rw [h2.1] at hg; cases hg
  · rw [hv] at hg
    cases hg
    exact (Array.getElem?_eq_some_iff.1 hh).1
theorem OwnS.mono {w : World} {S T : Nat → Prop} {n k : Nat} {e : TypeId} {v : Value} {xs : List Value} (h : OwnS w S e k v n xs) (hd : ∀ g, S g → T g) : OwnS w T e k v n xs := ⟨h.1, fun g hg => hd g (h.2 g hg)⟩
/-- What a slice that is not empty is. -/
theorem OwnS.open {w : World} {S : Nat → Prop} {n k : Nat} {e : TypeId} {v : Value} {xs : List Value} (h : OwnS w S e k v n xs) (hn : 0 < n) :
    ∃ g cap, v = .slice (some ⟨g, 0, none⟩) n cap ∧ S g ∧ (∀ j (hj : j < xs.length), w.cell? ⟨g, j, none⟩ = some xs[j]) ∧ ∀ j, w.frozen? ⟨g, j, none⟩ = false := by
  obtain ⟨h1, h2 | ⟨g, cap, cur, hv, hB, hh, h3, h4, h5, h6⟩⟩ := h.1
  · omega
  · refine ⟨g, cap, hv, h.2 g (by rw [hv]; rfl), fun j hj => ?_, fun j => frozen_of_row w g j _ _ hh⟩
    rw [cell_of_row w g j _ _ _ hh, ← Array.getElem?_toList]
    have : (cur.toList.take (n * k))[j]? = some xs[j] := by rw [h6]; exact List.getElem?_eq_getElem hj
    rw [List.getElem?_take_of_lt (by omega)] at this
    exact this
/-- A cell of such a row is written. -/
theorem OwnS.set {w : World} {S : Nat → Prop} {n k g cap : Nat} {e : TypeId} {xs : List Value} (h : OwnS w S e k (.slice (some ⟨g, 0, none⟩) n cap) n xs) (j : Nat) (y : Value) :
    OwnS (w.setCell ⟨g, j, none⟩ y) S e k (.slice (some ⟨g, 0, none⟩) n cap) n (xs.set j y) := by
  obtain ⟨h1, h2 | ⟨g', cap', cur, hv, hB, hh, h3, h4, h5, h6⟩⟩ := h.1
  · cases h2.1
  · cases hv
    refine ⟨⟨by rw [List.length_set]; exact h1, .inr ⟨g, cap, cur.setIfInBounds j y, rfl, hB, ?_, h3, h4, by simpa using h5, ?_⟩⟩, h.2⟩
    · exact heap_setCell_same w g j _ _ y hh
    · rw [Array.toList_setIfInBounds, List.take_set, h6]
def strs (l : List ByteArray) : List Value := l.map Value.string
def wrefs (l : List (Nat × ByteArray)) : List Value := l.flatMap fun x => [.int .i64 (x.1 : Int), .string x.2]
theorem strs_length (l : List ByteArray) : (strs l).length = l.length := by simp [strs]
/-- The reference's disk. -/
structure RDsk where
  safe : List ByteArray
  seen : List ByteArray
  wait : List (Nat × ByteArray)
  left : Int
  lit : Bool
  down : Bool
def refRow (sv nv wv : Value) (left : Int) (lit down : Bool) : Array Value := #[sv, nv, wv, .int .i64 left, .bool lit, .bool down]
structure RefV (w : World) (S : Nat → Prop) (be : Nat) (sv nv wv : Value) (r : RDsk) : Prop where
  blk : w.heap[be]? = some (.cells (refRow sv nv wv r.left r.lit r.down) 149 (0, 0))
  sb : S be
  safe : OwnS w S 9 1 sv r.safe.length (strs r.safe)
  seen : OwnS w S 9 1 nv r.seen.length (strs r.seen)
  wait : OwnS w S 307 2 wv r.wait.length (wrefs r.wait)
  d1 : ∀ g, sv.ownBlock = some g → g ≠ be ∧ nv.ownBlock ≠ some g ∧ wv.ownBlock ≠ some g
  d2 : ∀ g, nv.ownBlock = some g → g ≠ be ∧ wv.ownBlock ≠ some g
  d3 : ∀ g, wv.ownBlock = some g → g ≠ be
def RefAt (w : World) (S : Nat → Prop) (be : Nat) (r : RDsk) : Prop := ∃ sv nv wv, RefV w S be sv nv wv r
theorem RefAt.on {w w' : World} {S T : Nat → Prop} {be : Nat} {r : RDsk} (h : RefAt w S be r) (hs : Same T w w') (hd : ∀ g, S g → ¬ T g) : RefAt w' S be r := by
  obtain ⟨sv, nv, wv, h⟩ := h
  refine ⟨sv, nv, wv, ?_, h.sb, h.safe.on hs (fun g hg => hd g (h.safe.2 g hg)), h.seen.on hs (fun g hg => hd g (h.seen.2 g hg)), h.wait.on hs (fun g hg => hd g (h.wait.2 g hg)), h.d1, h.d2, h.d3⟩
  rw [hs.block be (Array.getElem?_eq_some_iff.1 h.blk).1 (hd be h.sb)]
  exact h.blk
theorem RefAt.mono {w : World} {S T : Nat → Prop} {be : Nat} {r : RDsk} (h : RefAt w S be r) (hd : ∀ g, S g → T g) : RefAt w T be r := by
  obtain ⟨sv, nv, wv, h⟩ := h
  exact ⟨sv, nv, wv, h.blk, hd _ h.sb, h.safe.mono hd, h.seen.mono hd, h.wait.mono hd, h.d1, h.d2, h.d3⟩
/-- A world whose blocks but be are as they were. -/
theorem RefV.turn {w w' : World} {S : Nat → Prop} {be : Nat} {sv nv wv : Value} {r : RDsk} (h : RefV w S be sv nv wv r) (hs : Same (· = be) w w') (left : Int) (lit down : Bool)
    (hb : w'.heap[be]? = some (.cells (refRow sv nv wv left lit down) 149 (0, 0))) : RefV w' S be sv nv wv { r with left := left, lit := lit, down := down } :=
  ⟨hb, h.sb, h.safe.on hs (fun g hg => (h.d1 g hg).1), h.seen.on hs (fun g hg => (h.d2 g hg).1), h.wait.on hs (fun g hg => h.d3 g hg), h.d1, h.d2, h.d3⟩
theorem Same.weak {S T : Nat → Prop} {w w' : World} (h : Same S w w') (hd : ∀ g, S g → T g) : Same T w w' := ⟨h.os, h.tape, h.output, h.size, fun k hk hn => h.block k hk fun hs => hn (hd k hs)⟩
end Go.Proofs.YtapijhhmjjplmaaGreatDoor
namespace Go.Proofs.YtapijhhmjjplmaaGreatDoor
open Go.RowKit
/-- What an operation leaves of the flags. -/
def RDsk.op (r : RDsk) : RDsk := if r.lit then { r with left := wrap64 (r.left - 1), down := r.down || decide (wrap64 (r.left - 1) ≤ 0) } else r
theorem op_not (r : RDsk) (h : r.lit = false) : r.op = r := by unfold RDsk.op; rw [h]; rfl
theorem op_lit (r : RDsk) (h : r.lit = true) : r.op = { r with left := wrap64 (r.left - 1), down := r.down || decide (wrap64 (r.left - 1) ≤ 0) } := by unfold RDsk.op; rw [h]; rfl
set_option maxRecDepth 100000 in
theorem ref_may (be : Nat) (S : Nat → Prop) (r : RDsk) (w : World) (h : RefAt w S be r) :
    Calls Tryz.prog 186 #[.pointer (some ⟨be, 0, none⟩)] w fun e w' => e = .returned (.bool (!r.op.down)) ∧ RefAt w' S be r.op ∧ Same S w w' := by
  obtain ⟨sv, nv, wv, h⟩ := h
  have c3 : w.cell? ⟨be, 3, none⟩ = some (.int .i64 r.left) := cell_of_row _ _ _ _ _ _ h.blk
  have c4 : w.cell? ⟨be, 4, none⟩ = some (.bool r.lit) := cell_of_row _ _ _ _ _ _ h.blk
  have c5 : w.cell? ⟨be, 5, none⟩ = some (.bool r.down) := cell_of_row _ _ _ _ _ _ h.blk
  have f3 := frozen_of_row w be 3 _ _ h.blk
  have f5 := frozen_of_row w be 5 _ _ h.blk
  have HB : Hid (RefV w S be sv nv wv r) := h
  have hnot : ∀ (x : Bool) (w : World), (Op.unary .not (.bool x)).run Tryz.prog w = .ok (.bool (!x)) w := fun _ _ => rfl
  clear h
  cases hl : r.lit
  · rw [hl] at c4
    rw [op_not r hl]
    have HL : Hid (r.lit = false) := hl
    clear hl
    go_enter Tryz.func186, Tryz.ntmps186
    go_wp2
    go_ret
    exact ⟨rfl, ⟨sv, nv, wv, HB.out⟩, Same.refl _ _⟩
  · rw [hl] at c4
    rw [op_lit r hl]
    have h1 := heap_setCell_same w be 3 _ _ (.int .i64 (wrap64 (r.left - 1))) HB.out.blk
    have s1 : Same (· = be) w (w.setCell ⟨be, 3, none⟩ (.int .i64 (wrap64 (r.left - 1)))) := Same.setCell (S := (· = be)) (Same.refl _ w) ⟨be, 3, none⟩ rfl _
    by_cases hz : wrap64 (r.left - 1) ≤ 0
    · have h2 := heap_setCell_same _ be 5 _ _ (.bool true) h1
      have s2 := Same.setCell (S := (· = be)) s1 ⟨be, 5, none⟩ rfl (.bool true)
      have H2 : Hid (RefV _ S be sv nv wv { r with left := wrap64 (r.left - 1), down := r.down || decide (wrap64 (r.left - 1) ≤ 0) }) := HB.out.turn s2 _ _ _ (by rw [h2, decide_eq_true hz, Bool.or_true, hl]; rfl)
      have HS : Hid (Same S w _) := s2.weak (by rintro g rfl; exact HB.out.sb)
      have hd : (!(r.down || decide (wrap64 (r.left - 1) ≤ 0))) = false := by rw [decide_eq_true hz, Bool.or_true]; rfl
      rw [hd]
      clear h1 h2 s1 s2 hl hd
      go_enter Tryz.func186, Tryz.ntmps186
      go_wp2
      go_ret
      exact ⟨rfl, ⟨sv, nv, wv, H2.out⟩, HS.out⟩
    · have H2 : Hid (RefV _ S be sv nv wv { r with left := wrap64 (r.left - 1), down := r.down || decide (wrap64 (r.left - 1) ≤ 0) }) := HB.out.turn s1 _ _ _ (by rw [h1, decide_eq_false hz, Bool.or_false, hl]; rfl)
      have HS : Hid (Same S w _) := s1.weak (by rintro g rfl; exact HB.out.sb)
      have hd : (!(r.down || decide (wrap64 (r.left - 1) ≤ 0))) = !r.down := by rw [decide_eq_false hz, Bool.or_false]
      rw [hd]
      clear h1 s1 hl hd
      go_enter Tryz.func186, Tryz.ntmps186
      go_wp2
      go_ret
      exact ⟨rfl, ⟨sv, nv, wv, H2.out⟩, HS.out⟩
end Go.Proofs.YtapijhhmjjplmaaGreatDoor
namespace Go.Proofs.YtapijhhmjjplmaaGreatDoor
open Go.RowKit
theorem infoWaits : (Tryz.prog.info? 307).map (fun i => (i.zero, i.size, i.bytes)) = some (some (.agg #[.int .i64 0, .string ⟨#[]⟩]), 2, 24) := by kernel_rfl
theorem cells_two (w : World) (x y : Value) (t : TypeId) : ∀ j u, [x, y][j]? = some u → (w.alloc (.cells #[x, y] t)).cell? ((⟨w.heap.size, 0, none⟩ : Addr).add j) = some u := by
  intro j u hj
  match j, hj with
  | 0, hj =>
    simp at hj
    subst hj
    simp [Addr.add]
  | 1, hj =>
    simp at hj
    subst hj
    simp [Addr.add]
theorem ref_write_bad (be : Nat) (S : Nat → Prop) (r : RDsk) (at_ : Int) (s : ByteArray) (w : World) (h : RefAt w S be r) (hn : 0 < r.seen.length) (hbad : ¬ (0 ≤ at_ ∧ at_ < r.seen.length ∧ s.size = 64)) :
    Calls Tryz.prog 114 #[.pointer (some ⟨be, 0, none⟩), .int .i64 at_, .string s] w fun e w' => e = .returned (.int .i64 1) ∧ w = w' := by
  obtain ⟨sv, nv, wv, h⟩ := h
  obtain ⟨g, cap, hv, -, -, -⟩ := h.seen.open hn
  have c1 : w.cell? ⟨be, 1, none⟩ = some nv := cell_of_row _ _ _ _ _ _ h.blk
  rw [hv] at c1
  clear h
  by_cases h0 : at_ < 0
  · clear hbad
    go_enter Tryz.func114, Tryz.ntmps114
    go_wp2
    go_ret
    exact ⟨rfl, rfl⟩
  · by_cases h1 : at_ < r.seen.length
    · have h2 : ((s.size : Int) != 64) = true := by
        rw [bne_iff_ne]
        intro e
        exact hbad ⟨by omega, h1, by omega⟩
      clear hbad
      go_enter Tryz.func114, Tryz.ntmps114
      go_wp2
      go_ret
      exact ⟨rfl, rfl⟩
    · clear hbad
      go_enter Tryz.func114, Tryz.ntmps114
      go_wp2
      go_ret
      exact ⟨rfl, rfl⟩
/-- What a write leaves. -/
def RDsk.write (r : RDsk) (k : Nat) (s : ByteArray) : RDsk := if r.op.down then r.op else { r.op with seen := r.op.seen.set k s, wait := r.op.wait ++ [(k, s)] }
/-- What a write or a flush answers. -/
def RDsk.ans (r : RDsk) : Int := if r.op.down then 2 else 0
theorem op_seen (r : RDsk) : r.op.seen = r.seen := by unfold RDsk.op; split <;> rfl
theorem op_safe (r : RDsk) : r.op.safe = r.safe := by unfold RDsk.op; split <;> rfl
theorem op_wait (r : RDsk) : r.op.wait = r.wait := by unfold RDsk.op; split <;> rfl
theorem wrefs_snoc (l : List (Nat × ByteArray)) (k : Nat) (s : ByteArray) : wrefs l ++ [.int .i64 (k : Int), .string s] = wrefs (l ++ [(k, s)]) := by simp [wrefs]
set_option maxRecDepth 100000 in
set_option maxHeartbeats 1000000 in
theorem ref_write (be : Nat) (S : Nat → Prop) (r : RDsk) (k : Nat) (s : ByteArray) (w : World) (h : RefAt w S be r) (hk : k < r.seen.length) (hs : s.size = 64) (hw : r.wait.length ≤ 1000000) :
    Calls Tryz.prog 114 #[.pointer (some ⟨be, 0, none⟩), .int .i64 (k : Int), .string s] w fun e w' => e = .returned (.int .i64 r.ans) ∧ RefAt w' (fun g => S g ∨ w.heap.size ≤ g) be (r.write k s) ∧ Same S w w' := by
  have HM := ref_may be S r w h
  obtain ⟨sv0, nv0, wv0, h⟩ := h
  obtain ⟨g0, cap0, hv0, -, -, -⟩ := h.seen.open (by omega)
  have c1 : w.cell? ⟨be, 1, none⟩ = some nv0 := cell_of_row _ _ _ _ _ _ h.blk
  rw [hv0] at c1
  have HMM : Hid (Calls Tryz.prog 186 #[.pointer (some ⟨be, 0, none⟩)] w fun e w' => e = .returned (.bool (!r.op.down)) ∧ RefAt w' S be r.op ∧ Same S w w') := HM
  obtain ⟨i0, hi0, hz0, hz1, hz2⟩ := info_parts infoWaits
  have hnot : ∀ (x : Bool) (w : World), (Op.unary .not (.bool x)).run Tryz.prog w = .ok (.bool (!x)) w := fun _ _ => rfl
  have hki : (k : Int) < r.seen.length := by omega
  obtain ⟨n, hn⟩ : ∃ n, n = r.seen.length := ⟨_, rfl⟩
  rw [← hn] at hki hk c1
  have HN : Hid (n = r.seen.length) := hn
  have HW : Hid (r.wait.length ≤ 1000000) := hw
  have hsi : (s.size : Int) = 64 := by omega
  clear HM h hn hw hv0
  go_enter Tryz.func114, Tryz.ntmps114
  go_wp2_with fail
  refine HMM.out.mono ?_
  rintro e w1 ⟨rfl, ⟨sv, nv, wv, h1⟩, s1⟩
  have HS1 : Hid (Same S w w1) := s1
  cases hd : r.op.down
  · have hsn : 0 < r.op.seen.length := by rw [op_seen, ← HN.out]; omega
    obtain ⟨gn, cn, hnv, hgn, hcn, hfn⟩ := h1.seen.open hsn
    rw [hnv] at h1
    obtain ⟨z, cz⟩ : ∃ z, w1.cell? ⟨gn, k, none⟩ = some z := ⟨_, hcn k (by rw [strs_length, op_seen, ← HN.out]; exact hk)⟩
    have fz := hfn k
    have d1 : w1.cell? ⟨be, 1, none⟩ = some (.slice (some ⟨gn, 0, none⟩) r.op.seen.length cn) := cell_of_row _ _ _ _ _ _ h1.blk
    have d2 : w1.cell? ⟨be, 2, none⟩ = some wv := cell_of_row _ _ _ _ _ _ h1.blk
    have fb := frozen_of_row w1 be 2 _ _ h1.blk
    have hgb : gn ≠ be := (h1.d2 gn rfl).1
    have hlb : be < w1.heap.size := (Array.getElem?_eq_some_iff.1 h1.blk).1
    rw [op_seen, ← HN.out] at d1
    have HV : Hid (RefV w1 S be sv (.slice (some ⟨gn, 0, none⟩) r.op.seen.length cn) wv r.op) := h1
    have HGN : Hid (S gn) := hgn
    clear h1 s1 hcn hfn hsn hnv hgn
    have d2' : (w1.setCell ⟨gn, k, none⟩ (.string s)).cell? ⟨be, 2, none⟩ = some wv := by
      rw [World.cell?_setCell_other _ _ _ _ (by intro e; exact hgb (congrArg Addr.block e))]
      exact d2
    have HW2 : Hid ((w1.setCell ⟨gn, k, none⟩ (.string s)).ownsRow 0 307 2 wv r.op.wait.length (wrefs r.op.wait)) := own_heap HV.out.wait.1 (fun g hg => heap_setCell_other _ _ _ _ (by show g ≠ gn; rintro rfl; exact (HV.out.d2 g rfl).2 hg))
    have HWL : Hid (r.op.wait.length ≤ 1000000) := by rw [op_wait]; exact HW
    have HCN : Hid (∀ j u, [Value.int .i64 (k : Int), .string s][j]? = some u → ((w1.setCell ⟨gn, k, none⟩ (.string s)).alloc (.cells #[.int .i64 (k : Int), .string s] 307)).cell? ((⟨w1.heap.size, 0, none⟩ : Addr).add j) = some u) := fun j u hj => by
      have h := cells_two (w1.setCell ⟨gn, k, none⟩ (.string s)) _ _ 307 j u hj
      have e : (w1.setCell ⟨gn, k, none⟩ (.string s)).heap.size = w1.heap.size := by simp
      rw [e] at h
      exact h
    go_wp2_with (at_builtin; refine wpList_append_own_at _ rfl _ _ 147 rfl 0 307 i0 (.agg #[.int .i64 0, .string ⟨#[]⟩]) 2 24 Tryz.underlying147 hi0 hz0 hz1 hz2 rfl (by decide) _ _ _ rfl (World.ownsRow.alloc HW2.out _) _ 1 1 [.int .i64 (k : Int), .string s] rfl rfl HCN.out ?c2 ?c3 ?c4 ?c5 ?_)
    case c2 => intro u hu; simp at hu; rcases hu with rfl | rfl <;> rfl
    case c3 => have := HWL.out; unfold maxLen; omega
    case c4 => have := HWL.out; omega
    case c5 => omega
    intro v' w3 hown' hgrow _ hat
    obtain ⟨g', cap', rfl⟩ : ∃ g' cap', v' = .slice (some ⟨g', 0, none⟩) (r.op.wait.length + 1) cap' := by
      obtain ⟨-, h2 | ⟨g', cap', cur', hv', -⟩⟩ := hown'
      · omega
      · exact ⟨g', cap', hv'⟩
    have hz : w1.heap.size + 1 ≤ w3.heap.size := by have := hgrow.size; simpa using this
    have hbe : w3.heap[be]? = some (.cells (refRow sv (.slice (some ⟨gn, 0, none⟩) r.op.seen.length cn) wv r.op.left r.op.lit r.op.down) 149 (0, 0)) := by
      rw [hgrow.block be (by simp; omega) (fun e => HV.out.d3 be e.symm rfl), Below.heap_alloc _ _ _ (by simp; omega), heap_setCell_other _ _ _ _ (by show be ≠ gn; exact fun e => hgb e.symm)]
      exact HV.out.blk
    have d3 : w3.cell? ⟨be, 2, none⟩ = some wv := cell_of_row _ _ _ _ _ _ hbe
    have f3 := frozen_of_row w3 be 2 _ _ hbe
    have HOWN : Hid (w3.ownsRow 0 307 2 (.slice (some ⟨g', 0, none⟩) (r.op.wait.length + 1) cap') (r.op.wait.length + 1) (wrefs r.op.wait ++ [.int .i64 (k : Int), .string s])) := hown'
    have HGR : Hid (World.grownBy ((w1.setCell ⟨gn, k, none⟩ (.string s)).alloc (.cells #[.int .i64 (k : Int), .string s] 307)) w3 wv.ownBlock) := hgrow
    have HAT : Hid (some g' = wv.ownBlock ∨ some g' = some (w1.heap.size + 1)) := by
      show _ ∨ _
      simpa [Value.ownBlock] using hat
    have HBE : Hid (w3.heap[be]? = some (.cells (refRow sv (.slice (some ⟨gn, 0, none⟩) r.op.seen.length cn) wv r.op.left r.op.lit r.op.down) 149 (0, 0))) := hbe
    have HD : Hid (r.op.down = false) := hd
    clear hown' hgrow hat hbe hd d2 d2' HW2 HCN
    go_wp2
    go_ret
    have hV := HV.out
    have hws : ∀ g, some g' = some g → S g ∨ w.heap.size ≤ g := fun g hg => by
      rcases HAT.out with e | e
      · exact .inl (hV.wait.2 g (by rw [← e]; exact hg))
      · rw [e] at hg
        cases hg
        have := HS1.out.size
        exact .inr (by omega)
    have hold : ∀ g, g < w1.heap.size → some g' = some g → wv.ownBlock = some g := fun g hl hg => by
      rcases HAT.out with e | e
      · rw [← e]; exact hg
      · rw [e] at hg; cases hg; omega
    -- a block of the old heap that is none of the three
    have hkeep : ∀ g, g < w1.heap.size → g ≠ gn → wv.ownBlock ≠ some g → g ≠ be → (w3.setCell ⟨be, 2, none⟩ (.slice (some ⟨g', 0, none⟩) (r.op.wait.length + 1) cap')).heap[g]? = w1.heap[g]? := fun g hl h1 h2 h3 => by
      rw [heap_setCell_other _ _ _ _ h3, HGR.out.block g (by simp; omega) (fun e => h2 e.symm), Below.heap_alloc _ _ _ (by simp; omega), heap_setCell_other _ _ _ _ h1]
    have hsn : r.op.seen.length = n := by rw [op_seen, ← HN.out]
    have hwr : r.write k s = { r.op with seen := r.op.seen.set k s, wait := r.op.wait ++ [(k, s)] } := by unfold RDsk.write; rw [HD.out]; rfl
    have hans : r.ans = 0 := by unfold RDsk.ans; rw [HD.out]; rfl
    refine ⟨by rw [hans]; rfl, ⟨sv, .slice (some ⟨gn, 0, none⟩) n cn, .slice (some ⟨g', 0, none⟩) (r.op.wait.length + 1) cap', ?_⟩, ?_⟩
    · rw [hwr]
      refine ⟨?_, .inl hV.sb, ?_, ?_, ?_, ?_, ?_, ?_⟩
      · rw [heap_setCell_same w3 be 2 _ _ _ HBE.out, hsn]
        rfl
      · refine ⟨own_heap hV.safe.1 fun g hg => hkeep g (hV.safe.lt hg) ?_ (hV.d1 g hg).2.2 (hV.d1 g hg).1, fun g hg => .inl (hV.safe.2 g hg)⟩
        rintro rfl
        exact (hV.d1 g hg).2.1 rfl
      · have hseen := hV.seen.set k (.string s)
        have e1 : (strs r.op.seen).set k (.string s) = strs (r.op.seen.set k s) := by simp [strs, List.map_set]
        have e2 : (r.op.seen.set k s).length = n := by rw [List.length_set]; exact hsn
        rw [e1, hsn] at hseen
        refine ⟨?_, fun g hg => by cases hg; exact .inl HGN.out⟩
        show World.ownsRow _ _ _ _ _ (List.length (r.op.seen.set k s)) _
        rw [e2]
        refine own_heap hseen.1 fun g hg => ?_
        cases hg
        have hgl := hV.seen.lt (g := gn) rfl
        rw [heap_setCell_other _ _ _ _ hgb, HGR.out.block gn (by simp; omega) (fun e => (hV.d2 gn rfl).2 e.symm), Below.heap_alloc _ _ _ (by simp; omega)]
      · refine ⟨?_, hws⟩
        rw [wrefs_snoc] at HOWN
        have e : (r.op.wait ++ [(k, s)]).length = r.op.wait.length + 1 := by simp
        show World.ownsRow _ _ _ _ _ (List.length (r.op.wait ++ [(k, s)])) _
        rw [e]
        refine own_heap HOWN.out fun g hg => heap_setCell_other _ _ _ _ ?_
        rintro rfl
        rcases HAT.out with e | e
        · exact hV.d3 g (by rw [← e]; exact hg) rfl
        · have hg' : some g' = some g := hg
          rw [e] at hg'
          cases hg'
          omega
      · intro g hg
        have hgl := hV.safe.lt hg
        refine ⟨(hV.d1 g hg).1, (hV.d1 g hg).2.1, fun h => (hV.d1 g hg).2.2 (hold g hgl h)⟩
      · intro g hg
        cases hg
        have hgl := hV.seen.lt (g := gn) rfl
        exact ⟨hgb, fun h => (hV.d2 gn rfl).2 (hold gn hgl h)⟩
      · rintro g hg rfl
        exact hV.d3 g (hold g hlb hg) rfl
    · refine HS1.out.trans ?_
      refine ⟨by rw [show (w3.setCell _ _).os = w3.os from rfl, HGR.out.os]; rfl, by rw [show (w3.setCell _ _).tape = w3.tape from rfl, HGR.out.tape]; rfl, by rw [show (w3.setCell _ _).output = w3.output from rfl, HGR.out.output]; rfl, by simp; omega, fun g hl hg => ?_⟩
      exact hkeep g hl (by rintro rfl; exact hg HGN.out) (fun e => hg (hV.wait.2 g e)) (by rintro rfl; exact hg hV.sb)
  · have HV : Hid (RefAt w1 S be r.op) := ⟨sv, nv, wv, h1⟩
    have HD : Hid (r.op.down = true) := hd
    clear h1 s1 hd
    go_wp2
    go_ret
    have hwr : r.write k s = r.op := by unfold RDsk.write; rw [HD.out]; rfl
    rw [hwr]
    have hans : r.ans = 2 := by unfold RDsk.ans; rw [HD.out]; rfl
    exact ⟨by rw [hans]; rfl, HV.out.mono fun g h => .inl h, HS1.out⟩
end Go.Proofs.YtapijhhmjjplmaaGreatDoor
namespace Go.Proofs.YtapijhhmjjplmaaGreatDoor
open Go.RowKit
theorem addTo_setG {α : Type} (h a : List α) (i : Nat) (hl : h.length = a.length) (hi : i < h.length) : (a.take i ++ h.drop i).set i (a[i]'(by omega)) = a.take (i + 1) ++ h.drop (i + 1) := by
  rw [List.set_append_right _ _ (by rw [List.length_take]; omega), List.length_take, Nat.min_eq_left (by omega), Nat.sub_self, List.drop_eq_getElem_cons hi, List.set_cons_zero]
  have e : a.take (i + 1) = a.take i ++ [a[i]'(by omega)] := List.take_succ_eq_append_getElem (by omega)
  rw [e, List.append_assoc]
  rfl
theorem addTo_len {α : Type} (h a : List α) (i : Nat) (hl : h.length = a.length) (hi : i ≤ h.length) : (a.take i ++ h.drop i).length = h.length := by
  rw [List.length_append, List.length_take, List.length_drop]; omega
theorem strs_set (l : List ByteArray) (i : Nat) (x : ByteArray) : (strs l).set i (.string x) = strs (l.set i x) := by simp [strs, List.map_set]
theorem RefV.setSafe {w : World} {S : Nat → Prop} {be gs cs n : Nat} {nv wv : Value} {r : RDsk} (h : RefV w S be (.slice (some ⟨gs, 0, none⟩) n cs) nv wv r) (hn : n = r.safe.length) (i : Nat) (x : ByteArray) :
    RefV (w.setCell ⟨gs, i, none⟩ (.string x)) S be (.slice (some ⟨gs, 0, none⟩) n cs) nv wv { r with safe := r.safe.set i x } := by
  subst hn
  have hd := h.d1 gs rfl
  refine ⟨?_, h.sb, ?_, ?_, ?_, h.d1, h.d2, h.d3⟩
  · rw [heap_setCell_other _ _ _ _ (by show be ≠ gs; exact fun e => hd.1 e.symm)]
    exact h.blk
  · have h1 := h.safe.set i (.string x)
    rw [strs_set] at h1
    have e : (r.safe.set i x).length = r.safe.length := List.length_set
    show OwnS _ _ _ _ _ (List.length (r.safe.set i x)) _
    rw [e]
    exact h1
  · exact ⟨own_heap h.seen.1 fun g hg => heap_setCell_other _ _ _ _ (by show g ≠ gs; rintro rfl; exact hd.2.1 hg), h.seen.2⟩
  · exact ⟨own_heap h.wait.1 fun g hg => heap_setCell_other _ _ _ _ (by show g ≠ gs; rintro rfl; exact hd.2.2 hg), h.wait.2⟩
/-- No write waits. -/
theorem RefV.noWait {w : World} {S : Nat → Prop} {be : Nat} {sv nv wv : Value} {r : RDsk} (h : RefV w S be sv nv wv r) : RefV (w.setCell ⟨be, 2, none⟩ (.slice none 0 0)) S be sv nv (.slice none 0 0) { r with wait := [] } := by
  refine ⟨?_, h.sb, ?_, ?_, ?_, ?_, ?_, ?_⟩
  · rw [heap_setCell_same w be 2 _ _ _ h.blk]
    rfl
  · exact ⟨own_heap h.safe.1 fun g hg => heap_setCell_other _ _ _ _ (h.d1 g hg).1, h.safe.2⟩
  · exact ⟨own_heap h.seen.1 fun g hg => heap_setCell_other _ _ _ _ (h.d2 g hg).1, h.seen.2⟩
  · exact ⟨⟨rfl, .inl ⟨rfl, rfl⟩⟩, fun g hg => by cases hg⟩
  · exact fun g hg => ⟨(h.d1 g hg).1, (h.d1 g hg).2.1, fun e => by cases e⟩
  · exact fun g hg => ⟨(h.d2 g hg).1, fun e => by cases e⟩
  · exact fun g hg => by cases hg
/-- What a flush leaves. -/
def RDsk.flush (r : RDsk) : RDsk := if r.op.down then r.op else { r.op with safe := r.op.seen, wait := [] }
set_option maxRecDepth 100000 in
set_option maxHeartbeats 1000000 in
theorem ref_flush (be : Nat) (S : Nat → Prop) (r : RDsk) (w : World) (h : RefAt w S be r) (hn : 0 < r.safe.length) (he : r.seen.length = r.safe.length) (hb : r.safe.length ≤ 4096) :
    Calls Tryz.prog 116 #[.pointer (some ⟨be, 0, none⟩)] w fun e w' => e = .returned (.int .i64 r.ans) ∧ RefAt w' S be r.flush ∧ Same S w w' := by
  have HMM : Hid (Calls Tryz.prog 186 #[.pointer (some ⟨be, 0, none⟩)] w fun e w' => e = .returned (.bool (!r.op.down)) ∧ RefAt w' S be r.op ∧ Same S w w') := ref_may be S r w h
  have hnot : ∀ (x : Bool) (w : World), (Op.unary .not (.bool x)).run Tryz.prog w = .ok (.bool (!x)) w := fun _ _ => rfl
  clear h
  go_enter Tryz.func116, Tryz.ntmps116
  go_wp2_with fail
  refine HMM.out.mono ?_
  rintro e w1 ⟨rfl, ⟨sv, nv, wv, h1⟩, s1⟩
  have HS1 : Hid (Same S w w1) := s1
  obtain ⟨r1, hr1⟩ : ∃ r1, r1 = r.op := ⟨_, rfl⟩
  cases hd : r.op.down
  · obtain ⟨n, hn'⟩ : ∃ n, n = r1.safe.length := ⟨_, rfl⟩
    have hns : n = r1.seen.length := by rw [hn', hr1, op_safe, op_seen, he]
    rw [← hr1] at h1
    have hn0 : 0 < n := by rw [hn', hr1, op_safe]; exact hn
    have hnb : n ≤ 4096 := by rw [hn', hr1, op_safe]; exact hb
    obtain ⟨gs, cs, rfl, hgs, -, -⟩ := h1.safe.open (by omega)
    obtain ⟨gn, cn, rfl, hgn, -, -⟩ := h1.seen.open (by omega)
    rw [← hn', ← hns] at h1
    have HV0 : Hid (RefV w1 S be (.slice (some ⟨gs, 0, none⟩) n cs) (.slice (some ⟨gn, 0, none⟩) n cn) wv { r1 with safe := r1.seen.take 0 ++ r1.safe.drop 0 }) := h1
    have HR1 : Hid (r1 = r.op) := hr1
    have HN : Hid (n = r1.safe.length) := hn'
    have HNS : Hid (n = r1.seen.length) := hns
    have HD : Hid (r.op.down = false) := hd
    have HGS : Hid (S gs) := hgs
    have hnbi : (n : Int) ≤ 4096 := by omega
    clear h1 s1 hr1 hn' hns hgs hgn hn he hb hd
    go_wp2
    go_loopw [4] (fun iv_ wr => ∃ i : Nat, i ≤ n ∧ iv_ = .int .i64 (i : Int) ∧ Hid (RefV wr S be (.slice (some ⟨gs, 0, none⟩) n cs) (.slice (some ⟨gn, 0, none⟩) n cn) wv { r1 with safe := r1.seen.take i ++ r1.safe.drop i }) ∧ Hid (Same S w wr)) (fun iv_ _ => n - (intOf iv_).toNat)
    case atStart => exact ⟨0, by omega, rfl, HV0, HS1⟩
    case round =>
      clear HV0 HS1
      obtain ⟨i, hi, rfl, HV, HS⟩ := hrel
      have c0 : wr.cell? ⟨be, 0, none⟩ = some (.slice (some ⟨gs, 0, none⟩) n cs) := cell_of_row _ _ _ _ _ _ HV.out.blk
      have c1 : wr.cell? ⟨be, 1, none⟩ = some (.slice (some ⟨gn, 0, none⟩) n cn) := cell_of_row _ _ _ _ _ _ HV.out.blk
      by_cases hlt : i < n
      · have hl : (r1.seen.take i ++ r1.safe.drop i).length = n := by rw [addTo_len _ _ _ (by rw [← HN.out, ← HNS.out]) (by rw [← HN.out]; exact hi), ← HN.out]
        obtain ⟨x, hx⟩ : ∃ x, x = r1.seen[i]'(by rw [← HNS.out]; exact hlt) := ⟨_, rfl⟩
        have cx : wr.cell? ⟨gn, i, none⟩ = some (.string x) := by
          obtain ⟨g', c', e, -, hc, -⟩ := HV.out.seen.open (by show 0 < r1.seen.length; rw [← HNS.out]; exact hn0)
          cases e
          rw [hc i (by rw [strs_length]; show i < r1.seen.length; rw [← HNS.out]; exact hlt), hx]
          simp [strs]
        obtain ⟨z, cz, fz⟩ : ∃ z, wr.cell? ⟨gs, i, none⟩ = some z ∧ wr.frozen? ⟨gs, i, none⟩ = false := by
          obtain ⟨g', c', e, -, hc, hf⟩ := HV.out.safe.open (by show 0 < List.length (r1.seen.take i ++ r1.safe.drop i); omega)
          cases e
          exact ⟨_, hc i (by rw [strs_length]; show i < List.length (r1.seen.take i ++ r1.safe.drop i); omega), hf i⟩
        have HX : Hid (x = r1.seen[i]'(by rw [← HNS.out]; exact hlt)) := hx
        have HL : Hid ((r1.seen.take i ++ r1.safe.drop i).length = n) := hl
        clear hx hl
        go_wp2
        go_region
        all_goals
          go_wp2
          go_roundw
          case rel =>
            refine ⟨i + 1, by omega, by go_num, ?_, ?_⟩
            · have h1 := HV.out.setSafe HL.out.symm i x
              have e : (r1.seen.take i ++ r1.safe.drop i).set i x = r1.seen.take (i + 1) ++ r1.safe.drop (i + 1) := by
                rw [HX.out]
                exact addTo_setG _ _ i (by rw [← HN.out, ← HNS.out]) (by rw [← HN.out]; exact hlt)
              have h2 : RefV (wr.setCell ⟨gs, i, none⟩ (.string x)) S be (.slice (some ⟨gs, 0, none⟩) n cs) (.slice (some ⟨gn, 0, none⟩) n cn) wv { r1 with safe := r1.seen.take (i + 1) ++ r1.safe.drop (i + 1) } := by rw [← e]; exact h1
              exact ⟨h2.blk, h2.sb, h2.safe, h2.seen, h2.wait, h2.d1, h2.d2, h2.d3⟩
            · exact (HS.out.setCell ⟨gs, i, none⟩ HGS.out _).drew
          case measure => (simp [intOf]; try omega)
      · have hin : i = n := by omega
        obtain ⟨i1, hi1⟩ : ∃ i1, i1 = i := ⟨_, rfl⟩
        subst hi1
        have HV1 : Hid (RefV wr S be (.slice (some ⟨gs, 0, none⟩) n cs) (.slice (some ⟨gn, 0, none⟩) n cn) wv { r1 with safe := r1.seen }) := by
          have h1 := HV.out
          have e : r1.seen.take i1 ++ r1.safe.drop i1 = r1.seen := by
            rw [hin, List.take_of_length_le (by rw [← HNS.out]; exact Nat.le_refl _), List.drop_eq_nil_of_le (by rw [← HN.out]; exact Nat.le_refl _), List.append_nil]
          rw [e] at h1
          exact h1
        have c2 : wr.cell? ⟨be, 2, none⟩ = some wv := cell_of_row _ _ _ _ _ _ HV1.out.blk
        have f2 := frozen_of_row wr be 2 _ _ HV1.out.blk
        clear HV hin
        go_wp2
        go_ret
        have hans : r.ans = 0 := by unfold RDsk.ans; rw [HD.out]; rfl
        have hfl : r.flush = { r1 with safe := r1.seen, wait := [] } := by unfold RDsk.flush; rw [HD.out, HR1.out]; rfl
        refine ⟨by rw [hans]; rfl, ⟨_, _, _, by rw [hfl]; exact HV1.out.noWait⟩, HS.out.setCell ⟨be, 2, none⟩ HV1.out.sb _⟩
  · have HV : Hid (RefAt w1 S be r.op) := ⟨sv, nv, wv, h1⟩
    have HD : Hid (r.op.down = true) := hd
    clear h1 s1 hd hr1
    go_wp2
    go_ret
    have hans : r.ans = 2 := by unfold RDsk.ans; rw [HD.out]; rfl
    have hfl : r.flush = r.op := by unfold RDsk.flush; rw [HD.out]; rfl
    exact ⟨by rw [hans]; rfl, by rw [hfl]; exact HV.out, HS1.out⟩
end Go.Proofs.YtapijhhmjjplmaaGreatDoor
namespace Go.Proofs.YtapijhhmjjplmaaGreatDoor
open Go.RowKit
theorem lt_of_heap' {W : World} {b : Nat} {o : Obj} (h : W.heap[b]? = some o) : b < W.heap.size := (Array.getElem?_eq_some_iff.1 h).1
def z64 : ByteArray := ⟨(List.replicate 64 (0 : UInt8)).toArray⟩
theorem z64_size : z64.size = 64 := by decide
theorem infoStr : (Tryz.prog.info? 9).map (fun i => (i.zero, i.size, i.bytes)) = some (some (.string ⟨#[]⟩), 1, 16) := by kernel_rfl
set_option maxRecDepth 100000 in
theorem zeros_any (w : World) : Calls Tryz.prog 111 #[.int .i64 64] w fun e w' => e = .returned (.string z64) ∧ Below w.heap.size w w' := by
  have hmk : ∀ w, (Instr.makeSlice 134 (.int .i64 64) (.int .i64 64)).run Tryz.prog w = .ok (.slice (some ⟨w.heap.size, 0, none⟩) 64 64) (w.alloc (.cells (madeCells #[.int .u8 0] 64) 5)) := fun w =>
    run_make_row' (P := Tryz.prog) 134 5 (.int .u8 0) 1 Tryz.underlying134 infoByte rfl .i64 .i64 64 (by omega) (by omega) w
  have hcv : (convert 134 9 (.slice (some ⟨w.heap.size, 0, none⟩) 64 64)).run Tryz.prog (w.alloc (.cells (madeCells #[.int .u8 0] 64) 5)) = .ok (.string z64) (w.alloc (.cells (madeCells #[.int .u8 0] 64) 5)) := by
    have h := run_convert_bytes_back (P := Tryz.prog) (w.alloc (.cells (madeCells #[.int .u8 0] 64) 5)) 134 9 5 ⟨w.heap.size, 0, none⟩ 64 (List.replicate 64 0) Tryz.underlying134 Tryz.underlying5 Tryz.underlying9 ?_
    · rw [List.length_replicate] at h
      exact h
    · intro j hj
      rw [List.length_replicate] at hj
      have e1 : (⟨w.heap.size, 0, none⟩ : Addr).add j = ⟨w.heap.size, j, none⟩ := by unfold Addr.add; split <;> simp_all
      rw [e1, cell_of_row _ _ _ _ _ _ (heap_alloc_new w _), List.getElem_replicate]
      simp [madeCells, hj, Nat.mod_one]
  go_enter Tryz.func111, Tryz.ntmps111
  go_wp2
  go_ret
  exact ⟨rfl, (Below.refl _ _).alloc (Nat.le_refl _) _⟩
/-- 'x.f = append(x.f, v)' of the first row. -/
theorem RefV.appSafe {w w3 : World} {S : Nat → Prop} {be g' cap' : Nat} {sv nv wv : Value} {r : RDsk} {O : Obj} (h : RefV w S be sv nv wv r) (x : ByteArray)
    (ho : w3.ownsRow 0 9 1 (.slice (some ⟨g', 0, none⟩) (r.safe.length + 1) cap') (r.safe.length + 1) (strs r.safe ++ [.string x])) (hg : (w.alloc O).grownBy w3 sv.ownBlock) (hat : some g' = sv.ownBlock ∨ some g' = some (w.heap.size + 1)) (hS : ∀ g, w.heap.size ≤ g → S g) :
    RefV (w3.setCell ⟨be, 0, none⟩ (.slice (some ⟨g', 0, none⟩) (r.safe.length + 1) cap')) S be (.slice (some ⟨g', 0, none⟩) (r.safe.length + 1) cap') nv wv { r with safe := r.safe ++ [x] } ∧ Same S w (w3.setCell ⟨be, 0, none⟩ (.slice (some ⟨g', 0, none⟩) (r.safe.length + 1) cap')) := by
  have hlb : be < w.heap.size := (Array.getElem?_eq_some_iff.1 h.blk).1
  have hgb : g' ≠ be := by
    rintro rfl
    rcases hat with e | e
    · exact (h.d1 g' e.symm).1 rfl
    · cases e; omega
  have hold : ∀ g, g < w.heap.size → some g' = some g → sv.ownBlock = some g := fun g hl hg => by
    rcases hat with e | e
    · rw [← e]; exact hg
    · rw [e] at hg; cases hg; omega
  have hkeep : ∀ g, g < w.heap.size → sv.ownBlock ≠ some g → g ≠ be → (w3.setCell ⟨be, 0, none⟩ (.slice (some ⟨g', 0, none⟩) (r.safe.length + 1) cap')).heap[g]? = w.heap[g]? := fun g hl h2 h3 => by
    rw [heap_setCell_other _ _ _ _ h3, hg.block g (by simp; omega) (fun e => h2 e.symm), Below.heap_alloc _ _ _ hl]
  have hbe : w3.heap[be]? = some (.cells (refRow sv nv wv r.left r.lit r.down) 149 (0, 0)) := by
    rw [hg.block be (by simp; omega) (fun e => (h.d1 be e.symm).1 rfl), Below.heap_alloc _ _ _ hlb]
    exact h.blk
  have hz := hg.size
  simp at hz
  refine ⟨⟨?_, h.sb, ?_, ?_, ?_, ?_, ?_, ?_⟩, ?_⟩
  · rw [heap_setCell_same w3 be 0 _ _ _ hbe]; rfl
  · have e : (r.safe ++ [x]).length = r.safe.length + 1 := by simp
    have e2 : strs (r.safe ++ [x]) = strs r.safe ++ [.string x] := by simp [strs]
    refine ⟨?_, fun g hg' => ?_⟩
    · show World.ownsRow _ _ _ _ _ (List.length (r.safe ++ [x])) (strs (r.safe ++ [x]))
      rw [e, e2]
      exact own_heap ho fun g hg' => heap_setCell_other _ _ _ _ (by show g ≠ be; cases hg'; exact hgb)
    · cases hg'
      rcases hat with e | e
      · exact h.safe.2 g' e.symm
      · cases e; exact hS _ (show w.heap.size ≤ w.heap.size + 1 by omega)
  · refine ⟨own_heap h.seen.1 fun g hg' => hkeep g (h.seen.lt hg') (fun e => (h.d1 g e).2.1 hg') (h.d2 g hg').1, h.seen.2⟩
  · refine ⟨own_heap h.wait.1 fun g hg' => hkeep g (h.wait.lt hg') (fun e => (h.d1 g e).2.2 hg') (h.d3 g hg'), h.wait.2⟩
  · intro g hg'
    cases hg'
    refine ⟨hgb, fun e => ?_, fun e => ?_⟩
    · have := h.seen.lt e
      exact (h.d1 g' (hold g' this rfl)).2.1 e
    · have := h.wait.lt e
      exact (h.d1 g' (hold g' this rfl)).2.2 e
  · exact h.d2
  · exact h.d3
  · refine ⟨by rw [show (w3.setCell _ _).os = w3.os from rfl, hg.os]; rfl, by rw [show (w3.setCell _ _).tape = w3.tape from rfl, hg.tape]; rfl, by rw [show (w3.setCell _ _).output = w3.output from rfl, hg.output]; rfl, by simp; omega, fun g hl hn => ?_⟩
    exact hkeep g hl (fun e => hn (h.safe.2 g e)) (by rintro rfl; exact hn h.sb)
/-- The same of the second row. -/
theorem RefV.appSeen {w w3 : World} {S : Nat → Prop} {be g' cap' : Nat} {sv nv wv : Value} {r : RDsk} {O : Obj} (h : RefV w S be sv nv wv r) (x : ByteArray)
    (ho : w3.ownsRow 0 9 1 (.slice (some ⟨g', 0, none⟩) (r.seen.length + 1) cap') (r.seen.length + 1) (strs r.seen ++ [.string x])) (hg : (w.alloc O).grownBy w3 nv.ownBlock) (hat : some g' = nv.ownBlock ∨ some g' = some (w.heap.size + 1)) (hS : ∀ g, w.heap.size ≤ g → S g) :
    RefV (w3.setCell ⟨be, 1, none⟩ (.slice (some ⟨g', 0, none⟩) (r.seen.length + 1) cap')) S be sv (.slice (some ⟨g', 0, none⟩) (r.seen.length + 1) cap') wv { r with seen := r.seen ++ [x] } ∧ Same S w (w3.setCell ⟨be, 1, none⟩ (.slice (some ⟨g', 0, none⟩) (r.seen.length + 1) cap')) := by
  have hlb : be < w.heap.size := (Array.getElem?_eq_some_iff.1 h.blk).1
  have hgb : g' ≠ be := by
    rintro rfl
    rcases hat with e | e
    · exact (h.d2 g' e.symm).1 rfl
    · cases e; omega
  have hold : ∀ g, g < w.heap.size → some g' = some g → nv.ownBlock = some g := fun g hl hg => by
    rcases hat with e | e
    · rw [← e]; exact hg
    · rw [e] at hg; cases hg; omega
  have hkeep : ∀ g, g < w.heap.size → nv.ownBlock ≠ some g → g ≠ be → (w3.setCell ⟨be, 1, none⟩ (.slice (some ⟨g', 0, none⟩) (r.seen.length + 1) cap')).heap[g]? = w.heap[g]? := fun g hl h2 h3 => by
    rw [heap_setCell_other _ _ _ _ h3, hg.block g (by simp; omega) (fun e => h2 e.symm), Below.heap_alloc _ _ _ hl]
  have hbe : w3.heap[be]? = some (.cells (refRow sv nv wv r.left r.lit r.down) 149 (0, 0)) := by
    rw [hg.block be (by simp; omega) (fun e => (h.d2 be e.symm).1 rfl), Below.heap_alloc _ _ _ hlb]
    exact h.blk
  have hz := hg.size
  simp at hz
  refine ⟨⟨?_, h.sb, ?_, ?_, ?_, ?_, ?_, ?_⟩, ?_⟩
  · rw [heap_setCell_same w3 be 1 _ _ _ hbe]; rfl
  · refine ⟨own_heap h.safe.1 fun g hg' => hkeep g (h.safe.lt hg') (fun e => (h.d1 g hg').2.1 e) (h.d1 g hg').1, h.safe.2⟩
  · have e : (r.seen ++ [x]).length = r.seen.length + 1 := by simp
    have e2 : strs (r.seen ++ [x]) = strs r.seen ++ [.string x] := by simp [strs]
    refine ⟨?_, fun g hg' => ?_⟩
    · show World.ownsRow _ _ _ _ _ (List.length (r.seen ++ [x])) (strs (r.seen ++ [x]))
      rw [e, e2]
      exact own_heap ho fun g hg' => heap_setCell_other _ _ _ _ (by show g ≠ be; cases hg'; exact hgb)
    · cases hg'
      rcases hat with e | e
      · exact h.seen.2 g' e.symm
      · cases e; exact hS _ (show w.heap.size ≤ w.heap.size + 1 by omega)
  · refine ⟨own_heap h.wait.1 fun g hg' => hkeep g (h.wait.lt hg') (fun e => (h.d2 g e).2 hg') (h.d3 g hg'), h.wait.2⟩
  · intro g hg'
    refine ⟨(h.d1 g hg').1, fun e => ?_, (h.d1 g hg').2.2⟩
    have := h.safe.lt hg'
    cases e
    exact (h.d1 g' hg').2.1 (hold g' this rfl)
  · intro g hg'
    cases hg'
    refine ⟨hgb, fun e => ?_⟩
    have := h.wait.lt e
    exact (h.d2 g' (hold g' this rfl)).2 e
  · exact h.d3
  · refine ⟨by rw [show (w3.setCell _ _).os = w3.os from rfl, hg.os]; rfl, by rw [show (w3.setCell _ _).tape = w3.tape from rfl, hg.tape]; rfl, by rw [show (w3.setCell _ _).output = w3.output from rfl, hg.output]; rfl, by simp; omega, fun g hl hn => ?_⟩
    exact hkeep g hl (fun e => hn (h.seen.2 g e)) (by rintro rfl; exact hn h.sb)
/-- How many sectors a disk has that is asked for with a. -/
def clampN (a : Int) : Nat := if a < 1 then 1 else if 4096 < a then 4096 else a.toNat
theorem clampN_low (a : Int) (h : a < 1) : clampN a = 1 := by unfold clampN; rw [if_pos h]
theorem clampN_high (a : Int) (h : 4096 < a) : clampN a = 4096 := by unfold clampN; rw [if_neg (by omega), if_pos h]
theorem clampN_mid (a : Int) (h : ¬ a < 1) (h' : ¬ 4096 < a) : clampN a = a.toNat := by unfold clampN; rw [if_neg h, if_neg h']
theorem clampN_bound (a : Int) : 1 ≤ clampN a ∧ clampN a ≤ 4096 := by
  unfold clampN
  split
  · omega
  · split <;> omega
def RDsk.fresh (n : Nat) : RDsk := ⟨List.replicate n z64, List.replicate n z64, [], 0, false, false⟩
set_option maxRecDepth 100000 in
set_option maxHeartbeats 2000000 in
theorem ref_new (a : Int) (w : World) (hr : inR a) :
    Calls Tryz.prog 69 #[.int .i64 a] w fun e w' => ∃ be, e = .returned (.pointer (some ⟨be, 0, none⟩)) ∧ RefAt w' (fun g => w.heap.size ≤ g) be (RDsk.fresh (clampN a)) ∧ Below w.heap.size w w' := by
  obtain ⟨n, hn⟩ : ∃ n, n = clampN a := ⟨_, rfl⟩
  have hb := clampN_bound a
  rw [← hn] at hb ⊢
  obtain ⟨i0, hi0, hz0, hz1, hz2⟩ := info_parts infoStr
  obtain ⟨hb1, hb2⟩ := hb
  have HB0 : Hid (1 ≤ n ∧ n ≤ 4096) := ⟨hb1, hb2⟩
  have HZ : Hid (∀ w, Calls Tryz.prog 111 #[.int .i64 64] w fun e w' => e = .returned (.string z64) ∧ Below w.heap.size w w') := zeros_any
  unfold inR at hr
  obtain ⟨z, hz⟩ : ∃ z, z = z64 := ⟨_, rfl⟩
  rw [← hz] at HZ
  have HZE : Hid (z = z64) := hz
  clear hz
  have HV0 : Hid (∀ w1, Below (w.heap.size + 1) (w.alloc (.cells #[.slice none 0 0, .slice none 0 0, .slice none 0 0, .int .i64 0, .bool false, .bool false] 149)) w1 → RefV w1 (fun g => w.heap.size ≤ g) w.heap.size (.slice none 0 0) (.slice none 0 0) (.slice none 0 0) ⟨[], [], [], 0, false, false⟩) := fun w1 hb1 => by
    refine ⟨?_, Nat.le_refl _, ⟨⟨rfl, .inl ⟨rfl, rfl⟩⟩, fun g hg => by cases hg⟩, ⟨⟨rfl, .inl ⟨rfl, rfl⟩⟩, fun g hg => by cases hg⟩, ⟨⟨rfl, .inl ⟨rfl, rfl⟩⟩, fun g hg => by cases hg⟩, (fun g hg => by cases hg), (fun g hg => by cases hg), (fun g hg => by cases hg)⟩
    rw [hb1.block _ (by omega)]
    exact heap_alloc_new w _
  by_cases h0 : a < 1
  · have hc : (n : Int) = 1 := by have := clampN_low a h0; omega
    clear hn
    go_enter Tryz.func69, Tryz.ntmps69
    go_wp2_with fail
    refine (HZ.out _).mono ?_
    rintro e w1 ⟨rfl, hb1⟩
    have hz1' := hb1.size
    have HV1 : Hid (RefV w1 (fun g => w.heap.size ≤ g) w.heap.size (.slice none 0 0) (.slice none 0 0) (.slice none 0 0) ⟨[], [], [], 0, false, false⟩) := HV0.out w1 (by simpa using hb1)
    have HBL : Hid (Below w.heap.size w w1) := ((Below.refl _ _).alloc (Nat.le_refl _) _).trans (hb1.mono (by simp))
    clear hb1 hz1' HV0
    go_wp2
    go_loopw [5] (fun iv_ wr => ∃ i : Nat, i ≤ n ∧ iv_ = .int .i64 (i : Int) ∧ Hid (∃ sv nv, RefV wr (fun g => w.heap.size ≤ g) w.heap.size sv nv (.slice none 0 0) ⟨List.replicate i z, List.replicate i z, [], 0, false, false⟩) ∧ Hid (Below w.heap.size w wr)) (fun iv_ _ => n - (intOf iv_).toNat)
    case atStart => exact ⟨0, by omega, rfl, ⟨_, _, HV1.out⟩, HBL⟩
    case round =>
      clear HV1 HBL
      obtain ⟨i, hi, rfl, HVE, HBL⟩ := hrel
      obtain ⟨sv, nv, hv⟩ := HVE.out
      have HV : Hid (RefV wr (fun g => w.heap.size ≤ g) w.heap.size sv nv (.slice none 0 0) ⟨List.replicate i z, List.replicate i z, [], 0, false, false⟩) := hv
      clear hv HVE
      by_cases hlt : i < n
      · have hlc : (i : Int) < 1 := by omega
        have c0 : wr.cell? ⟨w.heap.size, 0, none⟩ = some sv := cell_of_row _ _ _ _ _ _ HV.out.blk
        have HO : Hid (wr.ownsRow 0 9 1 sv i (strs (List.replicate i z))) := by
          have h := HV.out.safe.1
          rw [List.length_replicate] at h
          exact h
        go_wp2_with (at_builtin; refine wpList_append_own_at _ rfl _ _ 35 rfl 0 9 i0 (.string ⟨#[]⟩) 1 16 Tryz.underlying35 hi0 hz0 hz1 hz2 rfl (by decide) _ _ _ rfl (World.ownsRow.alloc HO.out _) _ 1 1 [.string z] rfl rfl (cell_one_new _ _ _) ?c2 ?c3 ?c4 ?c5 ?_)
        case c2 => intro u hu; rw [List.mem_singleton] at hu; subst hu; rfl
        case c3 => unfold maxLen; omega
        case c4 => omega
        case c5 => omega
        intro v' w3 hown' hgrow _ hat
        obtain ⟨g', cap', rfl⟩ : ∃ g' cap', v' = .slice (some ⟨g', 0, none⟩) (i + 1) cap' := by
          obtain ⟨-, h2 | ⟨g', cap', cur', hv', -⟩⟩ := hown'
          · omega
          · exact ⟨g', cap', hv'⟩
        have hS : ∀ g, wr.heap.size ≤ g → w.heap.size ≤ g := fun g h => Nat.le_trans HBL.out.size h
        have hap := HV.out.appSafe (O := .cells #[.string z] 9) z (by rw [List.length_replicate]; exact hown') hgrow (by simpa [Value.ownBlock] using hat) hS
        simp only [List.length_replicate] at hap
        obtain ⟨hv1, hs1⟩ := hap
        have hbe : w3.heap[w.heap.size]? = some (.cells (refRow sv nv (.slice none 0 0) 0 false false) 149 (0, 0)) := by
          rw [hgrow.block _ (by simp; have := lt_of_heap' HV.out.blk; omega) (fun e => (HV.out.d1 _ e.symm).1 rfl), Below.heap_alloc _ _ _ (lt_of_heap' HV.out.blk)]
          exact HV.out.blk
        have d0 : w3.cell? ⟨w.heap.size, 0, none⟩ = some sv := cell_of_row _ _ _ _ _ _ hbe
        have f0 := frozen_of_row w3 w.heap.size 0 _ _ hbe
        have HV2 : Hid (RefV (w3.setCell ⟨w.heap.size, 0, none⟩ (.slice (some ⟨g', 0, none⟩) (i + 1) cap')) (fun g => w.heap.size ≤ g) w.heap.size (.slice (some ⟨g', 0, none⟩) (i + 1) cap') nv (.slice none 0 0) ⟨List.replicate i z ++ [z], List.replicate i z, [], 0, false, false⟩) := hv1
        have HS2 : Hid (Same (fun g => w.heap.size ≤ g) wr (w3.setCell ⟨w.heap.size, 0, none⟩ (.slice (some ⟨g', 0, none⟩) (i + 1) cap'))) := hs1
        have d1 : (w3.setCell ⟨w.heap.size, 0, none⟩ (.slice (some ⟨g', 0, none⟩) (i + 1) cap')).cell? ⟨w.heap.size, 1, none⟩ = some nv := cell_of_row _ _ _ _ _ _ HV2.out.blk
        have HO2 : Hid ((w3.setCell ⟨w.heap.size, 0, none⟩ (.slice (some ⟨g', 0, none⟩) (i + 1) cap')).ownsRow 0 9 1 nv i (strs (List.replicate i z))) := by
          have h := HV2.out.seen.1
          rw [List.length_replicate] at h
          exact h
        have HCN : Hid (∀ j u, [Value.string z][j]? = some u → ((w3.setCell ⟨w.heap.size, 0, none⟩ (.slice (some ⟨g', 0, none⟩) (i + 1) cap')).alloc (.cells #[.string z] 9)).cell? ((⟨w3.heap.size, 0, none⟩ : Addr).add j) = some u) := fun j u hj => by
          have h := cell_one_new (w3.setCell ⟨w.heap.size, 0, none⟩ (.slice (some ⟨g', 0, none⟩) (i + 1) cap')) (.string z) 9 j u hj
          have e : (w3.setCell ⟨w.heap.size, 0, none⟩ (.slice (some ⟨g', 0, none⟩) (i + 1) cap')).heap.size = w3.heap.size := by simp
          rw [e] at h
          exact h
        clear hown' hgrow hat hS hv1 hs1 hbe c0 HO
        go_wp2_with (at_builtin; refine wpList_append_own_at _ rfl _ _ 35 rfl 0 9 i0 (.string ⟨#[]⟩) 1 16 Tryz.underlying35 hi0 hz0 hz1 hz2 rfl (by decide) _ _ _ rfl (World.ownsRow.alloc HO2.out _) _ 1 1 [.string z] rfl rfl HCN.out ?e2 ?e3 ?e4 ?e5 ?_)
        case e2 => intro u hu; rw [List.mem_singleton] at hu; subst hu; rfl
        case e3 => unfold maxLen; omega
        case e4 => omega
        case e5 => omega
        intro v2 w5 hown' hgrow _ hat
        obtain ⟨g2, cap2, rfl⟩ : ∃ g2 cap2, v2 = .slice (some ⟨g2, 0, none⟩) (i + 1) cap2 := by
          obtain ⟨-, h2 | ⟨g', cap', cur', hv', -⟩⟩ := hown'
          · omega
          · exact ⟨g', cap', hv'⟩
        have hS : ∀ g, (w3.setCell ⟨w.heap.size, 0, none⟩ (.slice (some ⟨g', 0, none⟩) (i + 1) cap')).heap.size ≤ g → w.heap.size ≤ g := fun g h => Nat.le_trans (Nat.le_trans HBL.out.size HS2.out.size) h
        have hap := HV2.out.appSeen (O := .cells #[.string z] 9) z (by simp only [List.length_replicate]; exact hown') hgrow (by simpa [Value.ownBlock] using hat) hS
        simp only [List.length_replicate] at hap
        obtain ⟨hv1, hs1⟩ := hap
        have hbe : w5.heap[w.heap.size]? = some (.cells (refRow (.slice (some ⟨g', 0, none⟩) (i + 1) cap') nv (.slice none 0 0) 0 false false) 149 (0, 0)) := by
          have hl := lt_of_heap' HV2.out.blk
          rw [hgrow.block _ (by simp at hl ⊢; omega) (fun e => (HV2.out.d2 _ e.symm).1 rfl), Below.heap_alloc _ _ _ hl]
          exact HV2.out.blk
        have d2 : w5.cell? ⟨w.heap.size, 1, none⟩ = some nv := cell_of_row _ _ _ _ _ _ hbe
        have f2 := frozen_of_row w5 w.heap.size 1 _ _ hbe
        have HV3 : Hid (RefV (w5.setCell ⟨w.heap.size, 1, none⟩ (.slice (some ⟨g2, 0, none⟩) (i + 1) cap2)) (fun g => w.heap.size ≤ g) w.heap.size (.slice (some ⟨g', 0, none⟩) (i + 1) cap') (.slice (some ⟨g2, 0, none⟩) (i + 1) cap2) (.slice none 0 0) ⟨List.replicate i z ++ [z], List.replicate i z ++ [z], [], 0, false, false⟩) := hv1
        have HS3 : Hid (Same (fun g => w.heap.size ≤ g) wr (w5.setCell ⟨w.heap.size, 1, none⟩ (.slice (some ⟨g2, 0, none⟩) (i + 1) cap2))) := HS2.out.trans hs1
        clear hown' hgrow hat hS hv1 hs1 hbe HO2 HCN d0 d1 f0
        go_wp2
        go_roundw
        case rel =>
          refine ⟨i + 1, by omega, by go_num, ?_, ?_⟩
          · have e : List.replicate (i + 1) z = List.replicate i z ++ [z] := List.replicate_succ'
            rw [e]
            exact ⟨_, _, HV3.out⟩
          · exact HBL.out.trans (HS3.out.below (B := w.heap.size) (fun g h => h) HBL.out.size)
        case measure => (simp [intOf]; try omega)
      · have hin : i = n := by omega
        have hlc : ¬ (i : Int) < 1 := by omega
        obtain ⟨i1, hi1⟩ : ∃ i1, i1 = i := ⟨_, rfl⟩
        subst hi1
        have HVF : Hid (RefAt wr (fun g => w.heap.size ≤ g) w.heap.size (RDsk.fresh n)) := by
          refine ⟨sv, nv, .slice none 0 0, ?_⟩
          unfold RDsk.fresh
          rw [← hin, ← HZE.out]
          exact HV.out
        clear HV hin
        go_wp2
        go_ret
        exact ⟨w.heap.size, rfl, HVF.out, HBL.out⟩
  · by_cases h1 : 4096 < a
    · have hc : (n : Int) = 4096 := by have := clampN_high a h1; omega
      clear hn
      go_enter Tryz.func69, Tryz.ntmps69
      go_wp2_with fail
      refine (HZ.out _).mono ?_
      rintro e w1 ⟨rfl, hb1⟩
      have hz1' := hb1.size
      have HV1 : Hid (RefV w1 (fun g => w.heap.size ≤ g) w.heap.size (.slice none 0 0) (.slice none 0 0) (.slice none 0 0) ⟨[], [], [], 0, false, false⟩) := HV0.out w1 (by simpa using hb1)
      have HBL : Hid (Below w.heap.size w w1) := ((Below.refl _ _).alloc (Nat.le_refl _) _).trans (hb1.mono (by simp))
      clear hb1 hz1' HV0
      go_wp2
      go_loopw [5] (fun iv_ wr => ∃ i : Nat, i ≤ n ∧ iv_ = .int .i64 (i : Int) ∧ Hid (∃ sv nv, RefV wr (fun g => w.heap.size ≤ g) w.heap.size sv nv (.slice none 0 0) ⟨List.replicate i z, List.replicate i z, [], 0, false, false⟩) ∧ Hid (Below w.heap.size w wr)) (fun iv_ _ => n - (intOf iv_).toNat)
      case atStart => exact ⟨0, by omega, rfl, ⟨_, _, HV1.out⟩, HBL⟩
      case round =>
        clear HV1 HBL
        obtain ⟨i, hi, rfl, HVE, HBL⟩ := hrel
        obtain ⟨sv, nv, hv⟩ := HVE.out
        have HV : Hid (RefV wr (fun g => w.heap.size ≤ g) w.heap.size sv nv (.slice none 0 0) ⟨List.replicate i z, List.replicate i z, [], 0, false, false⟩) := hv
        clear hv HVE
        by_cases hlt : i < n
        · have hlc : (i : Int) < 4096 := by omega
          have c0 : wr.cell? ⟨w.heap.size, 0, none⟩ = some sv := cell_of_row _ _ _ _ _ _ HV.out.blk
          have HO : Hid (wr.ownsRow 0 9 1 sv i (strs (List.replicate i z))) := by
            have h := HV.out.safe.1
            rw [List.length_replicate] at h
            exact h
          go_wp2_with (at_builtin; refine wpList_append_own_at _ rfl _ _ 35 rfl 0 9 i0 (.string ⟨#[]⟩) 1 16 Tryz.underlying35 hi0 hz0 hz1 hz2 rfl (by decide) _ _ _ rfl (World.ownsRow.alloc HO.out _) _ 1 1 [.string z] rfl rfl (cell_one_new _ _ _) ?c2 ?c3 ?c4 ?c5 ?_)
          case c2 => intro u hu; rw [List.mem_singleton] at hu; subst hu; rfl
          case c3 => unfold maxLen; omega
          case c4 => omega
          case c5 => omega
          intro v' w3 hown' hgrow _ hat
          obtain ⟨g', cap', rfl⟩ : ∃ g' cap', v' = .slice (some ⟨g', 0, none⟩) (i + 1) cap' := by
            obtain ⟨-, h2 | ⟨g', cap', cur', hv', -⟩⟩ := hown'
            · omega
            · exact ⟨g', cap', hv'⟩
          have hS : ∀ g, wr.heap.size ≤ g → w.heap.size ≤ g := fun g h => Nat.le_trans HBL.out.size h
          have hap := HV.out.appSafe (O := .cells #[.string z] 9) z (by rw [List.length_replicate]; exact hown') hgrow (by simpa [Value.ownBlock] using hat) hS
          simp only [List.length_replicate] at hap
          obtain ⟨hv1, hs1⟩ := hap
          have hbe : w3.heap[w.heap.size]? = some (.cells (refRow sv nv (.slice none 0 0) 0 false false) 149 (0, 0)) := by
            rw [hgrow.block _ (by simp; have := lt_of_heap' HV.out.blk; omega) (fun e => (HV.out.d1 _ e.symm).1 rfl), Below.heap_alloc _ _ _ (lt_of_heap' HV.out.blk)]
            exact HV.out.blk
          have d0 : w3.cell? ⟨w.heap.size, 0, none⟩ = some sv := cell_of_row _ _ _ _ _ _ hbe
          have f0 := frozen_of_row w3 w.heap.size 0 _ _ hbe
          have HV2 : Hid (RefV (w3.setCell ⟨w.heap.size, 0, none⟩ (.slice (some ⟨g', 0, none⟩) (i + 1) cap')) (fun g => w.heap.size ≤ g) w.heap.size (.slice (some ⟨g', 0, none⟩) (i + 1) cap') nv (.slice none 0 0) ⟨List.replicate i z ++ [z], List.replicate i z, [], 0, false, false⟩) := hv1
          have HS2 : Hid (Same (fun g => w.heap.size ≤ g) wr (w3.setCell ⟨w.heap.size, 0, none⟩ (.slice (some ⟨g', 0, none⟩) (i + 1) cap'))) := hs1
          have d1 : (w3.setCell ⟨w.heap.size, 0, none⟩ (.slice (some ⟨g', 0, none⟩) (i + 1) cap')).cell? ⟨w.heap.size, 1, none⟩ = some nv := cell_of_row _ _ _ _ _ _ HV2.out.blk
          have HO2 : Hid ((w3.setCell ⟨w.heap.size, 0, none⟩ (.slice (some ⟨g', 0, none⟩) (i + 1) cap')).ownsRow 0 9 1 nv i (strs (List.replicate i z))) := by
            have h := HV2.out.seen.1
            rw [List.length_replicate] at h
            exact h
          have HCN : Hid (∀ j u, [Value.string z][j]? = some u → ((w3.setCell ⟨w.heap.size, 0, none⟩ (.slice (some ⟨g', 0, none⟩) (i + 1) cap')).alloc (.cells #[.string z] 9)).cell? ((⟨w3.heap.size, 0, none⟩ : Addr).add j) = some u) := fun j u hj => by
            have h := cell_one_new (w3.setCell ⟨w.heap.size, 0, none⟩ (.slice (some ⟨g', 0, none⟩) (i + 1) cap')) (.string z) 9 j u hj
            have e : (w3.setCell ⟨w.heap.size, 0, none⟩ (.slice (some ⟨g', 0, none⟩) (i + 1) cap')).heap.size = w3.heap.size := by simp
            rw [e] at h
            exact h
          clear hown' hgrow hat hS hv1 hs1 hbe c0 HO
          go_wp2_with (at_builtin; refine wpList_append_own_at _ rfl _ _ 35 rfl 0 9 i0 (.string ⟨#[]⟩) 1 16 Tryz.underlying35 hi0 hz0 hz1 hz2 rfl (by decide) _ _ _ rfl (World.ownsRow.alloc HO2.out _) _ 1 1 [.string z] rfl rfl HCN.out ?e2 ?e3 ?e4 ?e5 ?_)
          case e2 => intro u hu; rw [List.mem_singleton] at hu; subst hu; rfl
          case e3 => unfold maxLen; omega
          case e4 => omega
          case e5 => omega
          intro v2 w5 hown' hgrow _ hat
          obtain ⟨g2, cap2, rfl⟩ : ∃ g2 cap2, v2 = .slice (some ⟨g2, 0, none⟩) (i + 1) cap2 := by
            obtain ⟨-, h2 | ⟨g', cap', cur', hv', -⟩⟩ := hown'
            · omega
            · exact ⟨g', cap', hv'⟩
          have hS : ∀ g, (w3.setCell ⟨w.heap.size, 0, none⟩ (.slice (some ⟨g', 0, none⟩) (i + 1) cap')).heap.size ≤ g → w.heap.size ≤ g := fun g h => Nat.le_trans (Nat.le_trans HBL.out.size HS2.out.size) h
          have hap := HV2.out.appSeen (O := .cells #[.string z] 9) z (by simp only [List.length_replicate]; exact hown') hgrow (by simpa [Value.ownBlock] using hat) hS
          simp only [List.length_replicate] at hap
          obtain ⟨hv1, hs1⟩ := hap
          have hbe : w5.heap[w.heap.size]? = some (.cells (refRow (.slice (some ⟨g', 0, none⟩) (i + 1) cap') nv (.slice none 0 0) 0 false false) 149 (0, 0)) := by
            have hl := lt_of_heap' HV2.out.blk
            rw [hgrow.block _ (by simp at hl ⊢; omega) (fun e => (HV2.out.d2 _ e.symm).1 rfl), Below.heap_alloc _ _ _ hl]
            exact HV2.out.blk
          have d2 : w5.cell? ⟨w.heap.size, 1, none⟩ = some nv := cell_of_row _ _ _ _ _ _ hbe
          have f2 := frozen_of_row w5 w.heap.size 1 _ _ hbe
          have HV3 : Hid (RefV (w5.setCell ⟨w.heap.size, 1, none⟩ (.slice (some ⟨g2, 0, none⟩) (i + 1) cap2)) (fun g => w.heap.size ≤ g) w.heap.size (.slice (some ⟨g', 0, none⟩) (i + 1) cap') (.slice (some ⟨g2, 0, none⟩) (i + 1) cap2) (.slice none 0 0) ⟨List.replicate i z ++ [z], List.replicate i z ++ [z], [], 0, false, false⟩) := hv1
          have HS3 : Hid (Same (fun g => w.heap.size ≤ g) wr (w5.setCell ⟨w.heap.size, 1, none⟩ (.slice (some ⟨g2, 0, none⟩) (i + 1) cap2))) := HS2.out.trans hs1
          clear hown' hgrow hat hS hv1 hs1 hbe HO2 HCN d0 d1 f0
          go_wp2
          go_roundw
          case rel =>
            refine ⟨i + 1, by omega, by go_num, ?_, ?_⟩
            · have e : List.replicate (i + 1) z = List.replicate i z ++ [z] := List.replicate_succ'
              rw [e]
              exact ⟨_, _, HV3.out⟩
            · exact HBL.out.trans (HS3.out.below (B := w.heap.size) (fun g h => h) HBL.out.size)
          case measure => (simp [intOf]; try omega)
        · have hin : i = n := by omega
          have hlc : ¬ (i : Int) < 4096 := by omega
          obtain ⟨i1, hi1⟩ : ∃ i1, i1 = i := ⟨_, rfl⟩
          subst hi1
          have HVF : Hid (RefAt wr (fun g => w.heap.size ≤ g) w.heap.size (RDsk.fresh n)) := by
            refine ⟨sv, nv, .slice none 0 0, ?_⟩
            unfold RDsk.fresh
            rw [← hin, ← HZE.out]
            exact HV.out
          clear HV hin
          go_wp2
          go_ret
          exact ⟨w.heap.size, rfl, HVF.out, HBL.out⟩
    · have hc : (n : Int) = a := by have := clampN_mid a h0 h1; omega
      clear hn
      go_enter Tryz.func69, Tryz.ntmps69
      go_wp2_with fail
      refine (HZ.out _).mono ?_
      rintro e w1 ⟨rfl, hb1⟩
      have hz1' := hb1.size
      have HV1 : Hid (RefV w1 (fun g => w.heap.size ≤ g) w.heap.size (.slice none 0 0) (.slice none 0 0) (.slice none 0 0) ⟨[], [], [], 0, false, false⟩) := HV0.out w1 (by simpa using hb1)
      have HBL : Hid (Below w.heap.size w w1) := ((Below.refl _ _).alloc (Nat.le_refl _) _).trans (hb1.mono (by simp))
      clear hb1 hz1' HV0
      go_wp2
      go_loopw [5] (fun iv_ wr => ∃ i : Nat, i ≤ n ∧ iv_ = .int .i64 (i : Int) ∧ Hid (∃ sv nv, RefV wr (fun g => w.heap.size ≤ g) w.heap.size sv nv (.slice none 0 0) ⟨List.replicate i z, List.replicate i z, [], 0, false, false⟩) ∧ Hid (Below w.heap.size w wr)) (fun iv_ _ => n - (intOf iv_).toNat)
      case atStart => exact ⟨0, by omega, rfl, ⟨_, _, HV1.out⟩, HBL⟩
      case round =>
        clear HV1 HBL
        obtain ⟨i, hi, rfl, HVE, HBL⟩ := hrel
        obtain ⟨sv, nv, hv⟩ := HVE.out
        have HV : Hid (RefV wr (fun g => w.heap.size ≤ g) w.heap.size sv nv (.slice none 0 0) ⟨List.replicate i z, List.replicate i z, [], 0, false, false⟩) := hv
        clear hv HVE
        by_cases hlt : i < n
        · have hlc : (i : Int) < a := by omega
          have c0 : wr.cell? ⟨w.heap.size, 0, none⟩ = some sv := cell_of_row _ _ _ _ _ _ HV.out.blk
          have HO : Hid (wr.ownsRow 0 9 1 sv i (strs (List.replicate i z))) := by
            have h := HV.out.safe.1
            rw [List.length_replicate] at h
            exact h
          go_wp2_with (at_builtin; refine wpList_append_own_at _ rfl _ _ 35 rfl 0 9 i0 (.string ⟨#[]⟩) 1 16 Tryz.underlying35 hi0 hz0 hz1 hz2 rfl (by decide) _ _ _ rfl (World.ownsRow.alloc HO.out _) _ 1 1 [.string z] rfl rfl (cell_one_new _ _ _) ?c2 ?c3 ?c4 ?c5 ?_)
          case c2 => intro u hu; rw [List.mem_singleton] at hu; subst hu; rfl
          case c3 => unfold maxLen; omega
          case c4 => omega
          case c5 => omega
          intro v' w3 hown' hgrow _ hat
          obtain ⟨g', cap', rfl⟩ : ∃ g' cap', v' = .slice (some ⟨g', 0, none⟩) (i + 1) cap' := by
            obtain ⟨-, h2 | ⟨g', cap', cur', hv', -⟩⟩ := hown'
            · omega
            · exact ⟨g', cap', hv'⟩
          have hS : ∀ g, wr.heap.size ≤ g → w.heap.size ≤ g := fun g h => Nat.le_trans HBL.out.size h
          have hap := HV.out.appSafe (O := .cells #[.string z] 9) z (by rw [List.length_replicate]; exact hown') hgrow (by simpa [Value.ownBlock] using hat) hS
          simp only [List.length_replicate] at hap
          obtain ⟨hv1, hs1⟩ := hap
          have hbe : w3.heap[w.heap.size]? = some (.cells (refRow sv nv (.slice none 0 0) 0 false false) 149 (0, 0)) := by
            rw [hgrow.block _ (by simp; have := lt_of_heap' HV.out.blk; omega) (fun e => (HV.out.d1 _ e.symm).1 rfl), Below.heap_alloc _ _ _ (lt_of_heap' HV.out.blk)]
            exact HV.out.blk
          have d0 : w3.cell? ⟨w.heap.size, 0, none⟩ = some sv := cell_of_row _ _ _ _ _ _ hbe
          have f0 := frozen_of_row w3 w.heap.size 0 _ _ hbe
          have HV2 : Hid (RefV (w3.setCell ⟨w.heap.size, 0, none⟩ (.slice (some ⟨g', 0, none⟩) (i + 1) cap')) (fun g => w.heap.size ≤ g) w.heap.size (.slice (some ⟨g', 0, none⟩) (i + 1) cap') nv (.slice none 0 0) ⟨List.replicate i z ++ [z], List.replicate i z, [], 0, false, false⟩) := hv1
          have HS2 : Hid (Same (fun g => w.heap.size ≤ g) wr (w3.setCell ⟨w.heap.size, 0, none⟩ (.slice (some ⟨g', 0, none⟩) (i + 1) cap'))) := hs1
          have d1 : (w3.setCell ⟨w.heap.size, 0, none⟩ (.slice (some ⟨g', 0, none⟩) (i + 1) cap')).cell? ⟨w.heap.size, 1, none⟩ = some nv := cell_of_row _ _ _ _ _ _ HV2.out.blk
          have HO2 : Hid ((w3.setCell ⟨w.heap.size, 0, none⟩ (.slice (some ⟨g', 0, none⟩) (i + 1) cap')).ownsRow 0 9 1 nv i (strs (List.replicate i z))) := by
            have h := HV2.out.seen.1
            rw [List.length_replicate] at h
            exact h
          have HCN : Hid (∀ j u, [Value.string z][j]? = some u → ((w3.setCell ⟨w.heap.size, 0, none⟩ (.slice (some ⟨g', 0, none⟩) (i + 1) cap')).alloc (.cells #[.string z] 9)).cell? ((⟨w3.heap.size, 0, none⟩ : Addr).add j) = some u) := fun j u hj => by
            have h := cell_one_new (w3.setCell ⟨w.heap.size, 0, none⟩ (.slice (some ⟨g', 0, none⟩) (i + 1) cap')) (.string z) 9 j u hj
            have e : (w3.setCell ⟨w.heap.size, 0, none⟩ (.slice (some ⟨g', 0, none⟩) (i + 1) cap')).heap.size = w3.heap.size := by simp
            rw [e] at h
            exact h
          clear hown' hgrow hat hS hv1 hs1 hbe c0 HO
          go_wp2_with (at_builtin; refine wpList_append_own_at _ rfl _ _ 35 rfl 0 9 i0 (.string ⟨#[]⟩) 1 16 Tryz.underlying35 hi0 hz0 hz1 hz2 rfl (by decide) _ _ _ rfl (World.ownsRow.alloc HO2.out _) _ 1 1 [.string z] rfl rfl HCN.out ?e2 ?e3 ?e4 ?e5 ?_)
          case e2 => intro u hu; rw [List.mem_singleton] at hu; subst hu; rfl
          case e3 => unfold maxLen; omega
          case e4 => omega
          case e5 => omega
          intro v2 w5 hown' hgrow _ hat
          obtain ⟨g2, cap2, rfl⟩ : ∃ g2 cap2, v2 = .slice (some ⟨g2, 0, none⟩) (i + 1) cap2 := by
            obtain ⟨-, h2 | ⟨g', cap', cur', hv', -⟩⟩ := hown'
            · omega
            · exact ⟨g', cap', hv'⟩
          have hS : ∀ g, (w3.setCell ⟨w.heap.size, 0, none⟩ (.slice (some ⟨g', 0, none⟩) (i + 1) cap')).heap.size ≤ g → w.heap.size ≤ g := fun g h => Nat.le_trans (Nat.le_trans HBL.out.size HS2.out.size) h
          have hap := HV2.out.appSeen (O := .cells #[.string z] 9) z (by simp only [List.length_replicate]; exact hown') hgrow (by simpa [Value.ownBlock] using hat) hS
          simp only [List.length_replicate] at hap
          obtain ⟨hv1, hs1⟩ := hap
          have hbe : w5.heap[w.heap.size]? = some (.cells (refRow (.slice (some ⟨g', 0, none⟩) (i + 1) cap') nv (.slice none 0 0) 0 false false) 149 (0, 0)) := by
            have hl := lt_of_heap' HV2.out.blk
            rw [hgrow.block _ (by simp at hl ⊢; omega) (fun e => (HV2.out.d2 _ e.symm).1 rfl), Below.heap_alloc _ _ _ hl]
            exact HV2.out.blk
          have d2 : w5.cell? ⟨w.heap.size, 1, none⟩ = some nv := cell_of_row _ _ _ _ _ _ hbe
          have f2 := frozen_of_row w5 w.heap.size 1 _ _ hbe
          have HV3 : Hid (RefV (w5.setCell ⟨w.heap.size, 1, none⟩ (.slice (some ⟨g2, 0, none⟩) (i + 1) cap2)) (fun g => w.heap.size ≤ g) w.heap.size (.slice (some ⟨g', 0, none⟩) (i + 1) cap') (.slice (some ⟨g2, 0, none⟩) (i + 1) cap2) (.slice none 0 0) ⟨List.replicate i z ++ [z], List.replicate i z ++ [z], [], 0, false, false⟩) := hv1
          have HS3 : Hid (Same (fun g => w.heap.size ≤ g) wr (w5.setCell ⟨w.heap.size, 1, none⟩ (.slice (some ⟨g2, 0, none⟩) (i + 1) cap2))) := HS2.out.trans hs1
          clear hown' hgrow hat hS hv1 hs1 hbe HO2 HCN d0 d1 f0
          go_wp2
          go_roundw
          case rel =>
            refine ⟨i + 1, by omega, by go_num, ?_, ?_⟩
            · have e : List.replicate (i + 1) z = List.replicate i z ++ [z] := List.replicate_succ'
              rw [e]
              exact ⟨_, _, HV3.out⟩
            · exact HBL.out.trans (HS3.out.below (B := w.heap.size) (fun g h => h) HBL.out.size)
          case measure => (simp [intOf]; try omega)
        · have hin : i = n := by omega
          have hlc : ¬ (i : Int) < a := by omega
          obtain ⟨i1, hi1⟩ : ∃ i1, i1 = i := ⟨_, rfl⟩
          subst hi1
          have HVF : Hid (RefAt wr (fun g => w.heap.size ≤ g) w.heap.size (RDsk.fresh n)) := by
            refine ⟨sv, nv, .slice none 0 0, ?_⟩
            unfold RDsk.fresh
            rw [← hin, ← HZE.out]
            exact HV.out
          clear HV hin
          go_wp2
          go_ret
          exact ⟨w.heap.size, rfl, HVF.out, HBL.out⟩
end Go.Proofs.YtapijhhmjjplmaaGreatDoor
