/- OWN TEXT: the program's round. -/
import Derived.Test.YtapijhhmjjplmaaGreatDoorRot
import Derived.Deep.WholeRow
namespace Go.Proofs.YtapijhhmjjplmaaGreatDoor
open Go.RowKit

def u32s (l : List Nat) : Array Value := (l.map fun x : Nat => Value.int .u32 (x : Int)).toArray
/-- One round, at the sum of the word and the constant. -/
def rndW (v : List Nat) (x : Nat) : List Nat := rnd v x 0

theorem heap_two_drewN (w : World) (A B : Obj) (n : Nat) : (((w.alloc A).alloc B).drewN n).heap[w.heap.size + 1]? = some B := heap_alloc2_new w A B

set_option maxRecDepth 100000 in
set_option maxHeartbeats 4000000 in
theorem round_any (v0 v1 v2 v3 v4 v5 v6 v7 x : Nat) (w : World) (b0 : (v0 : Int) ≤ 4294967295) (b1 : (v1 : Int) ≤ 4294967295) (b2 : (v2 : Int) ≤ 4294967295) (b4 : (v4 : Int) ≤ 4294967295) (b5 : (v5 : Int) ≤ 4294967295) (b6 : (v6 : Int) ≤ 4294967295) :
    Calls Tryz.prog 251 #[.agg #[.int .u32 (v0 : Int), .int .u32 (v1 : Int), .int .u32 (v2 : Int), .int .u32 (v3 : Int), .int .u32 (v4 : Int), .int .u32 (v5 : Int), .int .u32 (v6 : Int), .int .u32 (v7 : Int)], .int .u32 (x : Int)] w fun e w' =>
      e = .returned (.agg (u32s (rndW [v0, v1, v2, v3, v4, v5, v6, v7] x))) ∧ Below w.heap.size w w' := by
  go_enter Tryz.func251, Tryz.ntmps251
  go_wp2
  go_quiet (fail)
  go_wp2_with fail
  refine (rot_any v4 6 26 (-6) _ b4 (by decide +kernel) (by omega) (by omega) rfl).mono ?_
  rintro e w' ⟨rfl, rfl⟩
  obtain ⟨e6, he6⟩ : ∃ a, a = rotN v4 6 := ⟨_, rfl⟩
  rw [← he6]
  have be6 : (e6 : Int) ≤ 4294967295 := by have := rotN_lt v4 6; rw [← he6] at this; unfold w32 at this; omega
  have He6 : Hid (e6 = rotN v4 6) := he6
  clear he6
  go_wp2_with fail
  refine (rot_any v4 11 21 (-11) _ b4 (by decide +kernel) (by omega) (by omega) rfl).mono ?_
  rintro e w' ⟨rfl, rfl⟩
  obtain ⟨e11, he11⟩ : ∃ a, a = rotN v4 11 := ⟨_, rfl⟩
  rw [← he11]
  have be11 : (e11 : Int) ≤ 4294967295 := by have := rotN_lt v4 11; rw [← he11] at this; unfold w32 at this; omega
  have He11 : Hid (e11 = rotN v4 11) := he11
  clear he11
  go_wp2_with fail
  refine (rot_any v4 25 7 (-25) _ b4 (by decide +kernel) (by omega) (by omega) rfl).mono ?_
  rintro e w' ⟨rfl, rfl⟩
  obtain ⟨e25, he25⟩ : ∃ a, a = rotN v4 25 := ⟨_, rfl⟩
  rw [← he25]
  have be25 : (e25 : Int) ≤ 4294967295 := by have := rotN_lt v4 25; rw [← he25] at this; unfold w32 at this; omega
  have He25 : Hid (e25 = rotN v4 25) := he25
  clear he25
  obtain ⟨s1, hs1⟩ : ∃ y, y = e6 ^^^ e11 := ⟨_, rfl⟩
  obtain ⟨s2, hs2⟩ : ∃ y, y = s1 ^^^ e25 := ⟨_, rfl⟩
  have ls1 : s1 < w32 := by rw [hs1]; exact xor_w32 (by unfold w32; omega) (by unfold w32; omega)
  have ls2 : s2 < w32 := by rw [hs2]; exact xor_w32 ls1 (by unfold w32; omega)
  unfold w32 at ls1 ls2
  have ns1 : bits .xor .u32 (e6 : Int) (e11 : Int) = (s1 : Int) := by rw [hs1]; exact u32_xor_nat _ _ (by omega) (by omega)
  have ns2 : bits .xor .u32 (s1 : Int) (e25 : Int) = (s2 : Int) := by rw [hs2]; exact u32_xor_nat _ _ (by omega) (by omega)
  have us2 : (s2 : Int) ≤ 4294967295 := by omega
  have HS : Hid (s2 = e6 ^^^ e11 ^^^ e25) := by show _ = _; rw [hs2, hs1]
  clear hs1 hs2 ls1 ls2
  go_wp2_with fail
  refine (rot_any v0 2 30 (-2) _ b0 (by decide +kernel) (by omega) (by omega) rfl).mono ?_
  rintro e w' ⟨rfl, rfl⟩
  obtain ⟨a2, ha2⟩ : ∃ a, a = rotN v0 2 := ⟨_, rfl⟩
  rw [← ha2]
  have ba2 : (a2 : Int) ≤ 4294967295 := by have := rotN_lt v0 2; rw [← ha2] at this; unfold w32 at this; omega
  have Ha2 : Hid (a2 = rotN v0 2) := ha2
  clear ha2
  go_wp2_with fail
  refine (rot_any v0 13 19 (-13) _ b0 (by decide +kernel) (by omega) (by omega) rfl).mono ?_
  rintro e w' ⟨rfl, rfl⟩
  obtain ⟨a13, ha13⟩ : ∃ a, a = rotN v0 13 := ⟨_, rfl⟩
  rw [← ha13]
  have ba13 : (a13 : Int) ≤ 4294967295 := by have := rotN_lt v0 13; rw [← ha13] at this; unfold w32 at this; omega
  have Ha13 : Hid (a13 = rotN v0 13) := ha13
  clear ha13
  go_wp2_with fail
  refine (rot_any v0 22 10 (-22) _ b0 (by decide +kernel) (by omega) (by omega) rfl).mono ?_
  rintro e w' ⟨rfl, rfl⟩
  obtain ⟨a22, ha22⟩ : ∃ a, a = rotN v0 22 := ⟨_, rfl⟩
  rw [← ha22]
  have ba22 : (a22 : Int) ≤ 4294967295 := by have := rotN_lt v0 22; rw [← ha22] at this; unfold w32 at this; omega
  have Ha22 : Hid (a22 = rotN v0 22) := ha22
  clear ha22
  obtain ⟨z1, hz1⟩ : ∃ y, y = a2 ^^^ a13 := ⟨_, rfl⟩
  obtain ⟨z2, hz2⟩ : ∃ y, y = z1 ^^^ a22 := ⟨_, rfl⟩
  have lz1 : z1 < w32 := by rw [hz1]; exact xor_w32 (by unfold w32; omega) (by unfold w32; omega)
  have lz2 : z2 < w32 := by rw [hz2]; exact xor_w32 lz1 (by unfold w32; omega)
  unfold w32 at lz1 lz2
  have nz1 : bits .xor .u32 (a2 : Int) (a13 : Int) = (z1 : Int) := by rw [hz1]; exact u32_xor_nat _ _ (by omega) (by omega)
  have nz2 : bits .xor .u32 (z1 : Int) (a22 : Int) = (z2 : Int) := by rw [hz2]; exact u32_xor_nat _ _ (by omega) (by omega)
  have uz2 : (z2 : Int) ≤ 4294967295 := by omega
  have HZ : Hid (z2 = a2 ^^^ a13 ^^^ a22) := by show _ = _; rw [hz2, hz1]
  clear hz1 hz2 lz1 lz2
  obtain ⟨c1, hc1⟩ : ∃ y, y = v4 &&& v5 := ⟨_, rfl⟩
  obtain ⟨ne, hne⟩ : ∃ y, y = 4294967295 - v4 := ⟨_, rfl⟩
  obtain ⟨c2, hc2⟩ : ∃ y, y = ne &&& v6 := ⟨_, rfl⟩
  obtain ⟨c3, hc3⟩ : ∃ y, y = c1 ^^^ c2 := ⟨_, rfl⟩
  have lc1 : c1 < w32 := by rw [hc1]; exact and_w32 (by unfold w32; omega)
  have lc2 : c2 < w32 := by rw [hc2]; exact and_w32 (by unfold w32; omega)
  have lc3 : c3 < w32 := by rw [hc3]; exact xor_w32 lc1 lc2
  unfold w32 at lc1 lc2 lc3
  have nc1 : bits .and .u32 (v4 : Int) (v5 : Int) = (c1 : Int) := by rw [hc1]; exact u32_and_nat _ _ (by omega) (by omega)
  have nne : bits .xor .u32 IntKind.u32.max (v4 : Int) = (ne : Int) := by rw [hne]; exact u32_not _ (by omega)
  have nc2 : bits .and .u32 (ne : Int) (v6 : Int) = (c2 : Int) := by rw [hc2]; exact u32_and_nat _ _ (by omega) (by omega)
  have nc3 : bits .xor .u32 (c1 : Int) (c2 : Int) = (c3 : Int) := by rw [hc3]; exact u32_xor_nat _ _ (by omega) (by omega)
  have uc3 : (c3 : Int) ≤ 4294967295 := by omega
  have HC : Hid (c3 = (v4 &&& v5) ^^^ ((4294967295 - v4) &&& v6)) := by show _ = _; rw [hc3, hc1, hc2, hne]
  clear hc1 hne hc2 hc3 lc1 lc2 lc3
  obtain ⟨m1, hm1⟩ : ∃ y, y = v0 &&& v1 := ⟨_, rfl⟩
  obtain ⟨m2, hm2⟩ : ∃ y, y = v0 &&& v2 := ⟨_, rfl⟩
  obtain ⟨m3, hm3⟩ : ∃ y, y = m1 ^^^ m2 := ⟨_, rfl⟩
  obtain ⟨m4, hm4⟩ : ∃ y, y = v1 &&& v2 := ⟨_, rfl⟩
  obtain ⟨m5, hm5⟩ : ∃ y, y = m3 ^^^ m4 := ⟨_, rfl⟩
  have lm1 : m1 < w32 := by rw [hm1]; exact and_w32 (by unfold w32; omega)
  have lm2 : m2 < w32 := by rw [hm2]; exact and_w32 (by unfold w32; omega)
  have lm3 : m3 < w32 := by rw [hm3]; exact xor_w32 lm1 lm2
  have lm4 : m4 < w32 := by rw [hm4]; exact and_w32 (by unfold w32; omega)
  have lm5 : m5 < w32 := by rw [hm5]; exact xor_w32 lm3 lm4
  unfold w32 at lm1 lm2 lm3 lm4 lm5
  have nm1 : bits .and .u32 (v0 : Int) (v1 : Int) = (m1 : Int) := by rw [hm1]; exact u32_and_nat _ _ (by omega) (by omega)
  have nm2 : bits .and .u32 (v0 : Int) (v2 : Int) = (m2 : Int) := by rw [hm2]; exact u32_and_nat _ _ (by omega) (by omega)
  have nm3 : bits .xor .u32 (m1 : Int) (m2 : Int) = (m3 : Int) := by rw [hm3]; exact u32_xor_nat _ _ (by omega) (by omega)
  have nm4 : bits .and .u32 (v1 : Int) (v2 : Int) = (m4 : Int) := by rw [hm4]; exact u32_and_nat _ _ (by omega) (by omega)
  have nm5 : bits .xor .u32 (m3 : Int) (m4 : Int) = (m5 : Int) := by rw [hm5]; exact u32_xor_nat _ _ (by omega) (by omega)
  have um5 : (m5 : Int) ≤ 4294967295 := by omega
  have HM : Hid (m5 = (v0 &&& v1) ^^^ (v0 &&& v2) ^^^ (v1 &&& v2)) := by show _ = _; rw [hm5, hm3, hm1, hm2, hm4]
  clear hm1 hm2 hm3 hm4 hm5 lm1 lm2 lm3 lm4 lm5
  go_wp2
  have eT : tOf [v0, v1, v2, v3, v4, v5, v6, v7] x 0 = v7 + s2 + c3 + x := by rw [HS.out, HC.out, He6.out, He11.out, He25.out]; rfl
  have eU : uOf [v0, v1, v2, v3, v4, v5, v6, v7] = z2 + m5 := by rw [HZ.out, HM.out, Ha2.out, Ha13.out, Ha22.out]; rfl
  have e0 : (((tOf [v0, v1, v2, v3, v4, v5, v6, v7] x 0 + uOf [v0, v1, v2, v3, v4, v5, v6, v7]) % 4294967296 : Nat) : Int) = ((v7 : Int) + s2 + c3 + x + z2 + m5) % 4294967296 := by rw [eT, eU]; omega
  have e4 : (((v3 + tOf [v0, v1, v2, v3, v4, v5, v6, v7] x 0) % 4294967296 : Nat) : Int) = ((v3 : Int) + (v7 + s2 + c3 + x)) % 4294967296 := by rw [eT]; omega
  refine bodyPost_ret (v := .agg (u32s (rndW [v0, v1, v2, v3, v4, v5, v6, v7] x))) ?_ rfl ⟨rfl, ?_⟩
  · refine results_cell_row (p := 4) (ty := 302) rfl _ _ (w.heap.size + 1) 302 _ (0, 0) _ rfl ?_ Tryz.underlying302 rfl (by kernel_rfl)
    have h0 := heap_two_drewN w (.cells #[.int .u32 (v0 : Int), .int .u32 (v1 : Int), .int .u32 (v2 : Int), .int .u32 (v3 : Int), .int .u32 (v4 : Int), .int .u32 (v5 : Int), .int .u32 (v6 : Int), .int .u32 (v7 : Int)] 302) (.cells #[.int .u32 0, .int .u32 0, .int .u32 0, .int .u32 0, .int .u32 0, .int .u32 0, .int .u32 0, .int .u32 0] 302) nq
    have h1 := fun (a b c d e f g h : Value) => heap_setCell_same _ (w.heap.size + 1) 7 _ _ h (heap_setCell_same _ (w.heap.size + 1) 6 _ _ g (heap_setCell_same _ (w.heap.size + 1) 5 _ _ f (heap_setCell_same _ (w.heap.size + 1) 4 _ _ e (heap_setCell_same _ (w.heap.size + 1) 3 _ _ d (heap_setCell_same _ (w.heap.size + 1) 2 _ _ c (heap_setCell_same _ (w.heap.size + 1) 1 _ _ b (heap_setCell_same _ (w.heap.size + 1) 0 _ _ a h0)))))))
    have hL : u32s (rndW [v0, v1, v2, v3, v4, v5, v6, v7] x) = #[.int .u32 (((v7 : Int) + s2 + c3 + x + z2 + m5) % 4294967296), .int .u32 (v0 : Int), .int .u32 (v1 : Int), .int .u32 (v2 : Int), .int .u32 (((v3 : Int) + (v7 + s2 + c3 + x)) % 4294967296), .int .u32 (v4 : Int), .int .u32 (v5 : Int), .int .u32 (v6 : Int)] := by
      rw [← e0, ← e4]
      rfl
    rw [hL]
    exact h1 _ _ _ _ _ _ _ _
  · refine Below.setCell ?_ (by show _ ≤ w.heap.size + 1; omega) _
    refine Below.setCell ?_ (by show _ ≤ w.heap.size + 1; omega) _
    refine Below.setCell ?_ (by show _ ≤ w.heap.size + 1; omega) _
    refine Below.setCell ?_ (by show _ ≤ w.heap.size + 1; omega) _
    refine Below.setCell ?_ (by show _ ≤ w.heap.size + 1; omega) _
    refine Below.setCell ?_ (by show _ ≤ w.heap.size + 1; omega) _
    refine Below.setCell ?_ (by show _ ≤ w.heap.size + 1; omega) _
    refine Below.setCell ?_ (by show _ ≤ w.heap.size + 1; omega) _
    exact below_drewN' (((Below.refl _ _).alloc (Nat.le_refl _) _).alloc (by simp) _) nq
end Go.Proofs.YtapijhhmjjplmaaGreatDoor
