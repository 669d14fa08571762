/- OWN TEXT: the reference's product of digits. -/
import Derived.Test.YtapijhhmjjplmaaGreatDoorProg
import Derived.Test.YtapijhhmjjplmaaGreatDoorDigits
import Derived.Test.YtapijhhmjjplmaaGreatDoorMem
import Derived.Deep.OwnRows
namespace Go.Proofs.YtapijhhmjjplmaaGreatDoor
open Go.RowKit

/-- Digits as ints. -/
def ints (l : List Nat) : List Int := l.map (fun x : Nat => (x : Int))
theorem ints_length (l : List Nat) : (ints l).length = l.length := by simp [ints]
theorem ints_at (l : List Nat) (j : Nat) (h : j < l.length) : (ints l)[j]'(by rw [ints_length]; exact h) = (l[j] : Int) := by simp [ints]
theorem ints_set (l : List Nat) (k y : Nat) : (ints l).set k (y : Int) = ints (l.set k y) := by simp [ints, List.map_set]
theorem row_at {w : World} {b : Nat} {l : List Nat} (h : Row w b (ints l)) (j : Nat) (hj : j < l.length) : w.cell? ⟨b, j, none⟩ = some (.int .i64 (l[j] : Int)) := by
  have := h.cell j (by rw [ints_length]; exact hj)
  rw [ints_at l j hj] at this
  exact this
theorem row_set {w : World} {b : Nat} {l : List Nat} (h : Row w b (ints l)) (k : Nat) (hk : k < l.length) (y : Nat) : Row (w.setCell ⟨b, k, none⟩ (.int .i64 (y : Int))) b (ints (l.set k y)) := by
  have := h.set k (by rw [ints_length]; exact hk) (y : Int)
  rw [ints_set] at this
  exact this

theorem infoInt : (Tryz.prog.info? 3).map (fun i => (i.zero, i.size, i.bytes)) = some (some (.int .i64 0), 1, 8) := by kernel_rfl

theorem row_made (w : World) (n : Nat) (t : TypeId) : Row (w.alloc (.cells (madeCells #[.int .i64 0] n) t)) w.heap.size (ints (List.replicate n 0)) := by
  refine ⟨t, [], ?_⟩
  show (w.heap.push _)[w.heap.size]? = _
  rw [Array.getElem?_push_size, List.append_nil]
  have : madeCells #[.int .i64 0] n = ((ints (List.replicate n 0)).map (Value.int .i64)).toArray := by
    apply Array.toList_inj.1
    rw [toList_madeCells_one]
    simp [ints]
  rw [this]

set_option maxRecDepth 100000 in
set_option maxHeartbeats 1000000 in
theorem times_any (ba bb ca cb la lb : Nat) (a b : List Nat) (w : World) (ra : Row w ba (ints a)) (rb : Row w bb (ints b)) (ha : ∀ d ∈ a, d < 65536) (hb : ∀ d ∈ b, d < 65536) (ea : Hid (a.length = la)) (eb : Hid (b.length = lb)) (hla : la ≤ 6) (hlb : lb ≤ 6) :
    Calls Tryz.prog 249 #[.slice (some ⟨ba, 0, none⟩) la ca, .slice (some ⟨bb, 0, none⟩) lb cb] w fun e w' =>
      ∃ c : List Nat, c.length = la + lb ∧ (∀ d ∈ c, d < 65536) ∧ dv c = dv a * dv b ∧
        e = .returned (.slice (some ⟨w.heap.size, 0, none⟩) (la + lb) (la + lb)) ∧ Row w' w.heap.size (ints c) ∧ Below w.heap.size w w' := by
  have hmk : ∀ w, (Instr.makeSlice 34 (.int .i64 ((la : Int) + (lb : Int))) (.int .i64 ((la : Int) + (lb : Int)))).run Tryz.prog w = .ok (.slice (some ⟨w.heap.size, 0, none⟩) (la + lb) (la + lb)) (w.alloc (.cells (madeCells #[.int .i64 0] (la + lb)) 3)) := fun w => by
    have := run_make_row' (P := Tryz.prog) 34 3 (.int .i64 0) 8 Tryz.underlying34 infoInt rfl .i64 .i64 (la + lb) (by omega) (by omega) w
    rwa [Int.natCast_add] at this
  have hB1 := ra.lt
  have hB2 := rb.lt
  go_enter Tryz.func249, Tryz.ntmps249
  go_wp2
  clear hmk
  go_loopw [6] (fun v wr => ∃ (i : Nat) (c : List Nat), i ≤ la ∧ v = .int .i64 i ∧ Hid (c.length = la + lb) ∧ (∀ d ∈ c, d < 65536) ∧ Hid (dv c = part a b i 0) ∧ Row wr w.heap.size (ints c) ∧ Below w.heap.size w wr) (fun v _ => la - (intOf v).toNat)
  case atStart =>
    refine ⟨0, List.replicate (la + lb) 0, by omega, rfl, List.length_replicate .., ?_, ?_, row_made _ _ _, (Below.refl _ _).alloc (Nat.le_refl _) _⟩
    · intro d hd; rw [List.eq_of_mem_replicate hd]; omega
    · show dv _ = _; rw [dv_replicate]; simp [part, dv]
  case round =>
    obtain ⟨i, c, hi, rfl, hc, hd, hv, hr, hbl⟩ := hrel
    by_cases hlt : i < la
    · go_wp2
      go_loopw [7] (fun v wr => ∃ (j : Nat) (c : List Nat), j ≤ lb ∧ v = .int .i64 j ∧ Hid (c.length = la + lb) ∧ (∀ d ∈ c, d < 65536) ∧ Hid (dv c = part a b i j) ∧ Row wr w.heap.size (ints c) ∧ Below w.heap.size w wr) (fun v _ => lb - (intOf v).toNat)
      case atStart => exact ⟨0, c, Nat.zero_le _, rfl, hc, hd, hv, hr, hbl⟩
      case round =>
        clear hc hd hv hr hbl c
        obtain ⟨j, c, hj, rfl, hc, hd, hv, hr, hbl⟩ := hrel
        by_cases hlj : j < lb
        · have hai : i < a.length := by have := ea.out; omega
          have hbj : j < b.length := by have := eb.out; omega
          have hck : i + j < c.length := by have := hc.out; omega
          obtain ⟨x, hx⟩ : ∃ x, x = a[i] := ⟨_, rfl⟩
          obtain ⟨y, hy⟩ : ∃ y, y = b[j] := ⟨_, rfl⟩
          obtain ⟨z, hz⟩ : ∃ z, z = c[i + j] := ⟨_, rfl⟩
          have hx1 : x < 65536 := by rw [hx]; exact ha _ (List.getElem_mem _)
          have hy1 : y < 65536 := by rw [hy]; exact hb _ (List.getElem_mem _)
          have hz1 : z < 65536 := by rw [hz]; exact hd _ (List.getElem_mem _)
          have cx : wr.cell? ⟨ba, i, none⟩ = some (.int .i64 (x : Int)) := by rw [hx]; exact row_at (ra.on hbl hB1) i hai
          have cy : wr.cell? ⟨bb, j, none⟩ = some (.int .i64 (y : Int)) := by rw [hy]; exact row_at (rb.on hbl hB2) j hbj
          have cz : wr.cell? ⟨w.heap.size, i + j, none⟩ = some (.int .i64 (z : Int)) := by rw [hz]; exact row_at hr (i + j) hck
          have fz : wr.frozen? ⟨w.heap.size, i + j, none⟩ = false := hr.frozen _
          have HX : Hid (x = a[i]) := hx
          have HY : Hid (y = b[j]) := hy
          have HZ : Hid (z = c[i + j]) := hz
          clear hx hy hz
          have hxy : x * y ≤ 4294836225 := Nat.le_trans (Nat.mul_le_mul (Nat.le_of_lt_succ hx1) (Nat.le_of_lt_succ hy1)) (by decide)
          have hxyi : (x : Int) * (y : Int) ≤ 4294836225 := by
            have h : ((x * y : Nat) : Int) ≤ 4294836225 := by omega
            rwa [Int.natCast_mul] at h
          have hxy0 : 0 ≤ (x : Int) * (y : Int) := Int.mul_nonneg (Int.natCast_nonneg _) (Int.natCast_nonneg _)
          clear hxy
          go_wp2
          go_region
          go_wp2
          have hlt0 : part a b i (j + 1) < 65536 ^ (la + lb) := by
            have := part_lt a b ha hb i (j + 1) hai
            rwa [ea.out, eb.out] at this
          have HT : Hid (part a b i (j + 1) < 65536 ^ (la + lb)) := hlt0
          clear hlt0
          go_loopw [8] (fun v wr' => ∃ (k : Nat) (c' : List Nat), k < la + lb ∧ v = .int .i64 k ∧ Hid (c'.length = la + lb) ∧ (∀ m, m ≠ k → c'.getD m 0 < 65536) ∧ c'.getD k 0 < 4294967296 ∧ Hid (dv c' = part a b i (j + 1)) ∧ Row wr' w.heap.size (ints c') ∧ Below w.heap.size w wr') (fun v _ => (la + lb) - (intOf v).toNat)
          case atStart =>
            have hzx : z + x * y < 4294967296 := by
              have h : ((x * y : Nat) : Int) ≤ 4294836225 := by rw [Int.natCast_mul]; exact hxyi
              omega
            have e : ((z + x * y : Nat) : Int) = (z : Int) + (x : Int) * (y : Int) := by rw [Int.natCast_add, Int.natCast_mul]
            refine ⟨i + j, c.set (i + j) (z + x * y), by omega, by go_num, ?_, ?_, ?_, ?_, ?_, ?_⟩
            · show (c.set _ _).length = _; rw [List.length_set]; exact hc.out
            · intro m hm
              rw [List.getD_eq_getElem?_getD, List.getElem?_set_ne (by omega)]
              rcases Nat.lt_or_ge m c.length with h | h
              · rw [List.getElem?_eq_getElem h]; exact hd _ (List.getElem_mem _)
              · rw [List.getElem?_eq_none h]; decide
            · rw [List.getD_eq_getElem?_getD, List.getElem?_set_self hck]; exact hzx
            · show dv _ = _
              have h1 := dv_set c (i + j) (z + x * y) hck
              have h2 := part_step a b i j hbj
              rw [h2, ← hv.out]
              have e1 : a.getD i 0 = x := by rw [HX.out]; simp [List.getD, List.getElem?_eq_getElem hai]
              rw [e1, ← HY.out]
              rw [← HZ.out] at h1
              rw [Nat.add_mul] at h1
              omega
            · have := row_set hr (i + j) hck (z + x * y)
              rw [e] at this
              exact this
            · exact (hbl.setCell (p := ⟨w.heap.size, i + j, none⟩) (Nat.le_refl _) _).trans ⟨rfl, rfl, rfl, Nat.le_refl _, fun _ _ => rfl⟩
          case round =>
            clear hc hd hv hr hbl cx cy cz fz HX HY HZ hxyi hxy0 hx1 hy1 hz1 hck
            obtain ⟨k, c, hk, rfl, hc, hd0, hu, hv, hr, hbl⟩ := hrel
            have hd : Hid (∀ m, m ≠ k → c.getD m 0 < 65536) := hd0
            clear hd0
            have hkc : k < c.length := by have := hc.out; omega
            obtain ⟨u, hu0⟩ : ∃ u, u = c[k] := ⟨_, rfl⟩
            have hu1 : u < 4294967296 := by rw [List.getD_eq_getElem?_getD, List.getElem?_eq_getElem hkc] at hu; rw [hu0]; exact hu
            have cu : wr.cell? ⟨w.heap.size, k, none⟩ = some (.int .i64 (u : Int)) := by rw [hu0]; exact row_at hr k hkc
            have fu : wr.frozen? ⟨w.heap.size, k, none⟩ = false := hr.frozen _
            have HU : Hid (u = c[k]) := hu0
            have HU1 : Hid (u < 4294967296) := hu1
            have hui : (u : Int) < 4294967296 := by omega
            clear hu0 hu hu1
            by_cases hbig : (65536 : Int) ≤ (u : Int)
            · have hk1 : k + 1 < c.length := carry_in c k _ hkc hv.out (by rw [hc.out]; exact HT.out) (by rw [← HU.out]; omega)
              have hk2 : k + 1 < la + lb := by have := hc.out; omega
              obtain ⟨y, hy⟩ : ∃ y, y = c[k + 1] := ⟨_, rfl⟩
              have hy1 : y < 65536 := by
                have := hd.out (k + 1) (by omega)
                rw [List.getD_eq_getElem?_getD, List.getElem?_eq_getElem hk1] at this
                rw [hy]; exact this
              have cy : wr.cell? ⟨w.heap.size, k + 1, none⟩ = some (.int .i64 (y : Int)) := by rw [hy]; exact row_at hr (k + 1) hk1
              have fy : wr.frozen? ⟨w.heap.size, k + 1, none⟩ = false := hr.frozen _
              have HY : Hid (y = c[k + 1]) := hy
              clear hy
              clear hlt hlj hi hj HT ra rb
              go_wp2
              go_region
              go_wp2
              go_roundw
              case rel =>
                have e1 : ((y + u / 65536 : Nat) : Int) = (y : Int) + (u : Int) / 65536 := by omega
                have e2 : ((u % 65536 : Nat) : Int) = (u : Int) % 65536 := by omega
                refine ⟨k + 1, (c.set (k + 1) (y + u / 65536)).set k (u % 65536), by omega, by go_num, ?_, ?_, ?_, ?_, ?_, ?_⟩
                · show List.length _ = _; rw [List.length_set, List.length_set]; exact hc.out
                · intro m hm
                  rw [List.getD_eq_getElem?_getD]
                  by_cases hmk : m = k
                  · subst hmk
                    rw [List.getElem?_set_self (by rw [List.length_set]; omega)]
                    exact Nat.mod_lt _ (by decide)
                  · rw [List.getElem?_set_ne (by omega), List.getElem?_set_ne (by omega)]
                    have := hd.out m hmk
                    rwa [List.getD_eq_getElem?_getD] at this
                · rw [List.getD_eq_getElem?_getD, List.getElem?_set_ne (by omega), List.getElem?_set_self hk1]
                  show y + u / 65536 < _
                  have := HU1.out
                  omega
                · show dv _ = _
                  rw [HU.out, HY.out, carry_same c k hk1]
                  exact hv.out
                · have h1 := row_set hr (k + 1) hk1 (y + u / 65536)
                  have h2 := row_set h1.drew k (by rw [List.length_set]; omega) (u % 65536)
                  rw [e1, e2] at h2
                  exact h2
                · exact ((hbl.setCell (p := ⟨w.heap.size, k + 1, none⟩) (Nat.le_refl _) _).setCell (p := ⟨w.heap.size, k, none⟩) (Nat.le_refl _) _).drew
              case measure => simp [intOf]; omega
            · go_wp2
              go_roundw
              case rel =>
                refine ⟨j + 1, c, by omega, by go_num, hc, ?_, hv, hr, hbl⟩
                intro d hdm
                obtain ⟨m, hm, rfl⟩ := List.getElem_of_mem hdm
                by_cases hmk : m = k
                · subst hmk; rw [← HU.out]; omega
                · have := hd.out m hmk
                  rwa [List.getD_eq_getElem?_getD, List.getElem?_eq_getElem hm] at this
              case measure => simp [intOf]; omega
        · go_wp2
          go_roundw
          case rel =>
            have : j = lb := by omega
            subst this
            refine ⟨i + 1, c, by omega, by go_num, hc, hd, ?_, hr, hbl⟩
            show dv c = _
            rw [hv.out, ← eb.out]
            exact part_row a b i (by have := ea.out; omega)
          case measure => simp [intOf]; omega
    · go_wp2
      go_ret
      refine ⟨c, hc, hd, ?_, rfl, hr, hbl⟩
      have : i = la := by omega
      subst this
      rw [hv.out]
      simp [part, dv, ← ea.out]
end Go.Proofs.YtapijhhmjjplmaaGreatDoor
