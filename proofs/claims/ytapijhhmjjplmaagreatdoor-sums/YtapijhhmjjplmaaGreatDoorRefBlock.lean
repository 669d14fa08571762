/- OWN TEXT: the reference's block. -/
import Derived.Test.YtapijhhmjjplmaaGreatDoorRefTurn
import Derived.Test.YtapijhhmjjplmaaGreatDoorMaker
namespace Go.Proofs.YtapijhhmjjplmaaGreatDoor
open Go.RowKit

theorem cell_lt' {w : World} {p : Addr} {v : Value} (h : w.cell? p = some v) : p.block < w.heap.size := by
  rcases Nat.lt_or_ge p.block w.heap.size with h' | h'
  · exact h'
  · simp [World.cell?, Array.getElem?_eq_none h'] at h

/-- Bytes at an address. -/
def BytesAt (w : World) (bp op : Nat) (p : List Nat) : Prop := ∀ j (h : j < p.length), w.cell? ⟨bp, op + j, none⟩ = some (.int .u8 (p[j] : Int))

set_option maxRecDepth 100000 in
set_option maxHeartbeats 4000000 in
theorem block_any (bm gk ck bh ch bp op cp : Nat) (ks h p : List Nat) (w : World)
    (hm0 : w.cell? ⟨bm, 0, none⟩ = some (.slice (some ⟨gk, 0, none⟩) 64 ck)) (hk : Row w gk (ints ks)) (hkl : ks.length = 64) (hkw : ∀ d ∈ ks, d < w32)
    (hh : Row w bh (ints h)) (hhl : h.length = 8) (hhw : ∀ d ∈ h, d < w32) (hp : BytesAt w bp op p) (hpl : p.length = 64) (hpb : ∀ d ∈ p, d < 256) (hbp : bp < w.heap.size) :
    Calls Tryz.prog 108 #[.pointer (some ⟨bm, 0, none⟩), .slice (some ⟨bh, 0, none⟩) 8 ch, .slice (some ⟨bp, op, none⟩) 64 cp] w fun e w' =>
      e = .returned (.tuple #[]) ∧ Row w' bh (ints (mixN ks h p)) ∧ w.heap.size ≤ w'.heap.size ∧ (∀ b, b < w.heap.size → b ≠ bh → w'.heap[b]? = w.heap[b]?) ∧ w'.os = w.os ∧ w'.tape = w.tape ∧ w'.output = w.output := by
  have hmk : ∀ w, (Instr.makeSlice 34 (.int .i64 64) (.int .i64 64)).run Tryz.prog w = .ok (.slice (some ⟨w.heap.size, 0, none⟩) 64 64) (w.alloc (.cells (madeCells #[.int .i64 0] 64) 3)) := fun w =>
    run_make_row' (P := Tryz.prog) 34 3 (.int .i64 0) 8 Tryz.underlying34 infoInt rfl .i64 .i64 64 (by omega) (by omega) w
  go_enter Tryz.func108, Tryz.ntmps108
  go_wp2
  clear hmk
  go_loopw [7] (fun iv_ wr => ∃ i : Nat, i ≤ 16 ∧ iv_ = .int .i64 i ∧ Hid (Row wr w.heap.size (ints (fill (schedTo p i) 64))) ∧ Hid (Below w.heap.size w wr)) (fun i _ => 16 - (intOf i).toNat)
  case atStart => exact ⟨0, by omega, rfl, row_made w 64 _, (Below.refl _ _).alloc (Nat.le_refl _) _⟩
  case round =>
    obtain ⟨i, hi, rfl, HR, HB⟩ := hrel
    by_cases hlt : i < 16
    · obtain ⟨b0, e0⟩ : ∃ b, b = p.getD (4 * i) 0 := ⟨_, rfl⟩
      obtain ⟨b1, e1⟩ : ∃ b, b = p.getD (4 * i + 1) 0 := ⟨_, rfl⟩
      obtain ⟨b2, e2⟩ : ∃ b, b = p.getD (4 * i + 2) 0 := ⟨_, rfl⟩
      obtain ⟨b3, e3⟩ : ∃ b, b = p.getD (4 * i + 3) 0 := ⟨_, rfl⟩
      have q0 : b0 < 256 := by rw [e0]; exact getD_lt hpb (by omega) _
      have q1 : b1 < 256 := by rw [e1]; exact getD_lt hpb (by omega) _
      have q2 : b2 < 256 := by rw [e2]; exact getD_lt hpb (by omega) _
      have q3 : b3 < 256 := by rw [e3]; exact getD_lt hpb (by omega) _
      have cp0 : ∀ j, j < 64 → wr.cell? ⟨bp, op + j, none⟩ = some (.int .u8 (p.getD j 0 : Int)) := fun j hj => by
        rw [HB.out.cell (by exact hbp), hp j (by omega), List.getD_eq_getElem?_getD, List.getElem?_eq_getElem (by omega)]
        rfl
      have c0 : wr.cell? ⟨bp, op + 4 * i, none⟩ = some (.int .u8 (b0 : Int)) := by rw [e0]; exact cp0 _ (by omega)
      have c1 : wr.cell? ⟨bp, op + (4 * i + 1), none⟩ = some (.int .u8 (b1 : Int)) := by rw [e1]; exact cp0 _ (by omega)
      have c2 : wr.cell? ⟨bp, op + (4 * i + 2), none⟩ = some (.int .u8 (b2 : Int)) := by rw [e2]; exact cp0 _ (by omega)
      have c3 : wr.cell? ⟨bp, op + (4 * i + 3), none⟩ = some (.int .u8 (b3 : Int)) := by rw [e3]; exact cp0 _ (by omega)
      have hfl : (fill (schedTo p i) 64).length = 64 := fill_length _ _ (by rw [schedTo_length]; omega)
      obtain ⟨z, cz⟩ : ∃ z : Int, wr.cell? ⟨w.heap.size, i, none⟩ = some (.int .i64 z) := ⟨_, row_at HR.out i (by omega)⟩
      have fz := HR.out.frozen i
      have HE : Hid (wd p i = b0 * 16777216 + b1 * 65536 + b2 * 256 + b3) := by
        show _ = _
        rw [e0, e1, e2, e3]; rfl
      clear e0 e1 e2 e3 cp0
      clear hkw hhw hpb hk hh hp
      go_wp2
      go_region
      go_wp2
      go_roundw
      case rel =>
        have ez : ((wd p i : Nat) : Int) = (b0 : Int) * 16777216 + (b1 : Int) * 65536 + (b2 : Int) * 256 + (b3 : Int) := by rw [HE.out]; omega
        refine ⟨i + 1, by omega, by go_num, ?_, ?_⟩
        · show Row _ _ _
          have h1 := row_set HR.out i (by omega) (wd p i)
          have h2 : (fill (schedTo p i) 64).set i (wd p i) = fill (schedTo p (i + 1)) 64 := by
            have h3 := fill_set (schedTo p i) 64 (wd p i) (by rw [schedTo_length]; omega)
            rw [schedTo_length] at h3
            rw [h3]
            show _ = fill (schedTo p i ++ [nxt (schedTo p i) p i]) 64
            rw [nxt, if_pos hlt]
          rw [h2, ez] at h1
          exact h1
        · exact (HB.out.setCell (p := ⟨w.heap.size, i, none⟩) (Nat.le_refl _) _).drew
      case measure => (simp [intOf]; try omega)
    · have hi16 : i = 16 := by omega
      obtain ⟨i1, hi1⟩ : ∃ i1, i1 = i := ⟨_, rfl⟩
      subst hi1
      have HR1 : Hid (Row wr w.heap.size (ints (fill (schedTo p 16) 64))) := by
        have h := HR.out
        rw [hi16] at h
        exact h
      clear HR hi16
      have HK : Hid (Row w gk (ints ks)) := hk
      have HH : Hid (Row w bh (ints h)) := hh
      have HKW : Hid (∀ d ∈ ks, d < w32) := hkw
      have HHW : Hid (∀ d ∈ h, d < w32) := hhw
      have HPB : Hid (∀ d ∈ p, d < 256) := hpb
      have HM0 : Hid (w.cell? ⟨bm, 0, none⟩ = some (.slice (some ⟨gk, 0, none⟩) 64 ck)) := hm0
      have HKL : Hid (ks.length = 64) := hkl
      have HHL : Hid (h.length = 8) := hhl
      clear hk hh hkw hhw hpb hp hm0 hkl hhl hpl
      go_wp2
      go_loopw [8] (fun iv_ wr => ∃ i : Nat, i ≤ 64 ∧ 16 ≤ i ∧ iv_ = .int .i64 i ∧ Hid (Row wr w.heap.size (ints (fill (schedTo p i) 64))) ∧ Hid (Below w.heap.size w wr)) (fun i _ => 64 - (intOf i).toNat)
      case atStart => exact ⟨16, by omega, by omega, rfl, HR1, HB⟩
      case round =>
        clear HR1 HB hlt
        obtain ⟨i, hi, hi16, rfl, HR, HB⟩ := hrel
        by_cases hlt : i < 64
        · have hfl : (fill (schedTo p i) 64).length = 64 := fill_length _ _ (by rw [schedTo_length]; omega)
          have hsl := schedTo_length p i
          have gat : ∀ j, j < i → wr.cell? ⟨w.heap.size, j, none⟩ = some (.int .i64 ((schedTo p i).getD j 0 : Int)) := fun j hj => by
            rw [row_at HR.out j (by omega), fill_at _ _ _ (by omega) (by omega), List.getD_eq_getElem?_getD, List.getElem?_eq_getElem (by omega)]
            rfl
          have glt : ∀ j, (schedTo p i).getD j 0 < w32 := fun j => getD_lt (schedTo_lt p HPB.out i) (by decide) j
          obtain ⟨x16, e16⟩ : ∃ x, x = (schedTo p i).getD (i - 16) 0 := ⟨_, rfl⟩
          obtain ⟨x15, e15⟩ : ∃ x, x = (schedTo p i).getD (i - 15) 0 := ⟨_, rfl⟩
          obtain ⟨x7, e7⟩ : ∃ x, x = (schedTo p i).getD (i - 7) 0 := ⟨_, rfl⟩
          obtain ⟨x2, e2⟩ : ∃ x, x = (schedTo p i).getD (i - 2) 0 := ⟨_, rfl⟩
          have q16 : (x16 : Int) ≤ 4294967295 := by have := glt (i - 16); rw [← e16] at this; unfold w32 at this; omega
          have q15 : (x15 : Int) ≤ 4294967295 := by have := glt (i - 15); rw [← e15] at this; unfold w32 at this; omega
          have q7 : (x7 : Int) ≤ 4294967295 := by have := glt (i - 7); rw [← e7] at this; unfold w32 at this; omega
          have q2 : (x2 : Int) ≤ 4294967295 := by have := glt (i - 2); rw [← e2] at this; unfold w32 at this; omega
          have c16 : wr.cell? ⟨w.heap.size, i - 16, none⟩ = some (.int .i64 (x16 : Int)) := by rw [e16]; exact gat _ (by omega)
          have c15 : wr.cell? ⟨w.heap.size, i - 15, none⟩ = some (.int .i64 (x15 : Int)) := by rw [e15]; exact gat _ (by omega)
          have c7 : wr.cell? ⟨w.heap.size, i - 7, none⟩ = some (.int .i64 (x7 : Int)) := by rw [e7]; exact gat _ (by omega)
          have c2 : wr.cell? ⟨w.heap.size, i - 2, none⟩ = some (.int .i64 (x2 : Int)) := by rw [e2]; exact gat _ (by omega)
          obtain ⟨z, cz⟩ : ∃ z : Int, wr.cell? ⟨w.heap.size, i, none⟩ = some (.int .i64 z) := ⟨_, row_at HR.out i (by omega)⟩
          have fz := HR.out.frozen i
          have HN : Hid (nxt (schedTo p i) p i = (x16 + x7 + s0 x15 + s1 x2) % 4294967296) := by
            show _ = _
            rw [nxt, if_neg (by omega), ← e16, ← e15, ← e7, ← e2]
          clear e16 e15 e7 e2 gat glt hsl
          go_wp2_with fail
          refine (turn_any x15 7 _ q15 (by omega) (by omega)).mono ?_
          rintro e w' ⟨rfl, rfl⟩
          obtain ⟨a7, ha7⟩ : ∃ a, a = rotN x15 7 := ⟨_, rfl⟩
          rw [← ha7]
          have ba7 : (a7 : Int) ≤ 4294967295 := by have := rotN_lt x15 7; rw [← ha7] at this; unfold w32 at this; omega
          have Ha7 : Hid (a7 = rotN x15 7) := ha7
          clear ha7
          go_wp2_with fail
          refine (turn_any x15 18 _ q15 (by omega) (by omega)).mono ?_
          rintro e w' ⟨rfl, rfl⟩
          obtain ⟨a18, ha18⟩ : ∃ a, a = rotN x15 18 := ⟨_, rfl⟩
          rw [← ha18]
          have ba18 : (a18 : Int) ≤ 4294967295 := by have := rotN_lt x15 18; rw [← ha18] at this; unfold w32 at this; omega
          have Ha18 : Hid (a18 = rotN x15 18) := ha18
          clear ha18
          go_wp2_with fail
          refine (turn_any x2 17 _ q2 (by omega) (by omega)).mono ?_
          rintro e w' ⟨rfl, rfl⟩
          obtain ⟨c17, hc17⟩ : ∃ a, a = rotN x2 17 := ⟨_, rfl⟩
          rw [← hc17]
          have bc17 : (c17 : Int) ≤ 4294967295 := by have := rotN_lt x2 17; rw [← hc17] at this; unfold w32 at this; omega
          have Hc17 : Hid (c17 = rotN x2 17) := hc17
          clear hc17
          go_wp2_with fail
          refine (turn_any x2 19 _ q2 (by omega) (by omega)).mono ?_
          rintro e w' ⟨rfl, rfl⟩
          obtain ⟨c19, hc19⟩ : ∃ a, a = rotN x2 19 := ⟨_, rfl⟩
          rw [← hc19]
          have bc19 : (c19 : Int) ≤ 4294967295 := by have := rotN_lt x2 19; rw [← hc19] at this; unfold w32 at this; omega
          have Hc19 : Hid (c19 = rotN x2 19) := hc19
          clear hc19
          obtain ⟨y1, hy1⟩ : ∃ y, y = a7 ^^^ a18 := ⟨_, rfl⟩
          obtain ⟨y2, hy2⟩ : ∃ y, y = y1 ^^^ (x15 / 8) := ⟨_, rfl⟩
          obtain ⟨z1, hz1⟩ : ∃ y, y = c17 ^^^ c19 := ⟨_, rfl⟩
          obtain ⟨z2, hz2⟩ : ∃ y, y = z1 ^^^ (x2 / 1024) := ⟨_, rfl⟩
          have ly1 : y1 < w32 := by rw [hy1]; exact xor_w32 (by unfold w32; omega) (by unfold w32; omega)
          have ly2 : y2 < w32 := by rw [hy2]; exact xor_w32 ly1 (by unfold w32; omega)
          have lz1 : z1 < w32 := by rw [hz1]; exact xor_w32 (by unfold w32; omega) (by unfold w32; omega)
          have lz2 : z2 < w32 := by rw [hz2]; exact xor_w32 lz1 (by unfold w32; omega)
          unfold w32 at ly1 ly2 lz1 lz2
          have ny1 : bits .xor .i64 (a7 : Int) (a18 : Int) = (y1 : Int) := by rw [hy1]; exact i64_xor_nat _ _ (by omega) (by omega)
          have ny2 : bits .xor .i64 (y1 : Int) ((x15 : Int) / 8) = (y2 : Int) := by rw [hy2, ← i64_xor_nat _ _ (by omega) (by omega)]; rfl
          have nz1 : bits .xor .i64 (c17 : Int) (c19 : Int) = (z1 : Int) := by rw [hz1]; exact i64_xor_nat _ _ (by omega) (by omega)
          have nz2 : bits .xor .i64 (z1 : Int) ((x2 : Int) / 1024) = (z2 : Int) := by rw [hz2, ← i64_xor_nat _ _ (by omega) (by omega)]; rfl
          have uy2 : (y2 : Int) ≤ 4294967295 := by omega
          have uz2 : (z2 : Int) ≤ 4294967295 := by omega
          have HN2 : Hid (nxt (schedTo p i) p i = (x16 + x7 + y2 + z2) % 4294967296) := by
            show _ = _
            rw [HN.out, s0, s1, ← Ha7.out, ← Ha18.out, ← Hc17.out, ← Hc19.out, ← hy1, ← hz1, ← hy2, ← hz2]
          clear hy1 hy2 hz1 hz2 ly1 ly2 lz1 lz2 HN
          go_wp2
          go_region
          go_wp2
          go_roundw
          case rel =>
            have ez : ((nxt (schedTo p i) p i : Nat) : Int) = ((x16 : Int) + (x7 : Int) + (y2 : Int) + (z2 : Int)) % 4294967296 := by rw [HN2.out]; omega
            refine ⟨i + 1, by omega, by omega, by go_num, ?_, ?_⟩
            · show Row _ _ _
              have h1 := row_set HR.out i (by omega) (nxt (schedTo p i) p i)
              have h2 : (fill (schedTo p i) 64).set i (nxt (schedTo p i) p i) = fill (schedTo p (i + 1)) 64 := by
                have h3 := fill_set (schedTo p i) 64 (nxt (schedTo p i) p i) (by rw [schedTo_length]; omega)
                rw [schedTo_length] at h3
                rw [h3]
                rfl
              rw [h2, ez] at h1
              exact h1
            · exact (HB.out.setCell (p := ⟨w.heap.size, i, none⟩) (Nat.le_refl _) _).drew
          case measure => (simp [intOf]; try omega)
        · have hi64 : i = 64 := by omega
          obtain ⟨i2, hi2⟩ : ∃ i2, i2 = i := ⟨_, rfl⟩
          subst hi2
          have HR2 : Hid (Row wr w.heap.size (ints (schedTo p 64))) := by
            have h := HR.out
            rw [hi64] at h
            have e : fill (schedTo p 64) 64 = schedTo p 64 := by unfold fill; rw [schedTo_length]; simp
            rw [e] at h
            exact h
          clear HR hi64
          obtain ⟨i0, hi0, hz0, hz1, hz2⟩ := info_parts infoInt
          have hgk : gk < w.heap.size := HK.out.lt
          have hbhl : bh < w.heap.size := HH.out.lt
          have hbml : bm < w.heap.size := cell_lt' HM0.out
          obtain ⟨wa, hwa⟩ : ∃ wa, wa = wr := ⟨_, rfl⟩
          subst hwa
          have hsza : w.heap.size < wa.heap.size := HR2.out.lt
          have HCH : Hid (∀ j u, (iv h)[j]? = some u → (wa.alloc (.cells #[] 3)).cell? ((⟨bh, 0, none⟩ : Addr).add j) = some u) := by
            intro j u hj
            have hjl : j < h.length := by
              have := (List.getElem?_eq_some_iff.1 hj).1
              rw [iv_length] at this
              exact this
            rw [iv_at h j hjl] at hj
            cases hj
            have ea : (⟨bh, 0, none⟩ : Addr).add j = ⟨bh, j, none⟩ := by
              unfold Addr.add
              split
              · rename_i h0; rw [h0]
              · simp
            rw [ea, World.cell?_alloc_lt _ _ ⟨bh, j, none⟩ (by show bh < _; omega), HB.out.cell (by exact hbhl)]
            exact row_at HH.out j hjl
          have HO0 : Hid ((wa.alloc (.cells #[] 3)).ownsRow wa.heap.size 3 1 (.slice (some ⟨wa.heap.size, 0, none⟩) 0 0) 0 []) :=
            ⟨rfl, .inr ⟨_, 0, #[], rfl, Nat.le_refl _, by show (wa.heap.push _)[wa.heap.size]? = _; rw [Array.getElem?_push_size], Nat.le_refl _, Nat.zero_le _, rfl, rfl⟩⟩
          go_wp2_with (at_builtin; refine wpList_append_own_at _ rfl _ _ 34 rfl wa.heap.size 3 i0 (.int .i64 0) 1 8 Tryz.underlying34 hi0 hz0 hz1 hz2 rfl (by decide) _ _ _ rfl HO0.out ⟨bh, 0, none⟩ 8 ch (iv h) rfl ?a1 HCH.out ?a2 ?a3 ?a4 ?a5 ?_)
          case a1 => rw [iv_length, HHL.out]
          case a2 => intro u hu; unfold iv at hu; obtain ⟨q, _, rfl⟩ := List.mem_map.1 hu; rfl
          case a3 => unfold maxLen; omega
          case a4 => omega
          case a5 => simp
          intro v' wb hown' hgrow _ _
          obtain ⟨gv, cv, rfl, hgv, hrv⟩ := own_row hown' (by omega)
          have HBb : Hid (Below w.heap.size w wb) := (HB.out.alloc (by omega) _).grown hgrow (by simp; omega) (fun k hk => by have : wa.heap.size = k := Option.some.inj hk; omega)
          have hszb : wa.heap.size < wb.heap.size := by have := hgrow.size; simp at this; omega
          have HWb : Hid (Row wb w.heap.size (ints (schedTo p 64))) := (HR2.out.alloc _).of_heap (hgrow.block _ (by simp; omega) (by intro hh; have : w.heap.size = wa.heap.size := Option.some.inj hh; omega))
          have HVb : Hid (Row wb gv (ints h)) := hrv
          have hgvb : gv < wb.heap.size := hrv.lt
          clear hown' hgrow hrv HO0 HCH HR2 HB
          have hlist : ∀ (l : List Nat), l.length = 8 → ∃ v0 v1 v2 v3 v4 v5 v6 v7, l = [v0, v1, v2, v3, v4, v5, v6, v7] := fun l hl => by
            match l, hl with
            | [v0, v1, v2, v3, v4, v5, v6, v7], _ => exact ⟨v0, v1, v2, v3, v4, v5, v6, v7, rfl⟩
          have HL8 : Hid (∀ (l : List Nat), l.length = 8 → ∃ v0 v1 v2 v3 v4 v5 v6 v7, l = [v0, v1, v2, v3, v4, v5, v6, v7]) := hlist
          clear hlist
          go_wp2
          go_loopw [16] (fun iv_ wr => ∃ i : Nat, i ≤ 64 ∧ iv_ = .int .i64 i ∧ Hid (Row wr gv (ints (rnds ks (schedTo p 64) h i))) ∧ Hid (Only gv wb wr)) (fun i _ => 64 - (intOf i).toNat)
          case atStart => exact ⟨0, by omega, rfl, HVb, Only.refl _ _⟩
          case round =>
            clear HVb hlt
            obtain ⟨i, hi, rfl, HV, HO⟩ := hrel
            by_cases hlt : i < 64
            · obtain ⟨v, hv⟩ : ∃ v, v = rnds ks (schedTo p 64) h i := ⟨_, rfl⟩
              have hvl : v.length = 8 := by rw [hv]; exact rnds_length _ _ _ HHL.out i
              have hvw : ∀ d ∈ v, d < w32 := by rw [hv]; exact rnds_lt _ _ _ HHL.out HHW.out i
              obtain ⟨v0, v1, v2, v3, v4, v5, v6, v7, hv8⟩ := HL8.out v hvl
              have hrv := HV.out
              rw [← hv, hv8] at hrv
              have HVR : Hid (Row wr gv (ints [v0, v1, v2, v3, v4, v5, v6, v7])) := hrv
              have HVE : Hid ([v0, v1, v2, v3, v4, v5, v6, v7] = rnds ks (schedTo p 64) h i) := by rw [← hv8]; exact hv
              rw [hv8] at hvw
              have b0 : (v0 : Int) ≤ 4294967295 := by have := hvw v0 (by simp); unfold w32 at this; omega
              have c0 := row_at hrv 0 (by simp)
              have f0 := hrv.frozen 0
              have b1 : (v1 : Int) ≤ 4294967295 := by have := hvw v1 (by simp); unfold w32 at this; omega
              have c1 := row_at hrv 1 (by simp)
              have f1 := hrv.frozen 1
              have b2 : (v2 : Int) ≤ 4294967295 := by have := hvw v2 (by simp); unfold w32 at this; omega
              have c2 := row_at hrv 2 (by simp)
              have f2 := hrv.frozen 2
              have b3 : (v3 : Int) ≤ 4294967295 := by have := hvw v3 (by simp); unfold w32 at this; omega
              have c3 := row_at hrv 3 (by simp)
              have f3 := hrv.frozen 3
              have b4 : (v4 : Int) ≤ 4294967295 := by have := hvw v4 (by simp); unfold w32 at this; omega
              have c4 := row_at hrv 4 (by simp)
              have f4 := hrv.frozen 4
              have b5 : (v5 : Int) ≤ 4294967295 := by have := hvw v5 (by simp); unfold w32 at this; omega
              have c5 := row_at hrv 5 (by simp)
              have f5 := hrv.frozen 5
              have b6 : (v6 : Int) ≤ 4294967295 := by have := hvw v6 (by simp); unfold w32 at this; omega
              have c6 := row_at hrv 6 (by simp)
              have f6 := hrv.frozen 6
              have b7 : (v7 : Int) ≤ 4294967295 := by have := hvw v7 (by simp); unfold w32 at this; omega
              have c7 := row_at hrv 7 (by simp)
              have f7 := hrv.frozen 7
              simp only [List.getElem_cons_zero, List.getElem_cons_succ] at c0 c1 c2 c3 c4 c5 c6 c7
              clear hv hvl hvw hv8 hrv HV
              obtain ⟨kk, hkk⟩ : ∃ x, x = ks.getD i 0 := ⟨_, rfl⟩
              obtain ⟨ww, hww⟩ : ∃ x, x = (schedTo p 64).getD i 0 := ⟨_, rfl⟩
              have bk : (kk : Int) ≤ 4294967295 := by have := getD_lt HKW.out (by decide) i; rw [← hkk] at this; unfold w32 at this; omega
              have bw : (ww : Int) ≤ 4294967295 := by have := getD_lt (schedTo_lt p HPB.out 64) (by decide) i; rw [← hww] at this; unfold w32 at this; omega
              have cm : wr.cell? ⟨bm, 0, none⟩ = some (.slice (some ⟨gk, 0, none⟩) 64 ck) := by
                rw [HO.out.cell (by show bm < _; omega) (by show bm ≠ _; omega), HBb.out.cell (by exact hbml)]
                exact HM0.out
              have ck' : wr.cell? ⟨gk, i, none⟩ = some (.int .i64 (kk : Int)) := by
                rw [HO.out.cell (by show gk < _; omega) (by show gk ≠ _; omega), HBb.out.cell (by exact hgk), row_at HK.out i (by rw [HKL.out]; exact hlt), hkk, List.getD_eq_getElem?_getD, List.getElem?_eq_getElem (by rw [HKL.out]; exact hlt)]
                rfl
              have cw : wr.cell? ⟨w.heap.size, i, none⟩ = some (.int .i64 (ww : Int)) := by
                rw [HO.out.cell (by show w.heap.size < _; omega) (by show w.heap.size ≠ _; omega), row_at HWb.out i (by rw [schedTo_length]; exact hlt), hww, List.getD_eq_getElem?_getD, List.getElem?_eq_getElem (by rw [schedTo_length]; exact hlt)]
                rfl
              have HKK : Hid (kk = ks.getD i 0) := hkk
              have HWW : Hid (ww = (schedTo p 64).getD i 0) := hww
              clear hkk hww
              go_wp2_with fail
              refine (turn_any v4 6 _ b4 (by omega) (by omega)).mono ?_
              rintro e w' ⟨rfl, rfl⟩
              obtain ⟨e6, he6⟩ : ∃ a, a = rotN v4 6 := ⟨_, rfl⟩
              rw [← he6]
              have be6 : (e6 : Int) ≤ 4294967295 := by have := rotN_lt v4 6; rw [← he6] at this; unfold w32 at this; omega
              have He6 : Hid (e6 = rotN v4 6) := he6
              clear he6
              go_wp2_with fail
              refine (turn_any v4 11 _ b4 (by omega) (by omega)).mono ?_
              rintro e w' ⟨rfl, rfl⟩
              obtain ⟨e11, he11⟩ : ∃ a, a = rotN v4 11 := ⟨_, rfl⟩
              rw [← he11]
              have be11 : (e11 : Int) ≤ 4294967295 := by have := rotN_lt v4 11; rw [← he11] at this; unfold w32 at this; omega
              have He11 : Hid (e11 = rotN v4 11) := he11
              clear he11
              go_wp2_with fail
              refine (turn_any v4 25 _ b4 (by omega) (by omega)).mono ?_
              rintro e w' ⟨rfl, rfl⟩
              obtain ⟨e25, he25⟩ : ∃ a, a = rotN v4 25 := ⟨_, rfl⟩
              rw [← he25]
              have be25 : (e25 : Int) ≤ 4294967295 := by have := rotN_lt v4 25; rw [← he25] at this; unfold w32 at this; omega
              have He25 : Hid (e25 = rotN v4 25) := he25
              clear he25
              go_wp2_with fail
              refine (turn_any v0 2 _ b0 (by omega) (by omega)).mono ?_
              rintro e w' ⟨rfl, rfl⟩
              obtain ⟨a2, ha2⟩ : ∃ a, a = rotN v0 2 := ⟨_, rfl⟩
              rw [← ha2]
              have ba2 : (a2 : Int) ≤ 4294967295 := by have := rotN_lt v0 2; rw [← ha2] at this; unfold w32 at this; omega
              have Ha2 : Hid (a2 = rotN v0 2) := ha2
              clear ha2
              go_wp2_with fail
              refine (turn_any v0 13 _ b0 (by omega) (by omega)).mono ?_
              rintro e w' ⟨rfl, rfl⟩
              obtain ⟨a13, ha13⟩ : ∃ a, a = rotN v0 13 := ⟨_, rfl⟩
              rw [← ha13]
              have ba13 : (a13 : Int) ≤ 4294967295 := by have := rotN_lt v0 13; rw [← ha13] at this; unfold w32 at this; omega
              have Ha13 : Hid (a13 = rotN v0 13) := ha13
              clear ha13
              go_wp2_with fail
              refine (turn_any v0 22 _ b0 (by omega) (by omega)).mono ?_
              rintro e w' ⟨rfl, rfl⟩
              obtain ⟨a22, ha22⟩ : ∃ a, a = rotN v0 22 := ⟨_, rfl⟩
              rw [← ha22]
              have ba22 : (a22 : Int) ≤ 4294967295 := by have := rotN_lt v0 22; rw [← ha22] at this; unfold w32 at this; omega
              have Ha22 : Hid (a22 = rotN v0 22) := ha22
              clear ha22
              obtain ⟨y1, hy1⟩ : ∃ y, y = e6 ^^^ e11 := ⟨_, rfl⟩
              obtain ⟨y2, hy2⟩ : ∃ y, y = y1 ^^^ e25 := ⟨_, rfl⟩
              obtain ⟨y3, hy3⟩ : ∃ y, y = v4 &&& v5 := ⟨_, rfl⟩
              obtain ⟨y4, hy4⟩ : ∃ y, y = (4294967295 - v4) &&& v6 := ⟨_, rfl⟩
              obtain ⟨y5, hy5⟩ : ∃ y, y = y3 ^^^ y4 := ⟨_, rfl⟩
              obtain ⟨z1, hz1⟩ : ∃ y, y = a2 ^^^ a13 := ⟨_, rfl⟩
              obtain ⟨z2, hz2⟩ : ∃ y, y = z1 ^^^ a22 := ⟨_, rfl⟩
              obtain ⟨z3, hz3⟩ : ∃ y, y = v0 &&& v1 := ⟨_, rfl⟩
              obtain ⟨z4, hz4⟩ : ∃ y, y = v0 &&& v2 := ⟨_, rfl⟩
              obtain ⟨z5, hz5⟩ : ∃ y, y = z3 ^^^ z4 := ⟨_, rfl⟩
              obtain ⟨z6, hz6⟩ : ∃ y, y = v1 &&& v2 := ⟨_, rfl⟩
              obtain ⟨z7, hz7⟩ : ∃ y, y = z5 ^^^ z6 := ⟨_, rfl⟩
              have ly1 : y1 < w32 := by rw [hy1]; exact xor_w32 (by unfold w32; omega) (by unfold w32; omega)
              have ly2 : y2 < w32 := by rw [hy2]; exact xor_w32 ly1 (by unfold w32; omega)
              have ly3 : y3 < w32 := by rw [hy3]; exact and_w32 (by unfold w32; omega)
              have ly4 : y4 < w32 := by rw [hy4]; exact and_w32 (by unfold w32; omega)
              have ly5 : y5 < w32 := by rw [hy5]; exact xor_w32 ly3 ly4
              have lz1 : z1 < w32 := by rw [hz1]; exact xor_w32 (by unfold w32; omega) (by unfold w32; omega)
              have lz2 : z2 < w32 := by rw [hz2]; exact xor_w32 lz1 (by unfold w32; omega)
              have lz3 : z3 < w32 := by rw [hz3]; exact and_w32 (by unfold w32; omega)
              have lz4 : z4 < w32 := by rw [hz4]; exact and_w32 (by unfold w32; omega)
              have lz5 : z5 < w32 := by rw [hz5]; exact xor_w32 lz3 lz4
              have lz6 : z6 < w32 := by rw [hz6]; exact and_w32 (by unfold w32; omega)
              have lz7 : z7 < w32 := by rw [hz7]; exact xor_w32 lz5 lz6
              unfold w32 at ly1 ly2 ly3 ly4 ly5 lz1 lz2 lz3 lz4 lz5 lz6 lz7
              have ny1 : bits .xor .i64 (e6 : Int) (e11 : Int) = (y1 : Int) := by rw [hy1]; exact i64_xor_nat _ _ (by omega) (by omega)
              have ny2 : bits .xor .i64 (y1 : Int) (e25 : Int) = (y2 : Int) := by rw [hy2]; exact i64_xor_nat _ _ (by omega) (by omega)
              have ny3 : bits .and .i64 (v4 : Int) (v5 : Int) = (y3 : Int) := by rw [hy3]; exact i64_and_nat _ _ (by omega) (by omega)
              have ny5 : bits .xor .i64 (y3 : Int) (y4 : Int) = (y5 : Int) := by rw [hy5]; exact i64_xor_nat _ _ (by omega) (by omega)
              have nz1 : bits .xor .i64 (a2 : Int) (a13 : Int) = (z1 : Int) := by rw [hz1]; exact i64_xor_nat _ _ (by omega) (by omega)
              have nz2 : bits .xor .i64 (z1 : Int) (a22 : Int) = (z2 : Int) := by rw [hz2]; exact i64_xor_nat _ _ (by omega) (by omega)
              have nz3 : bits .and .i64 (v0 : Int) (v1 : Int) = (z3 : Int) := by rw [hz3]; exact i64_and_nat _ _ (by omega) (by omega)
              have nz4 : bits .and .i64 (v0 : Int) (v2 : Int) = (z4 : Int) := by rw [hz4]; exact i64_and_nat _ _ (by omega) (by omega)
              have nz5 : bits .xor .i64 (z3 : Int) (z4 : Int) = (z5 : Int) := by rw [hz5]; exact i64_xor_nat _ _ (by omega) (by omega)
              have nz6 : bits .and .i64 (v1 : Int) (v2 : Int) = (z6 : Int) := by rw [hz6]; exact i64_and_nat _ _ (by omega) (by omega)
              have nz7 : bits .xor .i64 (z5 : Int) (z6 : Int) = (z7 : Int) := by rw [hz7]; exact i64_xor_nat _ _ (by omega) (by omega)
              have ny4 : bits .and .i64 (4294967295 - (v4 : Int)) (v6 : Int) = (y4 : Int) := by
                rw [hy4, ← i64_and_nat _ _ (by omega) (by omega)]
                have e : ((4294967295 - v4 : Nat) : Int) = 4294967295 - (v4 : Int) := by omega
                rw [e]
              have uy2 : (y2 : Int) ≤ 4294967295 := by omega
              have uy5 : (y5 : Int) ≤ 4294967295 := by omega
              have uz2 : (z2 : Int) ≤ 4294967295 := by omega
              have uz7 : (z7 : Int) ≤ 4294967295 := by omega
              have HT : Hid (tOf [v0, v1, v2, v3, v4, v5, v6, v7] kk ww = v7 + y2 + y5 + kk + ww) := by
                show _ = _
                simp only [tOf, List.getD_cons_zero, List.getD_cons_succ]
                rw [← He6.out, ← He11.out, ← He25.out, ← hy1, ← hy2, ← hy3, ← hy4, ← hy5]
              have HU : Hid (uOf [v0, v1, v2, v3, v4, v5, v6, v7] = z2 + z7) := by
                show _ = _
                simp only [uOf, List.getD_cons_zero, List.getD_cons_succ]
                rw [← Ha2.out, ← Ha13.out, ← Ha22.out, ← hz1, ← hz2, ← hz3, ← hz4, ← hz5, ← hz6, ← hz7]
              clear hy1 hy2 hy3 hy4 hy5 hz1 hz2 hz3 hz4 hz5 hz6 hz7 ly1 ly2 ly3 ly4 ly5 lz1 lz2 lz3 lz4 lz5 lz6 lz7 He6 He11 He25 Ha2 Ha13 Ha22
              go_wp2
              go_quiet (fail)
              clear ny1 ny2 ny3 ny4 ny5
              go_wp2
              go_quiet (fail)
              clear nz1 nz2 nz3 nz4 nz5 nz6 nz7 cm ck' cw
              go_wp2
              clear c0 c1 c2 c3 c4 c5 c6 c7 f0 f1 f2 f3 f4 f5 f6 f7
              go_loopw [27] (fun kv wr => ∃ m : Nat, m ≤ 7 ∧ kv = .int .i64 m ∧ Hid (Row wr gv (ints (shf [v0, v1, v2, v3, v4, v5, v6, v7] m))) ∧ Hid (Only gv wb wr)) (fun k _ => (intOf k).toNat)
              case atStart => exact ⟨7, by omega, rfl, HVR.out, (HO.out.drewN _).drewN _⟩
              case round =>
                clear HVR HO
                obtain ⟨m, hm, rfl, HV, HO⟩ := hrel
                have hsl := shf_length v0 v1 v2 v3 v4 v5 v6 v7 m hm
                by_cases hm0 : 0 < m
                · obtain ⟨x, hx⟩ : ∃ x, x = (shf [v0, v1, v2, v3, v4, v5, v6, v7] m).getD (m - 1) 0 := ⟨_, rfl⟩
                  have cx : wr.cell? ⟨gv, m - 1, none⟩ = some (.int .i64 (x : Int)) := by
                    rw [row_at HV.out (m - 1) (by omega), hx, List.getD_eq_getElem?_getD, List.getElem?_eq_getElem (by omega)]
                    rfl
                  obtain ⟨z, cz⟩ : ∃ z : Int, wr.cell? ⟨gv, m, none⟩ = some (.int .i64 z) := ⟨_, row_at HV.out m (by omega)⟩
                  have fz := HV.out.frozen m
                  have HX : Hid (x = (shf [v0, v1, v2, v3, v4, v5, v6, v7] m).getD (m - 1) 0) := hx
                  clear hx
                  go_wp2
                  go_roundw
                  case rel =>
                    refine ⟨m - 1, by omega, by go_num, ?_, HO.out.setCell rfl _⟩
                    show Row _ _ _
                    have h1 := row_set HV.out m (by omega) x
                    have h2 := shf_set v0 v1 v2 v3 v4 v5 v6 v7 m (by omega) hm
                    rw [← HX.out] at h2
                    rw [h2] at h1
                    exact h1
                  case measure => (simp [intOf]; try omega)
                · have hm1 : m = 0 := by omega
                  obtain ⟨m1, hm2⟩ : ∃ m1, m1 = m := ⟨_, rfl⟩
                  subst hm2
                  have HV0 : Hid (Row wr gv (ints [v0, v0, v1, v2, v3, v4, v5, v6])) := by
                    have h := HV.out
                    rw [hm1] at h
                    exact h
                  clear HV hsl hm1
                  have c4 : wr.cell? ⟨gv, 4, none⟩ = some (.int .i64 (v3 : Int)) := row_at HV0.out 4 (by simp)
                  have f4 := HV0.out.frozen 4
                  have c0 : wr.cell? ⟨gv, 0, none⟩ = some (.int .i64 (v0 : Int)) := row_at HV0.out 0 (by simp)
                  have f0 := HV0.out.frozen 0
                  go_wp2
                  go_roundw
                  case rel =>
                    refine ⟨i + 1, by omega, by go_num, ?_, (HO.out.setCell rfl _).setCell rfl _⟩
                    show Row _ _ _
                    have hT := HT.out
                    have hU := HU.out
                    obtain ⟨tt, htt⟩ : ∃ x, x = tOf [v0, v1, v2, v3, v4, v5, v6, v7] kk ww := ⟨_, rfl⟩
                    obtain ⟨uu, huu⟩ : ∃ x, x = uOf [v0, v1, v2, v3, v4, v5, v6, v7] := ⟨_, rfl⟩
                    have h1 := row_set HV0.out 4 (by simp) ((v3 + tt) % 4294967296)
                    have h2 := row_set h1 0 (by simp) ((tt + uu) % 4294967296)
                    have e4 : (((v3 + tt) % 4294967296 : Nat) : Int) = ((v3 : Int) + ((v7 : Int) + (y2 : Int) + (y5 : Int) + (kk : Int) + (ww : Int))) % 4294967296 := by rw [htt, hT]; omega
                    have e0 : (((tt + uu) % 4294967296 : Nat) : Int) = ((v7 : Int) + (y2 : Int) + (y5 : Int) + (kk : Int) + (ww : Int) + ((z2 : Int) + (z7 : Int))) % 4294967296 := by rw [htt, huu, hT, hU]; omega
                    have e5 : rnds ks (schedTo p 64) h (i + 1) = (([v0, v0, v1, v2, v3, v4, v5, v6] : List Nat).set 4 ((v3 + tt) % 4294967296)).set 0 ((tt + uu) % 4294967296) := by
                      show rnd (rnds ks (schedTo p 64) h i) (ks.getD i 0) ((schedTo p 64).getD i 0) = _
                      rw [← HVE.out, ← HKK.out, ← HWW.out, htt, huu]
                      rfl
                    rw [e5]
                    rw [e4, e0] at h2
                    exact h2
                  case measure => (simp [intOf]; try omega)
            · have hi64 : i = 64 := by omega
              obtain ⟨i3, hi3⟩ : ∃ i3, i3 = i := ⟨_, rfl⟩
              subst hi3
              obtain ⟨v, hv⟩ : ∃ v, v = rnds ks (schedTo p 64) h 64 := ⟨_, rfl⟩
              have HV2 : Hid (Row wr gv (ints v)) := by
                have hh := HV.out
                rw [hi64] at hh
                rw [hv]; exact hh
              have hvl : v.length = 8 := by rw [hv]; exact rnds_length _ _ _ HHL.out 64
              have hvw : ∀ d ∈ v, d < w32 := by rw [hv]; exact rnds_lt _ _ _ HHL.out HHW.out 64
              have HVL : Hid (v.length = 8) := hvl
              have HVW : Hid (∀ d ∈ v, d < w32) := hvw
              have HVE : Hid (v = rnds ks (schedTo p 64) h 64) := hv
              clear HV hi64 hv hvl hvw
              obtain ⟨wc, hwc⟩ : ∃ wc, wc = wr := ⟨_, rfl⟩
              subst hwc
              have HHc : Hid (Row wc bh (ints h)) := (HH.out.on HBb.out hbhl).only HO.out (by omega)
              go_wp2
              go_loopw [28] (fun iv_ wr => ∃ i : Nat, i ≤ 8 ∧ iv_ = .int .i64 i ∧ Hid (Row wr bh (ints ((addAll h v).take i ++ h.drop i))) ∧ Hid (Only bh wc wr)) (fun i _ => 8 - (intOf i).toNat)
              case atStart => exact ⟨0, by omega, rfl, HHc, Only.refl _ _⟩
              case round =>
                clear HHc hlt
                obtain ⟨i, hi, rfl, HR, HOc⟩ := hrel
                have hlen : ((addAll h v).take i ++ h.drop i).length = 8 := by
                  rw [List.length_append, List.length_take, List.length_drop, addAll_length, HHL.out]; omega
                by_cases hlt : i < 8
                · obtain ⟨x, hx⟩ : ∃ x, x = h.getD i 0 := ⟨_, rfl⟩
                  obtain ⟨y, hy⟩ : ∃ y, y = v.getD i 0 := ⟨_, rfl⟩
                  have bx : (x : Int) ≤ 4294967295 := by have := getD_lt HHW.out (by decide) i; rw [← hx] at this; unfold w32 at this; omega
                  have by' : (y : Int) ≤ 4294967295 := by have := getD_lt HVW.out (by decide) i; rw [← hy] at this; unfold w32 at this; omega
                  have cx : wr.cell? ⟨bh, i, none⟩ = some (.int .i64 (x : Int)) := by
                    rw [row_at HR.out i (by omega), hx, get_getD, addTo_get h (addAll h v) i (by rw [addAll_length]; omega)]
                  have cy : wr.cell? ⟨gv, i, none⟩ = some (.int .i64 (y : Int)) := by
                    rw [row_at (HV2.out.only HOc.out (by omega)) i (by rw [HVL.out]; exact hlt), hy, List.getD_eq_getElem?_getD, List.getElem?_eq_getElem (by rw [HVL.out]; exact hlt)]
                    rfl
                  have fx := HR.out.frozen i
                  have HX : Hid (x = h.getD i 0) := hx
                  have HY : Hid (y = v.getD i 0) := hy
                  clear hx hy
                  go_wp2
                  go_region
                  go_wp2
                  go_roundw
                  case rel =>
                    refine ⟨i + 1, by omega, by go_num, ?_, (HOc.out.setCell rfl _).drew⟩
                    show Row _ _ _
                    have h1 := row_set HR.out i (by omega) ((addAll h v)[i]'(by rw [addAll_length]; exact hlt))
                    rw [addTo_set h (addAll h v) i (by rw [addAll_length, HHL.out]) (by rw [HHL.out]; exact hlt), addAll_at h v i hlt, ← HX.out, ← HY.out] at h1
                    have e : (((x + y) % 4294967296 : Nat) : Int) = ((x : Int) + (y : Int)) % 4294967296 := by omega
                    rw [e] at h1
                    exact h1
                  case measure => (simp [intOf]; try omega)
                · have hi8 : i = 8 := by omega
                  go_wp2
                  go_end0
                  have hR := HR.out
                  rw [hi8, List.take_of_length_le (by rw [addAll_length]; omega), List.drop_of_length_le (by rw [HHL.out]; omega), List.append_nil] at hR
                  refine ⟨rfl, ?_, ?_, ?_, ?_, ?_, ?_⟩
                  · unfold mixN
                    rw [← HVE.out]
                    exact hR
                  · have := HOc.out.size; have := HO.out.size; have := HBb.out.size; omega
                  · intro b hb hne
                    have h1 := HOc.out.block b (by have := HO.out.size; omega) hne
                    have h2 := HO.out.block b (by omega) (by omega)
                    have h3 := HBb.out.block b hb
                    rw [h1, h2, h3]
                  · exact HOc.out.os.trans (HO.out.os.trans HBb.out.os)
                  · exact HOc.out.tape.trans (HO.out.tape.trans HBb.out.tape)
                  · exact HOc.out.output.trans (HO.out.output.trans HBb.out.output)
end Go.Proofs.YtapijhhmjjplmaaGreatDoor
