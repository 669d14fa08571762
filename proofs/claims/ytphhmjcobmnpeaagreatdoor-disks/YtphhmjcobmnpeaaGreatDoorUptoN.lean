/- OWN TEXT: the law's loop over a script, where what holds of a step may hang on its number. -/
import Derived.Test.YtphhmjcobmnpeaaGreatDoorUpto
import Derived.Laws.Rows
namespace Go.Proofs.YtphhmjcobmnpeaaGreatDoor
open Go.RowKit

/-- What is asked of a law's steps, by their number: Inv 0 holds at the start, and every step that is made answers true and leads from Inv i to Inv (i + 1). -/
structure StepsN (w : World) (made : Int) (l : List Stp) (Inv : Nat → World → Prop) (D : Stp → Bool) : Prop where
  below : ∀ i W, Inv i W → Below w.heap.size w W
  left : ∀ i W, Inv i W → ∃ n : Int, W.cell? ⟨w.heap.size, 5, none⟩ = some (.int .i64 n)
  mono : ∀ i W W', Inv i W → Below W.heap.size W W' → Inv i W'
  succ : ∀ i W, Inv i W → Inv (i + 1) W
  init : ∀ w1 b kv hv, Made (w.alloc (.cells freshW 47)) w1 b kv hv → Inv 0 (w1.setCell ⟨w.heap.size, 0, none⟩ (.pointer (some ⟨b, 0, none⟩)))
  does : ∀ x ∈ l, 1 ≤ x.kind → x.kind ≤ 22 → ∀ W, Calls Tryz.prog 16 #[stpV x, .int .i64 made] W fun e W' => e = .returned (.bool (D x)) ∧ Below W.heap.size W W'
  step : ∀ i x, i < l.length → x ∈ l → 1 ≤ x.kind → x.kind ≤ 22 → D x = true → ∀ W, Inv i W → (∃ n : Int, 0 < n ∧ W.cell? ⟨w.heap.size, 5, none⟩ = some (.int .i64 n)) → inR x.a → inR x.d → Calls Tryz.prog 17 #[.pointer (some ⟨w.heap.size, 0, none⟩), stpV x] W fun e W' => e = .returned (.bool true) ∧ Inv (i + 1) W'
  looks : ∀ i W, Inv i W → Calls Tryz.prog 18 #[.pointer (some ⟨w.heap.size, 0, none⟩)] W fun e W' => e = .returned (.bool true) ∧ Inv i W'

set_option maxRecDepth 100000 in
set_option maxHeartbeats 2000000 in
theorem upto_ofN (made held : Int) (lists : Bool) (v : Value) (l : List Stp) (w : World) (Inv : Nat → World → Prop) (D : Stp → Bool) (hs : Scr w v l) (hl : l.length ≤ 262144) (St : StepsN w made l Inv D) :
    Calls Tryz.prog 9 #[v, .int .i64 made, .int .i64 held, .bool lists] w fun e w' => UptoPost w e w' := by
  rcases hs with ⟨ao, cap, rfl, rfl⟩ | ⟨bl, off, cap, rfl, hpos, hlen, hcell⟩
  · go_enter Tryz.func9, Tryz.ntmps9
    go_wp2_with fail
    refine (maker_any _).mono ?_
    rintro e w1 ⟨b, kv, hv, rfl, h1, h2, h3, h4, h5, h6, h7, h8⟩
    have HI : Hid (Inv 0 (w1.setCell ⟨w.heap.size, 0, none⟩ (.pointer (some ⟨b, 0, none⟩)))) := St.init w1 b kv hv ⟨h1, h2, h3, h4, h5, h6, h7, h8⟩
    have c0 : w1.cell? ⟨w.heap.size, 0, none⟩ = some (.pointer none) := by
      rw [h8.cell (by simp)]; simp
    have f0 : w1.frozen? ⟨w.heap.size, 0, none⟩ = false := by
      rw [h8.frozen (by simp)]; simp
    clear h1 h2 h3 h4 h5 h6 h7 h8
    go_wp2
    go_loop [10] (fun i => i = .int .i64 0) (fun _ => 0)
    case atStart => rfl
    case round =>
      obtain rfl := hrel
      go_wp2
      go_ret
      exact ⟨rfl, St.below _ _ HI.out⟩
  · obtain ⟨n, hn⟩ : ∃ n, n = l.length := ⟨_, rfl⟩
    have HN : Hid (n = l.length) := hn
    have HC : Hid (∀ i (h : i < l.length), StpAt w bl (off + i * 6) l[i]) := hcell
    have hbi : (n : Int) ≤ 262144 := by omega
    have hbl : bl < w.heap.size := by
      have h0 := (hcell 0 hpos).c0
      rcases Nat.lt_or_ge bl w.heap.size with h' | h'
      · exact h'
      · simp [World.cell?, Array.getElem?_eq_none h'] at h0
    rw [← hn]
    clear hn hcell hlen hpos hl
    go_enter Tryz.func9, Tryz.ntmps9
    go_wp2_with fail
    refine (maker_any _).mono ?_
    rintro e w1 ⟨b, kv, hv, rfl, h1, h2, h3, h4, h5, h6, h7, h8⟩
    have HI : Hid (Inv 0 (w1.setCell ⟨w.heap.size, 0, none⟩ (.pointer (some ⟨b, 0, none⟩)))) := St.init w1 b kv hv ⟨h1, h2, h3, h4, h5, h6, h7, h8⟩
    have c0 : w1.cell? ⟨w.heap.size, 0, none⟩ = some (.pointer none) := by
      rw [h8.cell (by simp)]; simp
    have f0 : w1.frozen? ⟨w.heap.size, 0, none⟩ = false := by
      rw [h8.frozen (by simp)]; simp
    clear h1 h2 h3 h4 h5 h6 h7 h8
    go_wp2
    clear c0 f0
    go_loopw [10] (fun iv_ wr => ∃ i : Nat, i ≤ n ∧ iv_ = .int .i64 i ∧ Hid (Inv i wr)) (fun i _ => n - (intOf i).toNat)
    case atStart => exact ⟨0, by omega, rfl, HI⟩
    case round =>
      clear HI
      obtain ⟨i, hi, rfl, HI⟩ := hrel
      obtain ⟨left, hleft⟩ := St.left _ _ HI.out
      by_cases hlt : i < n
      · have hil : i < l.length := by have := HN.out; omega
        obtain ⟨x, hx⟩ : ∃ x, x = l[i] := ⟨_, rfl⟩
        have hs0 := HC.out i hil
        have hmem : l[i] ∈ l := List.getElem_mem _
        rw [← hx] at hs0 hmem
        have HS : Hid (StpAt w bl (off + i * 6) x) := hs0
        have hat := hs0.on (St.below _ _ HI.out) hbl
        clear hx hs0
        by_cases hl0 : 0 < left
        · have c0 := hat.c0
          have c1 := hat.c1
          have c2 := hat.c2
          have c3 := hat.c3
          have c4 := hat.c4
          have c5 := hat.c5
          have HM : Hid (x ∈ l) := hmem
          clear hat hmem
          by_cases hk1 : x.kind < 1
          · go_wp2
            go_roundw
            case rel => exact ⟨i + 1, by omega, by go_num, St.succ _ _ HI.out⟩
            case measure => (simp [intOf]; try omega)
          · by_cases hk2 : 22 < x.kind
            · go_wp2
              go_roundw
              case rel => exact ⟨i + 1, by omega, by go_num, St.succ _ _ HI.out⟩
              case measure => (simp [intOf]; try omega)
            · go_wp2_with fail
              refine (St.does x HM.out (by omega) (by omega) _).mono ?_
              rintro e w2 ⟨rfl, hw2⟩
              have HI2 : Hid (Inv i w2) := St.mono _ _ _ HI.out hw2
              have HLF : Hid (∃ n : Int, 0 < n ∧ w2.cell? ⟨w.heap.size, 5, none⟩ = some (.int .i64 n)) := ⟨left, hl0, by rw [hw2.cell (block_lt_of_cell hleft)]; exact hleft⟩
              clear hw2 HI c0 c1 c2 c3 c4 c5 hleft
              cases hd : D x
              · clear hd
                go_wp2
                go_roundw
                case rel => exact ⟨i + 1, by omega, by go_num, St.succ _ _ HI2.out⟩
                case measure => (simp [intOf]; try omega)
              · have HD : Hid (D x = true) := hd
                have hat := HS.out.on (St.below _ _ HI2.out) hbl
                have c0 := hat.c0
                have c1 := hat.c1
                have c2 := hat.c2
                have c3 := hat.c3
                have c4 := hat.c4
                have c5 := hat.c5
                clear hd hat
                go_wp2_with fail
                refine (St.step i x (by have := HN.out; omega) HM.out (by omega) (by omega) HD.out _ HI2.out HLF.out HS.out.ra HS.out.rd).mono ?_
                rintro e w3 ⟨rfl, hw3⟩
                have HI3 : Hid (Inv (i + 1) w3) := hw3
                clear hw3 HI2 c0 c1 c2 c3 c4 c5
                go_wp2_with fail
                refine (St.looks _ _ HI3.out).mono ?_
                rintro e w4 ⟨rfl, hw4⟩
                have HI4 : Hid (Inv (i + 1) w4) := hw4
                clear hw4 HI3
                go_wp2
                go_roundw
                case rel => exact ⟨i + 1, by omega, by go_num, HI4⟩
                case measure => (simp [intOf]; try omega)
        · clear hat hmem
          go_wp2
          go_ret
          exact ⟨rfl, St.below _ _ HI.out⟩
      · go_wp2
        go_ret
        exact ⟨rfl, St.below _ _ HI.out⟩

/-- 'plays', where the steps stand in whatever world 'small' leaves. -/
theorem plays_ofN (made held : Int) (lists : Bool) (v : Value) (l : List Stp) (w : World) (hs : Scr w v l)
    (St : ∀ w1, Below w.heap.size w w1 → l.length + bulk l ≤ 262144 → ∃ Inv D, StepsN w1 made l Inv D) :
    Calls Tryz.prog 6 #[v, .int .i64 made, .int .i64 held, .bool lists] w fun e w' => PlaysPost w e w' := by
  have hv : ∃ ao n cap, v = .slice ao n cap := by
    rcases hs with ⟨ao, cap, rfl, _⟩ | ⟨bl, off, cap, rfl, _⟩
    · exact ⟨_, _, _, rfl⟩
    · exact ⟨_, _, _, rfl⟩
  obtain ⟨ao, n, cap, rfl⟩ := hv
  have HS : Hid (Scr w (.slice ao n cap) l) := hs
  have HST : Hid (∀ w1, Below w.heap.size w w1 → l.length + bulk l ≤ 262144 → ∃ Inv D, StepsN w1 made l Inv D) := St
  clear hs St
  go_enter Tryz.func6, Tryz.ntmps6
  go_wp2_with fail
  refine (small_any _ l _ HS.out).mono ?_
  rintro e w1 ⟨r, rfl, hr, hb⟩
  have HB : Hid (Below w.heap.size w w1) := hb
  cases r
  · clear hr hb
    go_wp2
    go_ret
    exact ⟨rfl, HB.out⟩
  · have HR : Hid (l.length + bulk l ≤ 262144) := hr rfl
    clear hr hb
    go_wp2_with fail
    obtain ⟨Inv, D, S⟩ := HST.out w1 HB.out HR.out
    refine (upto_ofN made held lists _ l w1 Inv D (Scr.on HS.out HB.out) (by have := HR.out; omega) S).mono ?_
    rintro e w2 ⟨rfl, hb2⟩
    have HB2 : Hid (Below w.heap.size w w2) := HB.out.trans (hb2.mono HB.out.size)
    clear hb2 S
    go_wp2
    go_ret
    exact ⟨rfl, HB2.out⟩
end Go.Proofs.YtphhmjcobmnpeaaGreatDoor
