/- OWN TEXT: the law's loop over a script: over whatever holds of a step. -/
import Derived.Test.YtapijhhmjjplmaaGreatDoorLaw
namespace Go.Proofs.YtapijhhmjjplmaaGreatDoor
open Go.RowKit

theorem Scr.on {w w' : World} {v : Value} {l : List Stp} (h : Scr w v l) (hb : Below w.heap.size w w') : Scr w' v l := by
  rcases h with h | ⟨bl, off, cap, rfl, hpos, hlen, hcell⟩
  · exact .inl h
  · refine .inr ⟨bl, off, cap, rfl, hpos, hlen, fun i hi => (hcell i hi).on hb ?_⟩
    have h0 := (hcell i hi).c0
    rcases Nat.lt_or_ge bl w.heap.size with h' | h'
    · exact h'
    · simp [World.cell?, Array.getElem?_eq_none h'] at h0

/-- The law's world as UpTo lays it, ahead of the maker. -/
def freshW : Array Value := #[.pointer none, .slice none 0 0, .slice none 0 0, .slice none 0 0, .int .i64 0, .int .i64 262144]

/-- What the maker leaves. -/
structure Made (w w1 : World) (b : Nat) (kv hv : Value) : Prop where
  le : w.heap.size ≤ b
  blk : w1.heap[b]? = some (.cells #[kv, hv] 142 (0, 0))
  ok : w1.ownsRow w.heap.size 3 1 kv 64 (iv (kc 64))
  oh : w1.ownsRow w.heap.size 3 1 hv 8 (iv (hc 8))
  kh : kv.ownBlock ≠ hv.ownBlock
  kb : kv.ownBlock ≠ some b
  hb : hv.ownBlock ≠ some b
  below : Below w.heap.size w w1

/-- What is asked of a law's steps: Inv holds at the start, and every step that is made answers true and keeps it. -/
structure Steps (w : World) (made : Int) (l : List Stp) (Inv : World → Prop) (D : Stp → Bool) : Prop where
  below : ∀ W, Inv W → Below w.heap.size w W
  left : ∀ W, Inv W → ∃ n : Int, W.cell? ⟨w.heap.size, 5, none⟩ = some (.int .i64 n)
  mono : ∀ W W', Inv W → Below W.heap.size W W' → Inv W'
  init : ∀ w1 b kv hv, Made (w.alloc (.cells freshW 73)) w1 b kv hv → Inv (w1.setCell ⟨w.heap.size, 0, none⟩ (.pointer (some ⟨b, 0, none⟩)))
  does : ∀ x ∈ l, 1 ≤ x.kind → x.kind ≤ 22 → ∀ W, Calls Tryz.prog 40 #[stpV x, .int .i64 made] W fun e W' => e = .returned (.bool (D x)) ∧ Below W.heap.size W W'
  step : ∀ x ∈ l, 1 ≤ x.kind → x.kind ≤ 22 → D x = true → ∀ W, Inv W → Calls Tryz.prog 41 #[.pointer (some ⟨w.heap.size, 0, none⟩), stpV x] W fun e W' => e = .returned (.bool true) ∧ Inv W'
  looks : ∀ W, Inv W → Calls Tryz.prog 42 #[.pointer (some ⟨w.heap.size, 0, none⟩)] W fun e W' => e = .returned (.bool true) ∧ Inv W'

def UptoPost (w : World) (e : Ending) (w' : World) : Prop := e = .returned (.int .i64 (-1)) ∧ Below w.heap.size w w'

set_option maxRecDepth 100000 in
set_option maxHeartbeats 2000000 in
theorem upto_of (made held : Int) (lists : Bool) (v : Value) (l : List Stp) (w : World) (Inv : World → Prop) (D : Stp → Bool) (hs : Scr w v l) (hl : l.length ≤ 262144) (St : Steps w made l Inv D) :
    Calls Tryz.prog 23 #[v, .int .i64 made, .int .i64 held, .bool lists] w fun e w' => UptoPost w e w' := by
  rcases hs with ⟨ao, cap, rfl, rfl⟩ | ⟨bl, off, cap, rfl, hpos, hlen, hcell⟩
  · go_enter Tryz.func23, Tryz.ntmps23
    go_wp2_with fail
    refine (maker_any _).mono ?_
    rintro e w1 ⟨b, kv, hv, rfl, h1, h2, h3, h4, h5, h6, h7, h8⟩
    have HI : Hid (Inv (w1.setCell ⟨w.heap.size, 0, none⟩ (.pointer (some ⟨b, 0, none⟩)))) := St.init w1 b kv hv ⟨h1, h2, h3, h4, h5, h6, h7, h8⟩
    have c0 : w1.cell? ⟨w.heap.size, 0, none⟩ = some (.pointer none) := by
      rw [h8.cell (by simp)]; simp
    have f0 : w1.frozen? ⟨w.heap.size, 0, none⟩ = false := by
      rw [h8.frozen (by simp)]; simp
    clear h1 h2 h3 h4 h5 h6 h7 h8
    go_wp2
    go_loop [10] (fun i => i = .int .i64 0) (fun _ => 0)
    case atStart => rfl
    case round =>
      obtain rfl := hrel
      go_wp2
      go_ret
      exact ⟨rfl, St.below _ HI.out⟩
  · obtain ⟨n, hn⟩ : ∃ n, n = l.length := ⟨_, rfl⟩
    have HN : Hid (n = l.length) := hn
    have HC : Hid (∀ i (h : i < l.length), StpAt w bl (off + i * 6) l[i]) := hcell
    have hbi : (n : Int) ≤ 262144 := by omega
    have hbl : bl < w.heap.size := by
      have h0 := (hcell 0 hpos).c0
      rcases Nat.lt_or_ge bl w.heap.size with h' | h'
      · exact h'
      · simp [World.cell?, Array.getElem?_eq_none h'] at h0
    rw [← hn]
    clear hn hcell hlen hpos hl
    go_enter Tryz.func23, Tryz.ntmps23
    go_wp2_with fail
    refine (maker_any _).mono ?_
    rintro e w1 ⟨b, kv, hv, rfl, h1, h2, h3, h4, h5, h6, h7, h8⟩
    have HI : Hid (Inv (w1.setCell ⟨w.heap.size, 0, none⟩ (.pointer (some ⟨b, 0, none⟩)))) := St.init w1 b kv hv ⟨h1, h2, h3, h4, h5, h6, h7, h8⟩
    have c0 : w1.cell? ⟨w.heap.size, 0, none⟩ = some (.pointer none) := by
      rw [h8.cell (by simp)]; simp
    have f0 : w1.frozen? ⟨w.heap.size, 0, none⟩ = false := by
      rw [h8.frozen (by simp)]; simp
    clear h1 h2 h3 h4 h5 h6 h7 h8
    go_wp2
    clear c0 f0
    go_loopw [10] (fun iv_ wr => ∃ i : Nat, i ≤ n ∧ iv_ = .int .i64 i ∧ Hid (Inv wr)) (fun i _ => n - (intOf i).toNat)
    case atStart => exact ⟨0, by omega, rfl, HI⟩
    case round =>
      clear HI
      obtain ⟨i, hi, rfl, HI⟩ := hrel
      obtain ⟨left, hleft⟩ := St.left _ HI.out
      by_cases hlt : i < n
      · have hil : i < l.length := by have := HN.out; omega
        obtain ⟨x, hx⟩ : ∃ x, x = l[i] := ⟨_, rfl⟩
        have hs0 := HC.out i hil
        have hmem : l[i] ∈ l := List.getElem_mem _
        rw [← hx] at hs0 hmem
        have HS : Hid (StpAt w bl (off + i * 6) x) := hs0
        have hat := hs0.on (St.below _ HI.out) hbl
        clear hx hs0
        by_cases hl0 : 0 < left
        · have c0 := hat.c0
          have c1 := hat.c1
          have c2 := hat.c2
          have c3 := hat.c3
          have c4 := hat.c4
          have c5 := hat.c5
          have HM : Hid (x ∈ l) := hmem
          clear hat hmem
          by_cases hk1 : x.kind < 1
          · go_wp2
            go_roundw
            case rel => exact ⟨i + 1, by omega, by go_num, HI⟩
            case measure => (simp [intOf]; try omega)
          · by_cases hk2 : 22 < x.kind
            · go_wp2
              go_roundw
              case rel => exact ⟨i + 1, by omega, by go_num, HI⟩
              case measure => (simp [intOf]; try omega)
            · go_wp2_with fail
              refine (St.does x HM.out (by omega) (by omega) _).mono ?_
              rintro e w2 ⟨rfl, hw2⟩
              have HI2 : Hid (Inv w2) := St.mono _ _ HI.out hw2
              clear hw2 HI c0 c1 c2 c3 c4 c5 hleft
              cases hd : D x
              · clear hd
                go_wp2
                go_roundw
                case rel => exact ⟨i + 1, by omega, by go_num, HI2⟩
                case measure => (simp [intOf]; try omega)
              · have HD : Hid (D x = true) := hd
                have hat := HS.out.on (St.below _ HI2.out) hbl
                have c0 := hat.c0
                have c1 := hat.c1
                have c2 := hat.c2
                have c3 := hat.c3
                have c4 := hat.c4
                have c5 := hat.c5
                clear hd hat
                go_wp2_with fail
                refine (St.step x HM.out (by omega) (by omega) HD.out _ HI2.out).mono ?_
                rintro e w3 ⟨rfl, hw3⟩
                have HI3 : Hid (Inv w3) := hw3
                clear hw3 HI2 c0 c1 c2 c3 c4 c5
                go_wp2_with fail
                refine (St.looks _ HI3.out).mono ?_
                rintro e w4 ⟨rfl, hw4⟩
                have HI4 : Hid (Inv w4) := hw4
                clear hw4 HI3
                go_wp2
                go_roundw
                case rel => exact ⟨i + 1, by omega, by go_num, HI4⟩
                case measure => (simp [intOf]; try omega)
        · clear hat hmem
          go_wp2
          go_ret
          exact ⟨rfl, St.below _ HI.out⟩
      · go_wp2
        go_ret
        exact ⟨rfl, St.below _ HI.out⟩

def PlaysPost (w : World) (e : Ending) (w' : World) : Prop := e = .returned (.bool true) ∧ Below w.heap.size w w'

/-- 'plays', where the steps stand in whatever world 'small' leaves. -/
theorem plays_of (made held : Int) (lists : Bool) (v : Value) (l : List Stp) (w : World) (hs : Scr w v l)
    (St : ∀ w1, Below w.heap.size w w1 → l.length + bulk l ≤ 262144 → ∃ Inv D, Steps w1 made l Inv D) :
    Calls Tryz.prog 13 #[v, .int .i64 made, .int .i64 held, .bool lists] w fun e w' => PlaysPost w e w' := by
  have hv : ∃ ao n cap, v = .slice ao n cap := by
    rcases hs with ⟨ao, cap, rfl, _⟩ | ⟨bl, off, cap, rfl, _⟩
    · exact ⟨_, _, _, rfl⟩
    · exact ⟨_, _, _, rfl⟩
  obtain ⟨ao, n, cap, rfl⟩ := hv
  have HS : Hid (Scr w (.slice ao n cap) l) := hs
  have HST : Hid (∀ w1, Below w.heap.size w w1 → l.length + bulk l ≤ 262144 → ∃ Inv D, Steps w1 made l Inv D) := St
  clear hs St
  go_enter Tryz.func13, Tryz.ntmps13
  go_wp2_with fail
  refine (small_any _ l _ HS.out).mono ?_
  rintro e w1 ⟨r, rfl, hr, hb⟩
  have HB : Hid (Below w.heap.size w w1) := hb
  cases r
  · clear hr hb
    go_wp2
    go_ret
    exact ⟨rfl, HB.out⟩
  · have HR : Hid (l.length + bulk l ≤ 262144) := hr rfl
    clear hr hb
    go_wp2_with fail
    obtain ⟨Inv, D, S⟩ := HST.out w1 HB.out HR.out
    refine (upto_of made held lists _ l w1 Inv D (Scr.on HS.out HB.out) (by have := HR.out; omega) S).mono ?_
    rintro e w2 ⟨rfl, hb2⟩
    have HB2 : Hid (Below w.heap.size w w2) := HB.out.trans (hb2.mono HB.out.size)
    clear hb2 S
    go_wp2
    go_ret
    exact ⟨rfl, HB2.out⟩
end Go.Proofs.YtapijhhmjjplmaaGreatDoor
