/- OWN TEXT: joined of: Args Law Upto Does SumsStep Great SumsFacts DisksFacts DMem RefD1 RefD2 RefD3 RefD4. -/
import Derived.Test.YtapijhhmjjplmaaGreatDoorProg
import Derived.ProofKit
import Derived.Deep.Slices
import Derived.SizedLaws
import Derived.Deep.RegionWith
import Derived.Test.YtapijhhmjjplmaaGreatDoorRows
import Derived.LaidMore
import Derived.LaidLaws
import Derived.LaidHandle
import Derived.OpenShut
import Derived.Lay
import Derived.JoinedOf
import Derived.Maps.AppendAt
import Derived.Test.YtapijhhmjjplmaaGreatDoorJdisks3
namespace Go.Proofs.YtapijhhmjjplmaaGreatDoor
open Go.ChangeShapes Go.WideShapes Go.RowKit Go.Deep

/-- One step of a script. -/
structure Stp where
  kind : Int
  a : Int
  b : Int
  d : Int
  s : ByteArray
  t : ByteArray

/-- Is an int in the range of a Go int? -/
def inR (n : Int) : Prop := -9223372036854775808 ≤ n ∧ n ≤ 9223372036854775807

/-- The step x lies at ⟨bl, o⟩. -/
structure StpAt (w : World) (bl o : Nat) (x : Stp) : Prop where
  c0 : w.cell? ⟨bl, o, none⟩ = some (.int .i64 x.kind)
  c1 : w.cell? ⟨bl, o + 1, none⟩ = some (.int .i64 x.a)
  c2 : w.cell? ⟨bl, o + 2, none⟩ = some (.int .i64 x.b)
  c3 : w.cell? ⟨bl, o + 3, none⟩ = some (.int .i64 x.d)
  c4 : w.cell? ⟨bl, o + 4, none⟩ = some (.string x.s)
  c5 : w.cell? ⟨bl, o + 5, none⟩ = some (.string x.t)
  rk : inR x.kind
  ra : inR x.a
  rb : inR x.b
  rd : inR x.d
  ns : x.s.size ≤ 140737488351232
  nt : x.t.size ≤ 140737488351232

/-- The script's value, and what lies there. -/
def Scr (w : World) (v : Value) (l : List Stp) : Prop :=
  (∃ ao cap, v = .slice ao 0 cap ∧ l = []) ∨ ∃ bl off cap, v = .slice (some ⟨bl, off, none⟩) l.length cap ∧ 0 < l.length ∧ l.length ≤ 140737488351232 ∧ ∀ i (h : i < l.length), StpAt w bl (off + i * 6) l[i]

theorem StpAt.on {B : Nat} {w w' : World} {bl o : Nat} {x : Stp} (h : StpAt w bl o x) (hb : Below B w w') (hB : bl < B) : StpAt w' bl o x :=
  ⟨by rw [hb.cell (by exact hB)]; exact h.c0, by rw [hb.cell (by exact hB)]; exact h.c1, by rw [hb.cell (by exact hB)]; exact h.c2, by rw [hb.cell (by exact hB)]; exact h.c3,
   by rw [hb.cell (by exact hB)]; exact h.c4, by rw [hb.cell (by exact hB)]; exact h.c5, h.rk, h.ra, h.rb, h.rd, h.ns, h.nt⟩

theorem opCells : Tryz.prog.cellsOf 67 = 6 := by kernel_rfl
theorem opBytes : Tryz.prog.bytesOf 67 = 64 := by kernel_rfl
theorem intCells : Tryz.prog.cellsOf 3 = 1 := by kernel_rfl
theorem strCells1 : Tryz.prog.cellsOf 9 = 1 := by kernel_rfl

theorem inR_of {n : Int} (h : (Lit.int .i64 n).wf = true) : inR n := by
  simp [Lit.wf, IntKind.min, IntKind.max, IntKind.signed, IntKind.bits] at h
  unfold inR
  omega

section
variable {H : Type} {enc : TypeId × Value → H} {W : World} {sp : Nat → Bool} {held : Bool}

theorem six {cs : List Value} (h : cs.length = 6) : ∃ c0 c1 c2 c3 c4 c5, cs = [c0, c1, c2, c3, c4, c5] := by
  match cs, h with
  | [c0, c1, c2, c3, c4, c5], _ => exact ⟨c0, c1, c2, c3, c4, c5, rfl⟩

/-- One step out of its reading. -/
theorem open_stp {n : Nat} {ad : Addr} {cs : List Value} {D : DataW H} {Pl : List MemPlace} (hcs : W.cells? 0 ad 6 = some cs)
    (h : DataW.trod enc Tryz.prog W 0 sp held n 67 cs = some (D, Pl)) (hw : (D.weights Tryz.prog 67).all (· ≤ reachBytes) = true) :
    ∃ x, StpAt W ad.block ad.off x ∧ ad.spot = none := by
  obtain ⟨bl, o, sp0⟩ := ad
  obtain ⟨xs, m, _, hx, hl, hlen, hf⟩ := DataW.trod_struct Tryz.underlying67 h
  rw [opCells] at hl
  obtain ⟨c0, c1, c2, c3, c4, c5, rfl⟩ := six hl
  match xs, hlen with
  | [y0, y1, y2, y3, y4, y5], _ =>
    have f0 : DataW.trod enc Tryz.prog W 0 sp held m 3 [c0] = some y0 := by simpa [intCells] using hf 0 _ rfl
    have f1 : DataW.trod enc Tryz.prog W 0 sp held m 3 [c1] = some y1 := by simpa [intCells] using hf 1 _ rfl
    have f2 : DataW.trod enc Tryz.prog W 0 sp held m 3 [c2] = some y2 := by simpa [intCells] using hf 2 _ rfl
    have f3 : DataW.trod enc Tryz.prog W 0 sp held m 3 [c3] = some y3 := by simpa [intCells] using hf 3 _ rfl
    have f4 : DataW.trod enc Tryz.prog W 0 sp held m 9 [c4] = some y4 := by simpa [strCells1] using hf 4 _ rfl
    have f5 : DataW.trod enc Tryz.prog W 0 sp held m 9 [c5] = some y5 := by simpa [strCells1] using hf 5 _ rfl
    obtain ⟨k0, e0, -, w0⟩ := DataW.trod_int Tryz.underlying3 f0
    obtain ⟨k1, e1, -, w1⟩ := DataW.trod_int Tryz.underlying3 f1
    obtain ⟨k2, e2, -, w2⟩ := DataW.trod_int Tryz.underlying3 f2
    obtain ⟨k3, e3, -, w3⟩ := DataW.trod_int Tryz.underlying3 f3
    obtain ⟨s4, e4, g4, -⟩ := DataW.trod_string Tryz.underlying9 f4
    obtain ⟨s5, e5, g5, -⟩ := DataW.trod_string Tryz.underlying9 f5
    simp only [List.cons.injEq, and_true] at e0 e1 e2 e3 e4 e5
    subst e0 e1 e2 e3 e4 e5
    simp only [Prod.mk.injEq] at hx
    have hwe : DataW.weights Tryz.prog 67 D = DataW.weightsEach Tryz.prog [3, 3, 3, 3, 9, 9] [y0.1, y1.1, y2.1, y3.1, y4.1, y5.1] := by
      rw [hx.1]
      simp [DataW.weights, Tryz.underlying67]
    rw [hwe] at hw
    have hs4 : s4.size ≤ 140737488351232 := by
      have := List.all_eq_true.1 hw s4.data.toList.length (DataW.weights_mem_each (j := 4) (t := 9) (d := y4.1) rfl rfl _ (by rw [g4]; simp [DataW.weights]))
      rw [Array.length_toList, ByteArray.size_data] at this
      exact of_decide_eq_true this
    have hs5 : s5.size ≤ 140737488351232 := by
      have := List.all_eq_true.1 hw s5.data.toList.length (DataW.weights_mem_each (j := 5) (t := 9) (d := y5.1) rfl rfl _ (by rw [g5]; simp [DataW.weights]))
      rw [Array.length_toList, ByteArray.size_data] at this
      exact of_decide_eq_true this
    have hc : ∀ j, j < 6 → W.cell? (Addr.add ⟨bl, o, sp0⟩ j) = [Value.int .i64 k0, .int .i64 k1, .int .i64 k2, .int .i64 k3, .string s4, .string s5][j]? := by
      intro j hj
      have h6 := hcs
      unfold World.cells? at h6
      rw [if_pos (Nat.zero_le _)] at h6
      have := mapM_some_get h6 j j (List.getElem?_range hj)
      exact this
    have hsp : sp0 = none := by
      have h0 := hc 0 (by omega)
      cases sp0 with
      | none => rfl
      | some q =>
        exfalso
        unfold World.cell? at h0
        split at h0
        · simp [Addr.add] at h0
        · cases h0
    subst hsp
    refine ⟨⟨k0, k1, k2, k3, s4, s5⟩, ⟨?_, ?_, ?_, ?_, ?_, ?_, inR_of w0, inR_of w1, inR_of w2, inR_of w3, hs4, hs5⟩, rfl⟩
    · exact hc 0 (by omega)
    · exact hc 1 (by omega)
    · exact hc 2 (by omega)
    · exact hc 3 (by omega)
    · exact hc 4 (by omega)
    · exact hc 5 (by omega)

/-- The script out of its reading. -/
theorem open_script {fuel : Nat} {v : Value} {d : DataW H} {p : List MemPlace} (h : DataW.trod enc Tryz.prog W 0 sp held fuel 22 v.cells.toList = some (d, p))
    (hv : ∃ ao len cap, v = .slice ao len cap) (hw : (d.weights Tryz.prog 22).all (· ≤ reachBytes) = true) : ∃ l, Scr W v l := by
  obtain ⟨ao, len, cap, rfl⟩ := hv
  rcases open_slice Tryz.underlying22 h with ⟨h0, _⟩ | ⟨a, len', cap', m, n, D, Pl, h0, _, hlc, _, hm, hx, hel⟩
  · simp [Value.cells] at h0
    obtain ⟨rfl, rfl, rfl⟩ := h0
    exact ⟨[], .inl ⟨_, _, rfl, rfl⟩⟩
  · simp [Value.cells] at h0
    obtain ⟨rfl, rfl, rfl⟩ := h0
    simp only [Prod.mk.injEq] at hx
    have hm' : len ≤ m := by rw [hm]; split <;> omega
    have hwe := hw
    rw [hx.1] at hwe
    simp only [DataW.weights, Tryz.underlying22, List.all_cons, List.all_append, Bool.and_eq_true] at hwe
    obtain ⟨bl, off, spt⟩ := a
    have hall : ∀ i, i < len → ((D i).weights Tryz.prog 67).all (· ≤ reachBytes) = true := by
      intro i hi
      refine List.all_eq_true.2 fun n hn => List.all_eq_true.1 hwe.2.1 n ?_
      have hmem : D i ∈ (List.range len).map D := List.mem_map.2 ⟨i, List.mem_range.2 hi, rfl⟩
      generalize (List.range len).map D = L at hmem
      clear hwe hw hx
      induction L with
      | nil => cases hmem
      | cons x r ih =>
        simp only [DataW.weightsAll, List.mem_append]
        rcases List.mem_cons.1 hmem with h1 | h1
        · exact .inl (h1 ▸ hn)
        · exact .inr (ih h1)
    have hone : ∀ i, ∃ x : Stp, i < len → StpAt W bl (off + i * 6) x ∧ (i = 0 → spt = none) := by
      intro i
      by_cases hi : i < len
      · obtain ⟨cs', hc1, hc2⟩ := hel i (by omega)
        rw [opCells] at hc1
        obtain ⟨x, hx1, hx2⟩ := open_stp hc1 hc2 (hall i hi)
        refine ⟨x, fun _ => ⟨?_, fun h0 => ?_⟩⟩
        · have e1 : (Addr.add ⟨bl, off, spt⟩ (i * 6)).block = bl := by unfold Addr.add; split <;> rfl
          have e2 : (Addr.add ⟨bl, off, spt⟩ (i * 6)).off = off + i * 6 := by
            unfold Addr.add
            split
            · rename_i h; rw [h]; rfl
            · rfl
          rw [e1, e2] at hx1
          exact hx1
        · subst h0
          exact hx2
      · exact ⟨⟨0, 0, 0, 0, ByteArray.empty, ByteArray.empty⟩, fun h => absurd h hi⟩
    obtain ⟨X, hX⟩ := Classical.axiomOfChoice hone
    have hlen64 : len ≤ 140737488351232 := by
      have h1 := of_decide_eq_true hwe.1
      rw [opBytes, List.length_map, List.length_range] at h1
      unfold reachBytes at h1
      omega
    by_cases h0 : len = 0
    · subst h0
      exact ⟨[], .inl ⟨_, _, rfl, rfl⟩⟩
    · have hsp : spt = none := (hX 0 (by omega)).2 rfl
      subst hsp
      refine ⟨(List.range len).map X, .inr ⟨bl, off, cap, by simp, by rw [List.length_map, List.length_range]; omega, by simpa using hlen64, fun i hi => ?_⟩⟩
      have hi' : i < len := by simpa using hi
      rw [List.getElem_map, List.getElem_range]
      exact (hX i hi').1
end
end Go.Proofs.YtapijhhmjjplmaaGreatDoor
namespace Go.Proofs.YtapijhhmjjplmaaGreatDoor
open Go.RowKit

abbrev stpV (x : Stp) : Value := .agg #[.int .i64 x.kind, .int .i64 x.a, .int .i64 x.b, .int .i64 x.d, .string x.s, .string x.t]

/-- How much a script is, up to step i. -/
def bulk (l : List Stp) : Nat := (l.map fun x => x.s.size + x.t.size).sum
theorem bulk_succ (l : List Stp) (i : Nat) (h : i < l.length) : bulk (l.take (i + 1)) = bulk (l.take i) + (l[i].s.size + l[i].t.size) := by
  unfold bulk
  rw [List.take_succ_eq_append_getElem h, List.map_append, List.sum_append]
  simp

/-- What 'small' comes to. -/
def SmallPost (l : List Stp) (w : World) (e : Ending) (w' : World) : Prop := ∃ r : Bool, e = .returned (.bool r) ∧ (r = true → l.length + bulk l ≤ 262144) ∧ Below w.heap.size w w'

set_option maxRecDepth 100000 in
set_option maxHeartbeats 1000000 in
theorem small_any (v : Value) (l : List Stp) (w : World) (hs : Scr w v l) :
    Calls Tryz.prog 22 #[v] w fun e w' => SmallPost l w e w' := by
  rcases hs with ⟨ao, cap, rfl, rfl⟩ | ⟨bl, off, cap, rfl, hpos, hlen, hcell⟩
  · go_enter Tryz.func22, Tryz.ntmps22
    go_wp2
    go_loop [4] (fun i => i = .int .i64 0) (fun _ => 0)
    case atStart => rfl
    case round =>
      obtain rfl := hrel
      go_wp2
      go_ret
      exact ⟨true, rfl, fun _ => by simp [bulk], Below.refl _ _⟩
  · obtain ⟨n, hn⟩ : ∃ n, n = l.length := ⟨_, rfl⟩
    have HN : Hid (n = l.length) := hn
    have HC : Hid (∀ i (h : i < l.length), StpAt w bl (off + i * 6) l[i]) := hcell
    have hlen' : (n : Int) ≤ 140737488351232 := by omega
    rw [← hn]
    clear hn hcell hlen hpos
    by_cases hbig : n ≤ 262144
    · have hbi : (n : Int) ≤ 262144 := by omega
      go_enter Tryz.func22, Tryz.ntmps22
      go_wp2
      go_loopw [3, 4] (fun nv i wr => ∃ m q : Nat, m ≤ n ∧ i = .int .i64 m ∧ nv = .int .i64 (q : Int) ∧ q ≤ 262144 ∧ Hid (q = n + bulk (l.take m)) ∧ Hid (∃ nq, wr = w.drewN nq)) (fun _ i _ => n - (intOf i).toNat)
      case atStart => exact ⟨0, n, by omega, rfl, rfl, hbig, rfl, ⟨0, rfl⟩⟩
      case round =>
        obtain ⟨m, q, hm, rfl, rfl, hq, Hq, ⟨nq, hnq⟩⟩ := hrel
        subst hnq
        by_cases hlt : m < n
        · have hml : m < l.length := by have := HN.out; omega
          obtain ⟨x, hx⟩ : ∃ x, x = l[m] := ⟨_, rfl⟩
          have hat := HC.out m hml
          rw [← hx] at hat
          have c4 := hat.c4
          have c5 := hat.c5
          have n4 : (x.s.size : Int) ≤ 140737488351232 := by have := hat.ns; omega
          have n5 : (x.t.size : Int) ≤ 140737488351232 := by have := hat.nt; omega
          have HX : Hid (x = l[m]) := hx
          clear hat hx
          by_cases hle : q + x.s.size + x.t.size ≤ 262144
          · have hle' : (q : Int) + (x.s.size : Int) + (x.t.size : Int) ≤ 262144 := by omega
            go_wp2
            go_quiet (fail)
            go_wp2
            go_roundw
            case rel =>
              refine ⟨m + 1, q + x.s.size + x.t.size, by omega, by go_num, by go_num, hle, ?_, ?_⟩
              · show _ = _
                rw [bulk_succ l m hml, ← HX.out, Hq.out]
                omega
              · exact ⟨_, rfl⟩
            case measure => (simp [intOf]; try omega)
          · have hle' : 262144 < (q : Int) + (x.s.size : Int) + (x.t.size : Int) := by omega
            go_wp2
            go_quiet (fail)
            go_wp2
            go_ret
            exact ⟨false, rfl, (fun h => by cases h), ⟨rfl, rfl, rfl, Nat.le_refl _, fun _ _ => rfl⟩⟩
        · go_wp2
          go_ret
          refine ⟨true, rfl, fun _ => ?_, ⟨rfl, rfl, rfl, Nat.le_refl _, fun _ _ => rfl⟩⟩
          have h1 := Hq.out
          have h2 := HN.out
          rw [List.take_of_length_le (by omega)] at h1
          omega
    · have hbi : 262144 < (n : Int) := by omega
      go_enter Tryz.func22, Tryz.ntmps22
      go_wp2
      go_ret
      exact ⟨false, rfl, (fun h => by cases h), Below.refl _ _⟩
end Go.Proofs.YtapijhhmjjplmaaGreatDoor
namespace Go.Proofs.YtapijhhmjjplmaaGreatDoor
open Go.RowKit

theorem Scr.on {w w' : World} {v : Value} {l : List Stp} (h : Scr w v l) (hb : Below w.heap.size w w') : Scr w' v l := by
  rcases h with h | ⟨bl, off, cap, rfl, hpos, hlen, hcell⟩
  · exact .inl h
  · refine .inr ⟨bl, off, cap, rfl, hpos, hlen, fun i hi => (hcell i hi).on hb ?_⟩
    have h0 := (hcell i hi).c0
    rcases Nat.lt_or_ge bl w.heap.size with h' | h'
    · exact h'
    · simp [World.cell?, Array.getElem?_eq_none h'] at h0

/-- The law's world as UpTo lays it, ahead of the maker. -/
def freshW : Array Value := #[.pointer none, .slice none 0 0, .slice none 0 0, .slice none 0 0, .int .i64 0, .int .i64 262144]

/-- What the maker leaves. -/
structure Made (w w1 : World) (b : Nat) (kv hv : Value) : Prop where
  le : w.heap.size ≤ b
  blk : w1.heap[b]? = some (.cells #[kv, hv] 142 (0, 0))
  ok : w1.ownsRow w.heap.size 3 1 kv 64 (iv (kc 64))
  oh : w1.ownsRow w.heap.size 3 1 hv 8 (iv (hc 8))
  kh : kv.ownBlock ≠ hv.ownBlock
  kb : kv.ownBlock ≠ some b
  hb : hv.ownBlock ≠ some b
  below : Below w.heap.size w w1

/-- What is asked of a law's steps: Inv holds at the start, and every step that is made answers true and keeps it. -/
structure Steps (w : World) (made : Int) (l : List Stp) (Inv : World → Prop) (D : Stp → Bool) : Prop where
  below : ∀ W, Inv W → Below w.heap.size w W
  left : ∀ W, Inv W → ∃ n : Int, W.cell? ⟨w.heap.size, 5, none⟩ = some (.int .i64 n)
  mono : ∀ W W', Inv W → Below W.heap.size W W' → Inv W'
  init : ∀ w1 b kv hv, Made (w.alloc (.cells freshW 73)) w1 b kv hv → Inv (w1.setCell ⟨w.heap.size, 0, none⟩ (.pointer (some ⟨b, 0, none⟩)))
  does : ∀ x ∈ l, 1 ≤ x.kind → x.kind ≤ 22 → ∀ W, Calls Tryz.prog 40 #[stpV x, .int .i64 made] W fun e W' => e = .returned (.bool (D x)) ∧ Below W.heap.size W W'
  step : ∀ x ∈ l, 1 ≤ x.kind → x.kind ≤ 22 → D x = true → ∀ W, Inv W → Calls Tryz.prog 41 #[.pointer (some ⟨w.heap.size, 0, none⟩), stpV x] W fun e W' => e = .returned (.bool true) ∧ Inv W'
  looks : ∀ W, Inv W → Calls Tryz.prog 42 #[.pointer (some ⟨w.heap.size, 0, none⟩)] W fun e W' => e = .returned (.bool true) ∧ Inv W'

def UptoPost (w : World) (e : Ending) (w' : World) : Prop := e = .returned (.int .i64 (-1)) ∧ Below w.heap.size w w'

set_option maxRecDepth 100000 in
set_option maxHeartbeats 2000000 in
theorem upto_of (made held : Int) (lists : Bool) (v : Value) (l : List Stp) (w : World) (Inv : World → Prop) (D : Stp → Bool) (hs : Scr w v l) (hl : l.length ≤ 262144) (St : Steps w made l Inv D) :
    Calls Tryz.prog 23 #[v, .int .i64 made, .int .i64 held, .bool lists] w fun e w' => UptoPost w e w' := by
  rcases hs with ⟨ao, cap, rfl, rfl⟩ | ⟨bl, off, cap, rfl, hpos, hlen, hcell⟩
  · go_enter Tryz.func23, Tryz.ntmps23
    go_wp2_with fail
    refine (maker_any _).mono ?_
    rintro e w1 ⟨b, kv, hv, rfl, h1, h2, h3, h4, h5, h6, h7, h8⟩
    have HI : Hid (Inv (w1.setCell ⟨w.heap.size, 0, none⟩ (.pointer (some ⟨b, 0, none⟩)))) := St.init w1 b kv hv ⟨h1, h2, h3, h4, h5, h6, h7, h8⟩
    have c0 : w1.cell? ⟨w.heap.size, 0, none⟩ = some (.pointer none) := by
      rw [h8.cell (by simp)]; simp
    have f0 : w1.frozen? ⟨w.heap.size, 0, none⟩ = false := by
      rw [h8.frozen (by simp)]; simp
    clear h1 h2 h3 h4 h5 h6 h7 h8
    go_wp2
    go_loop [10] (fun i => i = .int .i64 0) (fun _ => 0)
    case atStart => rfl
    case round =>
      obtain rfl := hrel
      go_wp2
      go_ret
      exact ⟨rfl, St.below _ HI.out⟩
  · obtain ⟨n, hn⟩ : ∃ n, n = l.length := ⟨_, rfl⟩
    have HN : Hid (n = l.length) := hn
    have HC : Hid (∀ i (h : i < l.length), StpAt w bl (off + i * 6) l[i]) := hcell
    have hbi : (n : Int) ≤ 262144 := by omega
    have hbl : bl < w.heap.size := by
      have h0 := (hcell 0 hpos).c0
      rcases Nat.lt_or_ge bl w.heap.size with h' | h'
      · exact h'
      · simp [World.cell?, Array.getElem?_eq_none h'] at h0
    rw [← hn]
    clear hn hcell hlen hpos hl
    go_enter Tryz.func23, Tryz.ntmps23
    go_wp2_with fail
    refine (maker_any _).mono ?_
    rintro e w1 ⟨b, kv, hv, rfl, h1, h2, h3, h4, h5, h6, h7, h8⟩
    have HI : Hid (Inv (w1.setCell ⟨w.heap.size, 0, none⟩ (.pointer (some ⟨b, 0, none⟩)))) := St.init w1 b kv hv ⟨h1, h2, h3, h4, h5, h6, h7, h8⟩
    have c0 : w1.cell? ⟨w.heap.size, 0, none⟩ = some (.pointer none) := by
      rw [h8.cell (by simp)]; simp
    have f0 : w1.frozen? ⟨w.heap.size, 0, none⟩ = false := by
      rw [h8.frozen (by simp)]; simp
    clear h1 h2 h3 h4 h5 h6 h7 h8
    go_wp2
    clear c0 f0
    go_loopw [10] (fun iv_ wr => ∃ i : Nat, i ≤ n ∧ iv_ = .int .i64 i ∧ Hid (Inv wr)) (fun i _ => n - (intOf i).toNat)
    case atStart => exact ⟨0, by omega, rfl, HI⟩
    case round =>
      clear HI
      obtain ⟨i, hi, rfl, HI⟩ := hrel
      obtain ⟨left, hleft⟩ := St.left _ HI.out
      by_cases hlt : i < n
      · have hil : i < l.length := by have := HN.out; omega
        obtain ⟨x, hx⟩ : ∃ x, x = l[i] := ⟨_, rfl⟩
        have hs0 := HC.out i hil
        have hmem : l[i] ∈ l := List.getElem_mem _
        rw [← hx] at hs0 hmem
        have HS : Hid (StpAt w bl (off + i * 6) x) := hs0
        have hat := hs0.on (St.below _ HI.out) hbl
        clear hx hs0
        by_cases hl0 : 0 < left
        · have c0 := hat.c0
          have c1 := hat.c1
          have c2 := hat.c2
          have c3 := hat.c3
          have c4 := hat.c4
          have c5 := hat.c5
          have HM : Hid (x ∈ l) := hmem
          clear hat hmem
          by_cases hk1 : x.kind < 1
          · go_wp2
            go_roundw
            case rel => exact ⟨i + 1, by omega, by go_num, HI⟩
            case measure => (simp [intOf]; try omega)
          · by_cases hk2 : 22 < x.kind
            · go_wp2
              go_roundw
              case rel => exact ⟨i + 1, by omega, by go_num, HI⟩
              case measure => (simp [intOf]; try omega)
            · go_wp2_with fail
              refine (St.does x HM.out (by omega) (by omega) _).mono ?_
              rintro e w2 ⟨rfl, hw2⟩
              have HI2 : Hid (Inv w2) := St.mono _ _ HI.out hw2
              clear hw2 HI c0 c1 c2 c3 c4 c5 hleft
              cases hd : D x
              · clear hd
                go_wp2
                go_roundw
                case rel => exact ⟨i + 1, by omega, by go_num, HI2⟩
                case measure => (simp [intOf]; try omega)
              · have HD : Hid (D x = true) := hd
                have hat := HS.out.on (St.below _ HI2.out) hbl
                have c0 := hat.c0
                have c1 := hat.c1
                have c2 := hat.c2
                have c3 := hat.c3
                have c4 := hat.c4
                have c5 := hat.c5
                clear hd hat
                go_wp2_with fail
                refine (St.step x HM.out (by omega) (by omega) HD.out _ HI2.out).mono ?_
                rintro e w3 ⟨rfl, hw3⟩
                have HI3 : Hid (Inv w3) := hw3
                clear hw3 HI2 c0 c1 c2 c3 c4 c5
                go_wp2_with fail
                refine (St.looks _ HI3.out).mono ?_
                rintro e w4 ⟨rfl, hw4⟩
                have HI4 : Hid (Inv w4) := hw4
                clear hw4 HI3
                go_wp2
                go_roundw
                case rel => exact ⟨i + 1, by omega, by go_num, HI4⟩
                case measure => (simp [intOf]; try omega)
        · clear hat hmem
          go_wp2
          go_ret
          exact ⟨rfl, St.below _ HI.out⟩
      · go_wp2
        go_ret
        exact ⟨rfl, St.below _ HI.out⟩

def PlaysPost (w : World) (e : Ending) (w' : World) : Prop := e = .returned (.bool true) ∧ Below w.heap.size w w'

/-- 'plays', where the steps stand in whatever world 'small' leaves. -/
theorem plays_of (made held : Int) (lists : Bool) (v : Value) (l : List Stp) (w : World) (hs : Scr w v l)
    (St : ∀ w1, Below w.heap.size w w1 → l.length + bulk l ≤ 262144 → ∃ Inv D, Steps w1 made l Inv D) :
    Calls Tryz.prog 13 #[v, .int .i64 made, .int .i64 held, .bool lists] w fun e w' => PlaysPost w e w' := by
  have hv : ∃ ao n cap, v = .slice ao n cap := by
    rcases hs with ⟨ao, cap, rfl, _⟩ | ⟨bl, off, cap, rfl, _⟩
    · exact ⟨_, _, _, rfl⟩
    · exact ⟨_, _, _, rfl⟩
  obtain ⟨ao, n, cap, rfl⟩ := hv
  have HS : Hid (Scr w (.slice ao n cap) l) := hs
  have HST : Hid (∀ w1, Below w.heap.size w w1 → l.length + bulk l ≤ 262144 → ∃ Inv D, Steps w1 made l Inv D) := St
  clear hs St
  go_enter Tryz.func13, Tryz.ntmps13
  go_wp2_with fail
  refine (small_any _ l _ HS.out).mono ?_
  rintro e w1 ⟨r, rfl, hr, hb⟩
  have HB : Hid (Below w.heap.size w w1) := hb
  cases r
  · clear hr hb
    go_wp2
    go_ret
    exact ⟨rfl, HB.out⟩
  · have HR : Hid (l.length + bulk l ≤ 262144) := hr rfl
    clear hr hb
    go_wp2_with fail
    obtain ⟨Inv, D, S⟩ := HST.out w1 HB.out HR.out
    refine (upto_of made held lists _ l w1 Inv D (Scr.on HS.out HB.out) (by have := HR.out; omega) S).mono ?_
    rintro e w2 ⟨rfl, hb2⟩
    have HB2 : Hid (Below w.heap.size w w2) := HB.out.trans (hb2.mono HB.out.size)
    clear hb2 S
    go_wp2
    go_ret
    exact ⟨rfl, HB2.out⟩
end Go.Proofs.YtapijhhmjjplmaaGreatDoor
namespace Go.Proofs.YtapijhhmjjplmaaGreatDoor
open Go.RowKit

def D6 (x : Stp) : Bool := decide (x.kind = 1) || decide (x.kind = 2)
def D4088 (x : Stp) : Bool := decide (3 ≤ x.kind) && decide (x.kind ≤ 11)

theorem does6 (x : Stp) (h1 : 1 ≤ x.kind) (h2 : x.kind ≤ 22) (W : World) :
    Calls Tryz.prog 40 #[stpV x, .int .i64 6] W fun e W' => e = .returned (.bool (D6 x)) ∧ Below W.heap.size W W' := by
  obtain ⟨k, a, b, d, s, t⟩ := x
  have hk : k = 1 ∨ k = 2 ∨ k = 3 ∨ k = 4 ∨ k = 5 ∨ k = 6 ∨ k = 7 ∨ k = 8 ∨ k = 9 ∨ k = 10 ∨ k = 11 ∨ k = 12 ∨ k = 13 ∨ k = 14 ∨ k = 15 ∨ k = 16 ∨ k = 17 ∨ k = 18 ∨ k = 19 ∨ k = 20 ∨ k = 21 ∨ k = 22 := by simp only at h1 h2; omega
  clear h1 h2
  rcases hk with rfl | rfl | rfl | rfl | rfl | rfl | rfl | rfl | rfl | rfl | rfl | rfl | rfl | rfl | rfl | rfl | rfl | rfl | rfl | rfl | rfl | rfl
  all_goals
    go_enter Tryz.func40, Tryz.ntmps40
    go_wp2
    all_goals
      go_ret
      exact ⟨rfl, (Below.refl _ _).alloc (Nat.le_refl _) _⟩

theorem does4088 (x : Stp) (h1 : 1 ≤ x.kind) (h2 : x.kind ≤ 22) (W : World) :
    Calls Tryz.prog 40 #[stpV x, .int .i64 4088] W fun e W' => e = .returned (.bool (D4088 x)) ∧ Below W.heap.size W W' := by
  obtain ⟨k, a, b, d, s, t⟩ := x
  have hk : k = 1 ∨ k = 2 ∨ k = 3 ∨ k = 4 ∨ k = 5 ∨ k = 6 ∨ k = 7 ∨ k = 8 ∨ k = 9 ∨ k = 10 ∨ k = 11 ∨ k = 12 ∨ k = 13 ∨ k = 14 ∨ k = 15 ∨ k = 16 ∨ k = 17 ∨ k = 18 ∨ k = 19 ∨ k = 20 ∨ k = 21 ∨ k = 22 := by simp only at h1 h2; omega
  clear h1 h2
  rcases hk with rfl | rfl | rfl | rfl | rfl | rfl | rfl | rfl | rfl | rfl | rfl | rfl | rfl | rfl | rfl | rfl | rfl | rfl | rfl | rfl | rfl | rfl
  all_goals
    go_enter Tryz.func40, Tryz.ntmps40
    go_wp2
    all_goals
      go_ret
      exact ⟨rfl, (Below.refl _ _).alloc (Nat.le_refl _) _⟩

theorem looks_nil (bw : Nat) (W : World) (h3 : W.cell? ⟨bw, 3, none⟩ = some (.slice none 0 0)) :
    Calls Tryz.prog 42 #[.pointer (some ⟨bw, 0, none⟩)] W fun e W' => e = .returned (.bool true) ∧ W = W' := by
  go_enter Tryz.func42, Tryz.ntmps42
  go_wp2
  go_loop [3] (fun i => i = .int .i64 0) (fun _ => 0)
  case atStart => rfl
  case round =>
    obtain rfl := hrel
    go_wp2
    go_ret
    exact ⟨rfl, rfl⟩
end Go.Proofs.YtapijhhmjjplmaaGreatDoor
namespace Go.Proofs.YtapijhhmjjplmaaGreatDoor
open Go.RowKit

theorem row_of_own {w : World} {B n : Nat} {e : TypeId} {v : Value} {l : List Nat} (h : w.ownsRow B e 1 v n (iv l)) (hn : 0 < n) : ∃ g cap, v = .slice (some ⟨g, 0, none⟩) n cap ∧ B ≤ g ∧ Row w g (ints l) := by
  obtain ⟨_, h | ⟨g, cap, cur, hv, hB, hg, _, _, _, htk⟩⟩ := h
  · omega
  · refine ⟨g, cap, hv, hB, e, cur.toList.drop (n * 1), ?_⟩
    have e1 : (ints l).map (Value.int .i64) = iv l := by simp [ints, iv]
    rw [e1, ← htk, List.take_append_drop]
    exact hg

/-- What the law's world holds ahead of every step of Sums. -/
def wRow (b : Nat) : Array Value := #[.pointer (some ⟨b, 0, none⟩), .slice none 0 0, .slice none 0 0, .slice none 0 0, .int .i64 0, .int .i64 262144]
structure SInv (w W : World) : Prop where
  below : Below w.heap.size w W
  ex : ∃ b gk ck gh ch, W.heap[w.heap.size]? = some (.cells (wRow b) 73 (0, 0)) ∧
    W.heap[b]? = some (.cells #[.slice (some ⟨gk, 0, none⟩) 64 ck, .slice (some ⟨gh, 0, none⟩) 8 ch] 142 (0, 0)) ∧ Row W gk (ints roundL) ∧ Row W gh (ints startL)
theorem lt_of_heap {W : World} {b : Nat} {o : Obj} (h : W.heap[b]? = some o) : b < W.heap.size := (Array.getElem?_eq_some_iff.1 h).1
theorem SInv.mono {w W W' : World} (h : SInv w W) (hb : Below W.heap.size W W') : SInv w W' := by
  obtain ⟨h1, b, gk, ck, gh, ch, h2, h3, h4, h5⟩ := h
  refine ⟨h1.trans (hb.mono h1.size), b, gk, ck, gh, ch, ?_, ?_, h4.on hb h4.lt, h5.on hb h5.lt⟩
  · rw [hb.block _ (lt_of_heap h2)]; exact h2
  · rw [hb.block _ (lt_of_heap h3)]; exact h3
theorem SInv.init {w w1 : World} {b : Nat} {kv hv : Value} (M : Made (w.alloc (.cells freshW 73)) w1 b kv hv) : SInv w (w1.setCell ⟨w.heap.size, 0, none⟩ (.pointer (some ⟨b, 0, none⟩))) := by
  obtain ⟨gk, ck, rfl, hgk, rk⟩ := row_of_own M.ok (by omega)
  obtain ⟨gh, ch, rfl, hgh, rh⟩ := row_of_own M.oh (by omega)
  have hle := M.le
  simp at hle hgk hgh
  have h0 : w1.heap[w.heap.size]? = some (.cells freshW 73 (0, 0)) := by
    rw [M.below.block _ (by simp)]
    exact heap_alloc_new w _
  refine ⟨?_, b, gk, ck, gh, ch, ?_, ?_, ?_, ?_⟩
  · exact (((Below.refl _ _).alloc (Nat.le_refl _) _).trans (M.below.mono (by simp))).setCell (Nat.le_refl _) _
  · rw [heap_setCell_same w1 _ 0 _ _ _ h0]
    rfl
  · rw [heap_setCell_other _ _ _ _ (by show b ≠ w.heap.size; omega)]
    exact M.blk
  · rw [← kc_lit]
    exact rk.setOther _ (by show w.heap.size ≠ gk; omega) _
  · rw [← hc_lit]
    exact rh.setOther _ (by show w.heap.size ≠ gh; omega) _

theorem mem_bulk {l : List Stp} {x : Stp} (h : x ∈ l) : x.s.size ≤ bulk l := by
  induction l with
  | nil => cases h
  | cons y r ih =>
    have e : bulk (y :: r) = y.s.size + y.t.size + bulk r := by simp [bulk]
    rw [e]
    rcases List.mem_cons.1 h with rfl | h
    · omega
    · have := ih h; omega

/-- The program's two tables, as the walks want them. -/
structure Tabs (w : World) : Prop where
  start : ∃ tg fr, w.heap[13]? = some (.cells (u32s startL) tg fr)
  round : ∀ i, i < 64 → w.cell? ⟨14, i, none⟩ = some (.int .u32 (roundL.getD i 0 : Int))
theorem Tabs.on {w W : World} (h : Tabs w) (hb : Below w.heap.size w W) : Tabs W := by
  obtain ⟨⟨tg, fr, h1⟩, h2⟩ := h
  refine ⟨⟨tg, fr, ?_⟩, fun i hi => ?_⟩
  · rw [hb.block _ (lt_of_heap h1)]; exact h1
  · rw [hb.cell (block_lt_of_cell (h2 i hi))]; exact h2 i hi

set_option maxRecDepth 100000 in
set_option maxHeartbeats 1000000 in
theorem step_sum (w W : World) (x : Stp) (hk : x.kind = 1) (hs : x.s.size ≤ 300000) (T : Tabs w) (I : SInv w W) :
    Calls Tryz.prog 41 #[.pointer (some ⟨w.heap.size, 0, none⟩), stpV x] W fun e W' => e = .returned (.bool true) ∧ SInv w W' := by
  obtain ⟨k, a, b, d, s, t⟩ := x
  simp only at hk hs
  subst hk
  obtain ⟨r, hr⟩ : ∃ r, r = shaB roundL startL (bytesN s) := ⟨_, rfl⟩
  have HA : Hid (∀ V, SInv w V → Calls Tryz.prog 65 #[.string s] V fun e W' => e = .returned (.string ⟨r.toArray⟩) ∧ Hid (Below V.heap.size V W')) := fun V IV => by
    obtain ⟨tg, fr, h1⟩ := (T.on IV.below).start
    rw [hr]
    exact keepSum s roundL startL tg fr V hs rfl startL_lt roundL_lt h1 (T.on IV.below).round
  have HI : Hid (SInv w W) := I
  obtain ⟨-, bm, gk, ck, gh, ch, hw, hm, hgk, hgh⟩ := I
  have HB : Hid (∀ V, Below W.heap.size W V → Calls Tryz.prog 66 #[.pointer (some ⟨bm, 0, none⟩), .string s] V fun e W' => e = .returned (.string ⟨r.toArray⟩) ∧ Hid (Below V.heap.size V W')) := fun V hV => by
    have hm' : V.heap[bm]? = some (.cells #[.slice (some ⟨gk, 0, none⟩) 64 ck, .slice (some ⟨gh, 0, none⟩) 8 ch] 142 (0, 0)) := by rw [hV.block _ (lt_of_heap hm)]; exact hm
    rw [hr]
    exact refSum_any bm gk ck gh ch roundL startL s V (cell_of_row _ _ _ _ _ _ hm') (cell_of_row _ _ _ _ _ _ hm') (hgk.on hV hgk.lt) rfl roundL_lt (hgh.on hV hgh.lt) rfl startL_lt hs
  have HW : Hid (∀ V, Below W.heap.size W V → V.cell? ⟨w.heap.size, 0, none⟩ = some (.pointer (some ⟨bm, 0, none⟩))) := fun V hV => by
    have hw' : V.heap[w.heap.size]? = some (.cells (wRow bm) 73 (0, 0)) := by rw [hV.block _ (lt_of_heap hw)]; exact hw
    exact cell_of_row _ _ _ _ _ _ hw'
  have hWlt := lt_of_heap hw
  clear hr hw hm hgk hgh T
  go_enter Tryz.func41, Tryz.ntmps41
  go_wp2_with fail
  have hal := (Below.refl W.heap.size W).alloc (Nat.le_refl _) (.cells #[.int .i64 1, .int .i64 a, .int .i64 b, .int .i64 d, .string s, .string t] 67)
  refine (HA.out _ (HI.out.mono hal)).mono ?_
  rintro e W1 ⟨rfl, HB1⟩
  have hz := HB1.out.size
  have HV : Hid (Below W.heap.size W W1) := hal.trans (HB1.out.mono (by simp))
  have cw := HW.out W1 HV.out
  have cs : W1.cell? ⟨W.heap.size, 4, none⟩ = some (.string s) := by rw [HB1.out.cell (by simp)]; simp
  clear hal hz HA HB1
  go_wp2
  go_region_with (go_at_call 66; go_must (refine (HB.out _ (by first | exact HV.out | exact HV.out.drew | exact below_drewN' HV.out _)).mono ?_; rintro e W2 ⟨rfl, HB2⟩; have HV2 : Hid (Below W.heap.size W W2) := (by first | exact HV.out | exact HV.out.drew | exact below_drewN' HV.out _ : Below W.heap.size W _).trans (HB2.out.mono (by have := HV.out.size; simpa using this))))
  all_goals
    go_wp2
    go_ret
    exact ⟨rfl, HI.out.mono HV2.out⟩

set_option maxRecDepth 100000 in
set_option maxHeartbeats 1000000 in
theorem step_crc (w W : World) (x : Stp) (hk : x.kind = 2) (hs : x.s.size ≤ 300000) (I : SInv w W) :
    Calls Tryz.prog 41 #[.pointer (some ⟨w.heap.size, 0, none⟩), stpV x] W fun e W' => e = .returned (.bool true) ∧ SInv w W' := by
  obtain ⟨k, a, b, d, s, t⟩ := x
  simp only at hk hs
  subst hk
  obtain ⟨r, hr⟩ : ∃ r, r = crcN s.data.toList := ⟨_, rfl⟩
  have HA : Hid (∀ V, Calls Tryz.prog 67 #[.string s] V fun e W' => e = .returned (.int .i64 (r : Int)) ∧ Hid (Below V.heap.size V W')) := fun V => by
    rw [hr]
    exact plainCrc s V (by omega)
  have HB : Hid (∀ V, Calls Tryz.prog 68 #[.string s] V fun e W' => e = .returned (.int .i64 (r : Int)) ∧ V = W') := fun V => by
    rw [hr]
    exact refCrc s V (by omega)
  have HI : Hid (SInv w W) := I
  clear I hr
  go_enter Tryz.func41, Tryz.ntmps41
  go_wp2_with fail
  have hal := (Below.refl W.heap.size W).alloc (Nat.le_refl _) (.cells #[.int .i64 2, .int .i64 a, .int .i64 b, .int .i64 d, .string s, .string t] 67)
  refine (HA.out _).mono ?_
  rintro e W1 ⟨rfl, HB1⟩
  have HV : Hid (Below W.heap.size W W1) := hal.trans (HB1.out.mono (by simp))
  have cs : W1.cell? ⟨W.heap.size, 4, none⟩ = some (.string s) := by rw [HB1.out.cell (by simp)]; simp
  clear hal HA HB1
  go_wp2_with fail
  refine (HB.out _).mono ?_
  rintro e W2 ⟨rfl, rfl⟩
  go_wp2
  go_ret
  exact ⟨rfl, HI.out.mono HV.out⟩

theorem sums_steps (w : World) (l : List Stp) (hb : l.length + bulk l ≤ 262144) (T : Tabs w) : Steps w 6 l (SInv w) D6 where
  below := fun _ h => h.below
  left := fun W h => by
    obtain ⟨-, b, gk, ck, gh, ch, hw, -⟩ := h
    exact ⟨262144, cell_of_row _ _ _ _ _ _ hw⟩
  mono := fun _ _ h hb => h.mono hb
  init := fun _ _ _ _ M => SInv.init M
  does := fun x _ h1 h2 W => does6 x h1 h2 W
  step := fun x hx h1 h2 hd W I => by
    have hs := mem_bulk hx
    have hk : x.kind = 1 ∨ x.kind = 2 := by simpa [D6] using hd
    rcases hk with hk | hk
    · exact step_sum w W x hk (by omega) T I
    · exact step_crc w W x hk (by omega) I
  looks := fun W h => by
    have h' := h
    obtain ⟨-, b, gk, ck, gh, ch, hw, -⟩ := h
    refine (looks_nil w.heap.size W (cell_of_row _ _ _ _ _ _ hw)).mono ?_
    rintro e W' ⟨rfl, rfl⟩
    exact ⟨rfl, h'⟩

/-- Sums, whatever the script. -/
theorem sums_any (v : Value) (l : List Stp) (w : World) (hs : Scr w v l) (T : Tabs w) :
    Calls Tryz.prog 3 #[v] w fun e w' => e = .returned (.bool true) ∧ Below w.heap.size w w' := by
  have H := plays_of 6 6 false v l w hs (fun w1 hb h => ⟨SInv w1, D6, sums_steps w1 l h (T.on hb)⟩)
  have HH : Hid (Calls Tryz.prog 13 #[v, .int .i64 6, .int .i64 6, .bool false] w fun e w' => PlaysPost w e w') := H
  clear H
  go_enter Tryz.func3, Tryz.ntmps3
  go_wp2_with fail
  refine HH.out.mono ?_
  rintro e w1 ⟨rfl, hb⟩
  have HB : Hid (Below w.heap.size w w1) := hb
  clear hb
  go_wp2
  go_ret
  exact ⟨rfl, HB.out⟩
end Go.Proofs.YtapijhhmjjplmaaGreatDoor
namespace Go.Proofs.YtapijhhmjjplmaaGreatDoor
open Go.ChangeShapes Go.WideShapes Go.ChangeAt Go.WideMaps Go.WideElems Go.RowKit

theorem own : ownKnob Tryz.prog.godebug = none := by kernel_rfl
def laidL : List (String × DataW Unit) := Rows.sumsRow.laid

/-- A list of laid variables, one by one. -/
theorem laid_one {P : Program} {W : World} : ∀ {l : List (String × DataW Unit)} {ps : List MemPlace}, DataW.LaidVars P W l ps → ∀ n d, (n, d) ∈ l →
    ∃ g t cs fuel p, P.globalNamed n = some g ∧ (P.globals[g]?).map (·.type) = some t ∧ W.var? P n = some cs ∧ DataW.trod (fun _ => ()) P W 0 (fun _ => true) false fuel t cs.toList = some (d, p)
  | [], _, _, _, _, h => by cases h
  | (n', d') :: r, ps, h, n, d, hm => by
    obtain ⟨g, t, cs, fuel, p, q, hg, ht, hv, hd, hr, -⟩ := h
    rcases List.mem_cons.1 hm with h | h
    · cases h; exact ⟨g, t, cs, fuel, p, hg, ht, hv, hd⟩
    · exact laid_one hr n d h

/-- An array of words out of its datum. -/
theorem words_of {W : World} {n t fuel : Nat} {cs : List Value} {zs : List Nat} {p : List MemPlace} (hu : Tryz.prog.underlying t = some (.array n 81)) (hn : zs.length = n)
    (h : DataW.trod (fun _ => ()) Tryz.prog W 0 (fun _ => true) false fuel t cs = some (.agg (zs.map fun z : Nat => .lit (.int .u32 (z : Int))), p)) (hc : Tryz.prog.cellsOf t = n) :
    cs = zs.map fun z : Nat => Value.int .u32 (z : Int) := by
  obtain ⟨xs, m, _, ex, hl, hx, hel⟩ := DataW.trod_array hu h
  have c5 : Tryz.prog.cellsOf 81 = 1 := by kernel_rfl
  have e3 : (xs.map (·.1)) = zs.map fun z : Nat => (.lit (.int .u32 (z : Int)) : DataW Unit) := (DataW.agg.inj (Prod.mk.inj ex).1).symm
  apply List.ext_getElem
  · rw [hl, hc, List.length_map, hn]
  · intro j h1 h2
    have hj : j < n := by rw [List.length_map, hn] at h2; exact h2
    have hE := hel j hj
    rw [c5, Nat.mul_one, List.getElem?_eq_getElem (by omega)] at hE
    obtain ⟨z, e1, e2, _⟩ := DataW.trod_int Tryz.underlying81 hE
    have e4 : (xs.map (·.1))[j]? = (zs.map fun z : Nat => (.lit (.int .u32 (z : Int)) : DataW Unit))[j]? := by rw [e3]
    rw [List.getElem?_map, List.getElem?_map, List.getElem?_eq_getElem (by omega : j < xs.length), List.getElem?_eq_getElem (by omega : j < zs.length), e2] at e4
    simp only [Option.map_some, Option.some.injEq, DataW.lit.injEq, Lit.int.injEq, true_and] at e4
    rw [List.getElem_map, ← e4]
    have h0 : ((cs.drop j).take 1)[0]? = some (.int .u32 z) := by rw [e1]; rfl
    have h0' : cs[j]? = some (.int .u32 z) := by simpa using h0
    rw [List.getElem?_eq_getElem h1] at h0'
    exact Option.some.inj h0'

theorem plain_of_laidH {P : Program} {W : World} {l : List (String × DataW Unit)} (h : laidMetH P l W) : laidMet P (l.filter fun x => x.2.handleName?.isNone) W := by
  unfold laidMetH at h
  split at h
  · rename_i hf
    have e : (l.filter fun x => x.2.handleName?.isNone) = l := by
      rw [List.filter_eq_self]
      intro x hx
      have := (List.filter_eq_nil_iff.1 hf) x hx
      cases hn : x.2.handleName? with
      | none => rfl
      | some s => rw [hn] at this; exact absurd rfl this
    rw [e]
    exact h
  · exact h.1

theorem g_start : Tryz.prog.globalNamed "keepsake/sums.startWords" = some 13 := by kernel_rfl
theorem g_round : Tryz.prog.globalNamed "keepsake/sums.roundWords" = some 14 := by kernel_rfl
theorem t_start : (Tryz.prog.globals[13]?).map (·.type) = some 302 := by kernel_rfl
theorem t_round : (Tryz.prog.globals[14]?).map (·.type) = some 394 := by kernel_rfl
theorem in_start : ("keepsake/sums.startWords", Rows.laid_keepsake_sums_startWords) ∈ laidL.filter fun x => x.2.handleName?.isNone := List.mem_filter.2 ⟨by simp [laidL, Rows.sumsRow], rfl⟩
theorem in_round : ("keepsake/sums.roundWords", Rows.laid_keepsake_sums_roundWords) ∈ laidL.filter fun x => x.2.handleName?.isNone := List.mem_filter.2 ⟨by simp [laidL, Rows.sumsRow], rfl⟩
theorem d_start : (Rows.laid_keepsake_sums_startWords : DataW Unit) = .agg (startL.map fun z : Nat => .lit (.int .u32 (z : Int))) := rfl
theorem d_round : (Rows.laid_keepsake_sums_roundWords : DataW Unit) = .agg (roundL.map fun z : Nat => .lit (.int .u32 (z : Int))) := rfl

theorem tabs_of_laid {W : World} (h : laidMetH Tryz.prog laidL W) : Tabs W := by
  obtain ⟨ps, hl, -, -⟩ := plain_of_laidH h
  refine ⟨?_, ?_⟩
  · obtain ⟨g, t, cs, fuel, p, a1, a2, a3, a4⟩ := laid_one hl _ _ in_start
    obtain rfl := Option.some.inj (g_start.symm.trans a1)
    obtain rfl := Option.some.inj (t_start.symm.trans a2)
    rw [d_start] at a4
    have hw := words_of (n := 8) Tryz.underlying302 rfl a4 (by kernel_rfl)
    simp only [World.var?, a1, Option.bind_some] at a3
    split at a3
    · rename_i cs' tg fr hh
      cases a3
      refine ⟨tg, fr, ?_⟩
      rw [hh]
      congr 2
      show _ = u32s startL
      unfold u32s
      rw [← hw]
    · cases a3
  · obtain ⟨g, t, cs, fuel, p, a1, a2, a3, a4⟩ := laid_one hl _ _ in_round
    obtain rfl := Option.some.inj (g_round.symm.trans a1)
    obtain rfl := Option.some.inj (t_round.symm.trans a2)
    rw [d_round] at a4
    have hw := words_of (n := 64) Tryz.underlying394 rfl a4 (by kernel_rfl)
    intro i hi
    rw [World.var?_cell a1 a3 i, ← Array.getElem?_toList, hw, List.getElem?_map]
    have hr : roundL.length = 64 := rfl
    rw [List.getElem?_eq_getElem (by omega), List.getD_eq_getElem?_getD, List.getElem?_eq_getElem (by omega)]
    rfl

/-- The witness's world: what the door lays, and the pinned table besides. -/
def bigL : List (String × DataW Unit) := [("unicode/utf8.first", Rows.laid_unicode_utf8_first)]
theorem big_is : ((laidL.filter fun x => x.2.handleName?.isNone).filter fun x => ["unicode/utf8.first"].contains x.1) = bigL := by kernel_rfl
set_option maxRecDepth 100000 in
theorem wit_met (os : Os) (args : Array Value) : laidMetH Tryz.prog laidL (((World.doorLaid Tryz.prog 264 os).layVars Tryz.prog bigL).forCall (fun _ _ => 0) ⟨#[], args, []⟩).memory :=
  laidMetH_of_parts3 (fuel := 8) (laidMet_layVars (w0 := World.doorLaid Tryz.prog 264 os) ["unicode/utf8.first"] ((List.range (World.doorLaid Tryz.prog 264 os).heap.size).filter (· != 16)) (by rw [big_is]; simp [World.memory, World.forCall, Input.heap]) (by kernel_rfl) (by kernel_rfl)
    (LaidIn.of_run _ 8 (by kernel_rfl) (by kernel_rfl) (by kernel_rfl) (by kernel_rfl))) (by kernel_rfl) (by kernel_rfl)
end Go.Proofs.YtapijhhmjjplmaaGreatDoor
namespace Go.Proofs.YtapijhhmjjplmaaGreatDoor

theorem s_laidOut : laidOutB Tryz.prog = true := by kernel_rfl
theorem s_mapsRowed : mapsRowed Tryz.prog = true := by kernel_rfl
theorem s_wf : Rows.sumsRow.wf (OpenSpec.ofChange Rows.sumsSpec) = true := by kernel_rfl
theorem s_inPlace : (Rows.sumsRow.inPlace == Tryz.prog.inPlace 3) = true := by kernel_rfl
theorem s_unfollowed : (Rows.sumsRow.unfollowed == Tryz.prog.unfollowed 3) = true := by kernel_rfl
theorem s_recurses : (Rows.sumsRow.recurses == Tryz.prog.recurses 3) = true := by kernel_rfl
theorem s_named : (Rows.sumsRow.named == Tryz.prog.varsNamed 3) = true := by kernel_rfl
theorem s_namedTie : namedTie Tryz.prog Rows.sumsRow.named Rows.sumsSpec.vars = true := by kernel_rfl
theorem s_funcNamed : Tryz.prog.funcNamed "keepsake/keepsakelaw.Sums" = some 3 := by kernel_rfl
theorem s_joined : joinedFacts Tryz.prog 3 Tryz.f3 Rows.sumsSpec Rows.sumsRow = true := by
  unfold joinedFacts
  rw [s_wf, s_laidOut, s_mapsRowed, s_namedTie, s_inPlace, s_unfollowed, s_recurses, s_named]
  kernel_rfl
end Go.Proofs.YtapijhhmjjplmaaGreatDoor
namespace Go.Proofs.YtapijhhmjjplmaaGreatDoor

theorem d_wf : Rows.disksRow.wf (OpenSpec.ofChange Rows.disksSpec) = true := by kernel_rfl
theorem d_inPlace : (Rows.disksRow.inPlace == Tryz.prog.inPlace 4) = true := by kernel_rfl
theorem d_unfollowed : (Rows.disksRow.unfollowed == Tryz.prog.unfollowed 4) = true := by kernel_rfl
theorem d_recurses : (Rows.disksRow.recurses == Tryz.prog.recurses 4) = true := by kernel_rfl
theorem d_named : (Rows.disksRow.named == Tryz.prog.varsNamed 4) = true := by kernel_rfl
theorem d_namedTie : namedTie Tryz.prog Rows.disksRow.named Rows.disksSpec.vars = true := by kernel_rfl
theorem d_funcNamed : Tryz.prog.funcNamed "keepsake/keepsakelaw.Disks" = some 4 := by kernel_rfl
theorem d_joined : joinedFacts Tryz.prog 4 Tryz.f4 Rows.disksSpec Rows.disksRow = true := by
  unfold joinedFacts
  rw [d_wf, s_laidOut, s_mapsRowed, d_namedTie, d_inPlace, d_unfollowed, d_recurses, d_named]
  kernel_rfl
end Go.Proofs.YtapijhhmjjplmaaGreatDoor
namespace Go.Proofs.YtapijhhmjjplmaaGreatDoor
open Go.RowKit

/-- The slice v has a row of its own, or none; its block is of S. -/
def OwnS (w : World) (S : Nat → Prop) (e : TypeId) (k : Nat) (v : Value) (n : Nat) (xs : List Value) : Prop := w.ownsRow 0 e k v n xs ∧ ∀ g, v.ownBlock = some g → S g
theorem own_heap {w w' : World} {B n k : Nat} {e : TypeId} {v : Value} {xs : List Value} (h : w.ownsRow B e k v n xs) (hg : ∀ g, v.ownBlock = some g → w'.heap[g]? = w.heap[g]?) : w'.ownsRow B e k v n xs := by
  obtain ⟨h1, h2 | ⟨g, cap, cur, hv, hB, hh, h3⟩⟩ := h
  · exact ⟨h1, .inl h2⟩
  · exact ⟨h1, .inr ⟨g, cap, cur, hv, hB, by rw [hg g (by rw [hv]; rfl)]; exact hh, h3⟩⟩
theorem OwnS.on {w w' : World} {S T : Nat → Prop} {n k : Nat} {e : TypeId} {v : Value} {xs : List Value} (h : OwnS w S e k v n xs) (hs : Same T w w') (hd : ∀ g, v.ownBlock = some g → ¬ T g) : OwnS w' S e k v n xs := by
  refine ⟨own_heap h.1 fun g hg => ?_, h.2⟩
  obtain ⟨h1, h2 | ⟨g', cap, cur, hv, hB, hh, h3⟩⟩ := h.1
  · rw [h2.1] at hg; cases hg
  · rw [hv] at hg
    cases hg
    exact hs.block g' (Array.getElem?_eq_some_iff.1 hh).1 (hd g' (by rw [hv]; rfl))
theorem OwnS.lt {w : World} {S : Nat → Prop} {n k : Nat} {e : TypeId} {v : Value} {xs : List Value} (h : OwnS w S e k v n xs) {g : Nat} (hg : v.ownBlock = some g) : g < w.heap.size := by
  obtain ⟨h1, h2 | ⟨g', cap, cur, hv, hB, hh, h3⟩⟩ := h.1
  · rw [h2.1] at hg; cases hg
  · rw [hv] at hg
    cases hg
    exact (Array.getElem?_eq_some_iff.1 hh).1
theorem OwnS.mono {w : World} {S T : Nat → Prop} {n k : Nat} {e : TypeId} {v : Value} {xs : List Value} (h : OwnS w S e k v n xs) (hd : ∀ g, S g → T g) : OwnS w T e k v n xs := ⟨h.1, fun g hg => hd g (h.2 g hg)⟩
/-- What a slice that is not empty is. -/
theorem OwnS.open {w : World} {S : Nat → Prop} {n k : Nat} {e : TypeId} {v : Value} {xs : List Value} (h : OwnS w S e k v n xs) (hn : 0 < n) :
    ∃ g cap, v = .slice (some ⟨g, 0, none⟩) n cap ∧ S g ∧ (∀ j (hj : j < xs.length), w.cell? ⟨g, j, none⟩ = some xs[j]) ∧ ∀ j, w.frozen? ⟨g, j, none⟩ = false := by
  obtain ⟨h1, h2 | ⟨g, cap, cur, hv, hB, hh, h3, h4, h5, h6⟩⟩ := h.1
  · omega
  · refine ⟨g, cap, hv, h.2 g (by rw [hv]; rfl), fun j hj => ?_, fun j => frozen_of_row w g j _ _ hh⟩
    rw [cell_of_row w g j _ _ _ hh, ← Array.getElem?_toList]
    have : (cur.toList.take (n * k))[j]? = some xs[j] := by rw [h6]; exact List.getElem?_eq_getElem hj
    rw [List.getElem?_take_of_lt (by omega)] at this
    exact this
/-- A cell of such a row is written. -/
theorem OwnS.set {w : World} {S : Nat → Prop} {n k g cap : Nat} {e : TypeId} {xs : List Value} (h : OwnS w S e k (.slice (some ⟨g, 0, none⟩) n cap) n xs) (j : Nat) (y : Value) :
    OwnS (w.setCell ⟨g, j, none⟩ y) S e k (.slice (some ⟨g, 0, none⟩) n cap) n (xs.set j y) := by
  obtain ⟨h1, h2 | ⟨g', cap', cur, hv, hB, hh, h3, h4, h5, h6⟩⟩ := h.1
  · cases h2.1
  · cases hv
    refine ⟨⟨by rw [List.length_set]; exact h1, .inr ⟨g, cap, cur.setIfInBounds j y, rfl, hB, ?_, h3, h4, by simpa using h5, ?_⟩⟩, h.2⟩
    · exact heap_setCell_same w g j _ _ y hh
    · rw [Array.toList_setIfInBounds, List.take_set, h6]

def strs (l : List ByteArray) : List Value := l.map Value.string
def wrefs (l : List (Nat × ByteArray)) : List Value := l.flatMap fun x => [.int .i64 (x.1 : Int), .string x.2]
theorem strs_length (l : List ByteArray) : (strs l).length = l.length := by simp [strs]
theorem wrefs_length (l : List (Nat × ByteArray)) : (wrefs l).length = l.length * 2 := by
  induction l with
  | nil => rfl
  | cons x r ih => simp [wrefs] at ih ⊢; omega

/-- The reference's disk. -/
structure RDsk where
  safe : List ByteArray
  seen : List ByteArray
  wait : List (Nat × ByteArray)
  left : Int
  lit : Bool
  down : Bool

def refRow (sv nv wv : Value) (left : Int) (lit down : Bool) : Array Value := #[sv, nv, wv, .int .i64 left, .bool lit, .bool down]
structure RefV (w : World) (S : Nat → Prop) (be : Nat) (sv nv wv : Value) (r : RDsk) : Prop where
  blk : w.heap[be]? = some (.cells (refRow sv nv wv r.left r.lit r.down) 149 (0, 0))
  sb : S be
  safe : OwnS w S 9 1 sv r.safe.length (strs r.safe)
  seen : OwnS w S 9 1 nv r.seen.length (strs r.seen)
  wait : OwnS w S 307 2 wv r.wait.length (wrefs r.wait)
  d1 : ∀ g, sv.ownBlock = some g → g ≠ be ∧ nv.ownBlock ≠ some g ∧ wv.ownBlock ≠ some g
  d2 : ∀ g, nv.ownBlock = some g → g ≠ be ∧ wv.ownBlock ≠ some g
  d3 : ∀ g, wv.ownBlock = some g → g ≠ be
def RefAt (w : World) (S : Nat → Prop) (be : Nat) (r : RDsk) : Prop := ∃ sv nv wv, RefV w S be sv nv wv r

theorem RefAt.on {w w' : World} {S T : Nat → Prop} {be : Nat} {r : RDsk} (h : RefAt w S be r) (hs : Same T w w') (hd : ∀ g, S g → ¬ T g) : RefAt w' S be r := by
  obtain ⟨sv, nv, wv, h⟩ := h
  refine ⟨sv, nv, wv, ?_, h.sb, h.safe.on hs (fun g hg => hd g (h.safe.2 g hg)), h.seen.on hs (fun g hg => hd g (h.seen.2 g hg)), h.wait.on hs (fun g hg => hd g (h.wait.2 g hg)), h.d1, h.d2, h.d3⟩
  rw [hs.block be (Array.getElem?_eq_some_iff.1 h.blk).1 (hd be h.sb)]
  exact h.blk
theorem RefAt.mono {w : World} {S T : Nat → Prop} {be : Nat} {r : RDsk} (h : RefAt w S be r) (hd : ∀ g, S g → T g) : RefAt w T be r := by
  obtain ⟨sv, nv, wv, h⟩ := h
  exact ⟨sv, nv, wv, h.blk, hd _ h.sb, h.safe.mono hd, h.seen.mono hd, h.wait.mono hd, h.d1, h.d2, h.d3⟩
/-- A world whose blocks but be are as they were. -/
theorem RefV.turn {w w' : World} {S : Nat → Prop} {be : Nat} {sv nv wv : Value} {r : RDsk} (h : RefV w S be sv nv wv r) (hs : Same (· = be) w w') (left : Int) (lit down : Bool)
    (hb : w'.heap[be]? = some (.cells (refRow sv nv wv left lit down) 149 (0, 0))) : RefV w' S be sv nv wv { r with left := left, lit := lit, down := down } :=
  ⟨hb, h.sb, h.safe.on hs (fun g hg => (h.d1 g hg).1), h.seen.on hs (fun g hg => (h.d2 g hg).1), h.wait.on hs (fun g hg => h.d3 g hg), h.d1, h.d2, h.d3⟩
theorem Same.weak {S T : Nat → Prop} {w w' : World} (h : Same S w w') (hd : ∀ g, S g → T g) : Same T w w' := ⟨h.os, h.tape, h.output, h.size, fun k hk hn => h.block k hk fun hs => hn (hd k hs)⟩

theorem ref_fuse (be : Nat) (S : Nat → Prop) (r : RDsk) (n : Int) (w : World) (h : RefAt w S be r) :
    Calls Tryz.prog 117 #[.pointer (some ⟨be, 0, none⟩), .int .i64 n] w fun e w' => e = .returned (.tuple #[]) ∧ RefAt w' S be { r with lit := decide (0 < n), left := n } ∧ Same S w w' := by
  obtain ⟨sv, nv, wv, h⟩ := h
  have c3 : w.cell? ⟨be, 3, none⟩ = some (.int .i64 r.left) := cell_of_row _ _ _ _ _ _ h.blk
  have c4 : w.cell? ⟨be, 4, none⟩ = some (.bool r.lit) := cell_of_row _ _ _ _ _ _ h.blk
  have f3 := frozen_of_row w be 3 _ _ h.blk
  have f4 := frozen_of_row w be 4 _ _ h.blk
  have HB : Hid (RefV w S be sv nv wv r) := h
  clear h
  go_enter Tryz.func117, Tryz.ntmps117
  go_wp2
  go_end0
  have h1 := heap_setCell_same w be 4 _ _ (.bool (decide (0 < n))) HB.out.blk
  have h2 := heap_setCell_same (w.setCell ⟨be, 4, none⟩ (.bool (decide (0 < n)))) be 3 _ _ (.int .i64 n) h1
  have hs : Same (· = be) w ((w.setCell ⟨be, 4, none⟩ (.bool (decide (0 < n)))).setCell ⟨be, 3, none⟩ (.int .i64 n)) := Same.setCell (S := (· = be)) (Same.setCell (S := (· = be)) (Same.refl _ w) ⟨be, 4, none⟩ rfl _) ⟨be, 3, none⟩ rfl _
  refine ⟨rfl, ⟨sv, nv, wv, HB.out.turn hs _ _ _ ?_⟩, hs.weak (by rintro g rfl; exact HB.out.sb)⟩
  rw [h2]
  rfl
end Go.Proofs.YtapijhhmjjplmaaGreatDoor
namespace Go.Proofs.YtapijhhmjjplmaaGreatDoor
open Go.RowKit

/-- What an operation leaves of the flags. -/
def RDsk.op (r : RDsk) : RDsk := if r.lit then { r with left := wrap64 (r.left - 1), down := r.down || decide (wrap64 (r.left - 1) ≤ 0) } else r
theorem op_not (r : RDsk) (h : r.lit = false) : r.op = r := by unfold RDsk.op; rw [h]; rfl
theorem op_lit (r : RDsk) (h : r.lit = true) : r.op = { r with left := wrap64 (r.left - 1), down := r.down || decide (wrap64 (r.left - 1) ≤ 0) } := by unfold RDsk.op; rw [h]; rfl

set_option maxRecDepth 100000 in
theorem ref_may (be : Nat) (S : Nat → Prop) (r : RDsk) (w : World) (h : RefAt w S be r) :
    Calls Tryz.prog 186 #[.pointer (some ⟨be, 0, none⟩)] w fun e w' => e = .returned (.bool (!r.op.down)) ∧ RefAt w' S be r.op ∧ Same S w w' := by
  obtain ⟨sv, nv, wv, h⟩ := h
  have c3 : w.cell? ⟨be, 3, none⟩ = some (.int .i64 r.left) := cell_of_row _ _ _ _ _ _ h.blk
  have c4 : w.cell? ⟨be, 4, none⟩ = some (.bool r.lit) := cell_of_row _ _ _ _ _ _ h.blk
  have c5 : w.cell? ⟨be, 5, none⟩ = some (.bool r.down) := cell_of_row _ _ _ _ _ _ h.blk
  have f3 := frozen_of_row w be 3 _ _ h.blk
  have f5 := frozen_of_row w be 5 _ _ h.blk
  have HB : Hid (RefV w S be sv nv wv r) := h
  have hnot : ∀ (x : Bool) (w : World), (Op.unary .not (.bool x)).run Tryz.prog w = .ok (.bool (!x)) w := fun _ _ => rfl
  clear h
  cases hl : r.lit
  · rw [hl] at c4
    rw [op_not r hl]
    have HL : Hid (r.lit = false) := hl
    clear hl
    go_enter Tryz.func186, Tryz.ntmps186
    go_wp2
    go_ret
    exact ⟨rfl, ⟨sv, nv, wv, HB.out⟩, Same.refl _ _⟩
  · rw [hl] at c4
    rw [op_lit r hl]
    have h1 := heap_setCell_same w be 3 _ _ (.int .i64 (wrap64 (r.left - 1))) HB.out.blk
    have s1 : Same (· = be) w (w.setCell ⟨be, 3, none⟩ (.int .i64 (wrap64 (r.left - 1)))) := Same.setCell (S := (· = be)) (Same.refl _ w) ⟨be, 3, none⟩ rfl _
    by_cases hz : wrap64 (r.left - 1) ≤ 0
    · have h2 := heap_setCell_same _ be 5 _ _ (.bool true) h1
      have s2 := Same.setCell (S := (· = be)) s1 ⟨be, 5, none⟩ rfl (.bool true)
      have H2 : Hid (RefV _ S be sv nv wv { r with left := wrap64 (r.left - 1), down := r.down || decide (wrap64 (r.left - 1) ≤ 0) }) := HB.out.turn s2 _ _ _ (by rw [h2, decide_eq_true hz, Bool.or_true, hl]; rfl)
      have HS : Hid (Same S w _) := s2.weak (by rintro g rfl; exact HB.out.sb)
      have hd : (!(r.down || decide (wrap64 (r.left - 1) ≤ 0))) = false := by rw [decide_eq_true hz, Bool.or_true]; rfl
      rw [hd]
      clear h1 h2 s1 s2 hl hd
      go_enter Tryz.func186, Tryz.ntmps186
      go_wp2
      go_ret
      exact ⟨rfl, ⟨sv, nv, wv, H2.out⟩, HS.out⟩
    · have H2 : Hid (RefV _ S be sv nv wv { r with left := wrap64 (r.left - 1), down := r.down || decide (wrap64 (r.left - 1) ≤ 0) }) := HB.out.turn s1 _ _ _ (by rw [h1, decide_eq_false hz, Bool.or_false, hl]; rfl)
      have HS : Hid (Same S w _) := s1.weak (by rintro g rfl; exact HB.out.sb)
      have hd : (!(r.down || decide (wrap64 (r.left - 1) ≤ 0))) = !r.down := by rw [decide_eq_false hz, Bool.or_false]
      rw [hd]
      clear h1 s1 hl hd
      go_enter Tryz.func186, Tryz.ntmps186
      go_wp2
      go_ret
      exact ⟨rfl, ⟨sv, nv, wv, H2.out⟩, HS.out⟩

/-- Is a sector there? -/
def hasAt (n : Nat) (at_ : Int) : Prop := 0 ≤ at_ ∧ at_ < n

set_option maxRecDepth 100000 in
theorem ref_read (be : Nat) (S : Nat → Prop) (r : RDsk) (at_ : Int) (w : World) (h : RefAt w S be r) (hn : 0 < r.seen.length) (hr : inR at_) :
    Calls Tryz.prog 112 #[.pointer (some ⟨be, 0, none⟩), .int .i64 at_] w fun e w' =>
      e = .returned (.tuple (if h : 0 ≤ at_ ∧ at_ < r.seen.length then #[.string (r.seen[at_.toNat]'(by omega)), .int .i64 0] else #[.string ⟨#[]⟩, .int .i64 1])) ∧ w = w' := by
  obtain ⟨sv, nv, wv, h⟩ := h
  obtain ⟨g, cap, hv, -, hc, -⟩ := h.seen.open hn
  have c1 : w.cell? ⟨be, 1, none⟩ = some nv := cell_of_row _ _ _ _ _ _ h.blk
  rw [hv] at c1
  unfold inR at hr
  by_cases h0 : at_ < 0
  · rw [dif_neg (by omega)]
    clear hc h
    go_enter Tryz.func112, Tryz.ntmps112
    go_wp2
    refine bodyPost_ret (results_tmp2 rfl _ _ _) rfl ?_
    exact ⟨rfl, rfl⟩
  · by_cases h1 : at_ < r.seen.length
    · obtain ⟨k, rfl⟩ : ∃ k : Nat, at_ = k := ⟨at_.toNat, by omega⟩
      have hk : k < r.seen.length := by omega
      rw [dif_pos (by omega)]
      obtain ⟨s, hs⟩ : ∃ s, s = r.seen[k] := ⟨_, rfl⟩
      have ck : w.cell? ⟨g, k, none⟩ = some (.string s) := by rw [hc k (by rw [strs_length]; exact hk), hs]; simp [strs]
      have e : r.seen[(k : Int).toNat]'(by omega) = s := by rw [hs]; rfl
      rw [e]
      clear hc h hs e
      go_enter Tryz.func112, Tryz.ntmps112
      go_wp2
      refine bodyPost_ret (results_tmp2 rfl _ _ _) rfl ?_
      exact ⟨rfl, rfl⟩
    · rw [dif_neg (by omega)]
      clear hc h
      go_enter Tryz.func112, Tryz.ntmps112
      go_wp2
      refine bodyPost_ret (results_tmp2 rfl _ _ _) rfl ?_
      exact ⟨rfl, rfl⟩
end Go.Proofs.YtapijhhmjjplmaaGreatDoor
namespace Go.Proofs.YtapijhhmjjplmaaGreatDoor
open Go.RowKit

theorem infoWaits : (Tryz.prog.info? 307).map (fun i => (i.zero, i.size, i.bytes)) = some (some (.agg #[.int .i64 0, .string ⟨#[]⟩]), 2, 24) := by kernel_rfl
theorem Same.of_grown {S : Nat → Prop} {w w' : World} {v : Value} (h : w.grownBy w' v.ownBlock) (hv : ∀ g, v.ownBlock = some g → S g) : Same S w w' :=
  ⟨h.os, h.tape, h.output, h.size, fun k hk hn => h.block k hk (fun e => hn (hv k e.symm))⟩
theorem cells_two (w : World) (x y : Value) (t : TypeId) : ∀ j u, [x, y][j]? = some u → (w.alloc (.cells #[x, y] t)).cell? ((⟨w.heap.size, 0, none⟩ : Addr).add j) = some u := by
  intro j u hj
  match j, hj with
  | 0, hj =>
    simp at hj
    subst hj
    simp [Addr.add]
  | 1, hj =>
    simp at hj
    subst hj
    simp [Addr.add]

theorem ref_write_bad (be : Nat) (S : Nat → Prop) (r : RDsk) (at_ : Int) (s : ByteArray) (w : World) (h : RefAt w S be r) (hn : 0 < r.seen.length) (hbad : ¬ (0 ≤ at_ ∧ at_ < r.seen.length ∧ s.size = 64)) :
    Calls Tryz.prog 114 #[.pointer (some ⟨be, 0, none⟩), .int .i64 at_, .string s] w fun e w' => e = .returned (.int .i64 1) ∧ w = w' := by
  obtain ⟨sv, nv, wv, h⟩ := h
  obtain ⟨g, cap, hv, -, -, -⟩ := h.seen.open hn
  have c1 : w.cell? ⟨be, 1, none⟩ = some nv := cell_of_row _ _ _ _ _ _ h.blk
  rw [hv] at c1
  clear h
  by_cases h0 : at_ < 0
  · clear hbad
    go_enter Tryz.func114, Tryz.ntmps114
    go_wp2
    go_ret
    exact ⟨rfl, rfl⟩
  · by_cases h1 : at_ < r.seen.length
    · have h2 : ((s.size : Int) != 64) = true := by
        rw [bne_iff_ne]
        intro e
        exact hbad ⟨by omega, h1, by omega⟩
      clear hbad
      go_enter Tryz.func114, Tryz.ntmps114
      go_wp2
      go_ret
      exact ⟨rfl, rfl⟩
    · clear hbad
      go_enter Tryz.func114, Tryz.ntmps114
      go_wp2
      go_ret
      exact ⟨rfl, rfl⟩

/-- What a write leaves. -/
def RDsk.write (r : RDsk) (k : Nat) (s : ByteArray) : RDsk := if r.op.down then r.op else { r.op with seen := r.op.seen.set k s, wait := r.op.wait ++ [(k, s)] }
/-- What a write or a flush answers. -/
def RDsk.ans (r : RDsk) : Int := if r.op.down then 2 else 0
theorem op_seen (r : RDsk) : r.op.seen = r.seen := by unfold RDsk.op; split <;> rfl
theorem op_safe (r : RDsk) : r.op.safe = r.safe := by unfold RDsk.op; split <;> rfl
theorem op_wait (r : RDsk) : r.op.wait = r.wait := by unfold RDsk.op; split <;> rfl
theorem wrefs_snoc (l : List (Nat × ByteArray)) (k : Nat) (s : ByteArray) : wrefs l ++ [.int .i64 (k : Int), .string s] = wrefs (l ++ [(k, s)]) := by simp [wrefs]

set_option maxRecDepth 100000 in
set_option maxHeartbeats 1000000 in
theorem ref_write (be : Nat) (S : Nat → Prop) (r : RDsk) (k : Nat) (s : ByteArray) (w : World) (h : RefAt w S be r) (hk : k < r.seen.length) (hs : s.size = 64) (hw : r.wait.length ≤ 1000000) :
    Calls Tryz.prog 114 #[.pointer (some ⟨be, 0, none⟩), .int .i64 (k : Int), .string s] w fun e w' => e = .returned (.int .i64 r.ans) ∧ RefAt w' (fun g => S g ∨ w.heap.size ≤ g) be (r.write k s) ∧ Same S w w' := by
  have HM := ref_may be S r w h
  obtain ⟨sv0, nv0, wv0, h⟩ := h
  obtain ⟨g0, cap0, hv0, -, -, -⟩ := h.seen.open (by omega)
  have c1 : w.cell? ⟨be, 1, none⟩ = some nv0 := cell_of_row _ _ _ _ _ _ h.blk
  rw [hv0] at c1
  have HMM : Hid (Calls Tryz.prog 186 #[.pointer (some ⟨be, 0, none⟩)] w fun e w' => e = .returned (.bool (!r.op.down)) ∧ RefAt w' S be r.op ∧ Same S w w') := HM
  obtain ⟨i0, hi0, hz0, hz1, hz2⟩ := info_parts infoWaits
  have hnot : ∀ (x : Bool) (w : World), (Op.unary .not (.bool x)).run Tryz.prog w = .ok (.bool (!x)) w := fun _ _ => rfl
  have hki : (k : Int) < r.seen.length := by omega
  obtain ⟨n, hn⟩ : ∃ n, n = r.seen.length := ⟨_, rfl⟩
  rw [← hn] at hki hk c1
  have HN : Hid (n = r.seen.length) := hn
  have HW : Hid (r.wait.length ≤ 1000000) := hw
  have hsi : (s.size : Int) = 64 := by omega
  clear HM h hn hw hv0
  go_enter Tryz.func114, Tryz.ntmps114
  go_wp2_with fail
  refine HMM.out.mono ?_
  rintro e w1 ⟨rfl, ⟨sv, nv, wv, h1⟩, s1⟩
  have HS1 : Hid (Same S w w1) := s1
  cases hd : r.op.down
  · have hsn : 0 < r.op.seen.length := by rw [op_seen, ← HN.out]; omega
    obtain ⟨gn, cn, hnv, hgn, hcn, hfn⟩ := h1.seen.open hsn
    rw [hnv] at h1
    obtain ⟨z, cz⟩ : ∃ z, w1.cell? ⟨gn, k, none⟩ = some z := ⟨_, hcn k (by rw [strs_length, op_seen, ← HN.out]; exact hk)⟩
    have fz := hfn k
    have d1 : w1.cell? ⟨be, 1, none⟩ = some (.slice (some ⟨gn, 0, none⟩) r.op.seen.length cn) := cell_of_row _ _ _ _ _ _ h1.blk
    have d2 : w1.cell? ⟨be, 2, none⟩ = some wv := cell_of_row _ _ _ _ _ _ h1.blk
    have fb := frozen_of_row w1 be 2 _ _ h1.blk
    have hgb : gn ≠ be := (h1.d2 gn rfl).1
    have hlb : be < w1.heap.size := (Array.getElem?_eq_some_iff.1 h1.blk).1
    rw [op_seen, ← HN.out] at d1
    have HV : Hid (RefV w1 S be sv (.slice (some ⟨gn, 0, none⟩) r.op.seen.length cn) wv r.op) := h1
    have HGN : Hid (S gn) := hgn
    clear h1 s1 hcn hfn hsn hnv hgn
    have d2' : (w1.setCell ⟨gn, k, none⟩ (.string s)).cell? ⟨be, 2, none⟩ = some wv := by
      rw [World.cell?_setCell_other _ _ _ _ (by intro e; exact hgb (congrArg Addr.block e))]
      exact d2
    have HW2 : Hid ((w1.setCell ⟨gn, k, none⟩ (.string s)).ownsRow 0 307 2 wv r.op.wait.length (wrefs r.op.wait)) := own_heap HV.out.wait.1 (fun g hg => heap_setCell_other _ _ _ _ (by show g ≠ gn; rintro rfl; exact (HV.out.d2 g rfl).2 hg))
    have HWL : Hid (r.op.wait.length ≤ 1000000) := by rw [op_wait]; exact HW
    have HCN : Hid (∀ j u, [Value.int .i64 (k : Int), .string s][j]? = some u → ((w1.setCell ⟨gn, k, none⟩ (.string s)).alloc (.cells #[.int .i64 (k : Int), .string s] 307)).cell? ((⟨w1.heap.size, 0, none⟩ : Addr).add j) = some u) := fun j u hj => by
      have h := cells_two (w1.setCell ⟨gn, k, none⟩ (.string s)) _ _ 307 j u hj
      have e : (w1.setCell ⟨gn, k, none⟩ (.string s)).heap.size = w1.heap.size := by simp
      rw [e] at h
      exact h
    go_wp2_with (at_builtin; refine wpList_append_own_at _ rfl _ _ 147 rfl 0 307 i0 (.agg #[.int .i64 0, .string ⟨#[]⟩]) 2 24 Tryz.underlying147 hi0 hz0 hz1 hz2 rfl (by decide) _ _ _ rfl (World.ownsRow.alloc HW2.out _) _ 1 1 [.int .i64 (k : Int), .string s] rfl rfl HCN.out ?c2 ?c3 ?c4 ?c5 ?_)
    case c2 => intro u hu; simp at hu; rcases hu with rfl | rfl <;> rfl
    case c3 => have := HWL.out; unfold maxLen; omega
    case c4 => have := HWL.out; omega
    case c5 => omega
    intro v' w3 hown' hgrow _ hat
    obtain ⟨g', cap', rfl⟩ : ∃ g' cap', v' = .slice (some ⟨g', 0, none⟩) (r.op.wait.length + 1) cap' := by
      obtain ⟨-, h2 | ⟨g', cap', cur', hv', -⟩⟩ := hown'
      · omega
      · exact ⟨g', cap', hv'⟩
    have hz : w1.heap.size + 1 ≤ w3.heap.size := by have := hgrow.size; simpa using this
    have hbe : w3.heap[be]? = some (.cells (refRow sv (.slice (some ⟨gn, 0, none⟩) r.op.seen.length cn) wv r.op.left r.op.lit r.op.down) 149 (0, 0)) := by
      rw [hgrow.block be (by simp; omega) (fun e => HV.out.d3 be e.symm rfl), Below.heap_alloc _ _ _ (by simp; omega), heap_setCell_other _ _ _ _ (by show be ≠ gn; exact fun e => hgb e.symm)]
      exact HV.out.blk
    have d3 : w3.cell? ⟨be, 2, none⟩ = some wv := cell_of_row _ _ _ _ _ _ hbe
    have f3 := frozen_of_row w3 be 2 _ _ hbe
    have HOWN : Hid (w3.ownsRow 0 307 2 (.slice (some ⟨g', 0, none⟩) (r.op.wait.length + 1) cap') (r.op.wait.length + 1) (wrefs r.op.wait ++ [.int .i64 (k : Int), .string s])) := hown'
    have HGR : Hid (World.grownBy ((w1.setCell ⟨gn, k, none⟩ (.string s)).alloc (.cells #[.int .i64 (k : Int), .string s] 307)) w3 wv.ownBlock) := hgrow
    have HAT : Hid (some g' = wv.ownBlock ∨ some g' = some (w1.heap.size + 1)) := by
      show _ ∨ _
      simpa [Value.ownBlock] using hat
    have HBE : Hid (w3.heap[be]? = some (.cells (refRow sv (.slice (some ⟨gn, 0, none⟩) r.op.seen.length cn) wv r.op.left r.op.lit r.op.down) 149 (0, 0))) := hbe
    have HD : Hid (r.op.down = false) := hd
    clear hown' hgrow hat hbe hd d2 d2' HW2 HCN
    go_wp2
    go_ret
    have hV := HV.out
    have hws : ∀ g, some g' = some g → S g ∨ w.heap.size ≤ g := fun g hg => by
      rcases HAT.out with e | e
      · exact .inl (hV.wait.2 g (by rw [← e]; exact hg))
      · rw [e] at hg
        cases hg
        have := HS1.out.size
        exact .inr (by omega)
    have hold : ∀ g, g < w1.heap.size → some g' = some g → wv.ownBlock = some g := fun g hl hg => by
      rcases HAT.out with e | e
      · rw [← e]; exact hg
      · rw [e] at hg; cases hg; omega
    -- a block of the old heap that is none of the three
    have hkeep : ∀ g, g < w1.heap.size → g ≠ gn → wv.ownBlock ≠ some g → g ≠ be → (w3.setCell ⟨be, 2, none⟩ (.slice (some ⟨g', 0, none⟩) (r.op.wait.length + 1) cap')).heap[g]? = w1.heap[g]? := fun g hl h1 h2 h3 => by
      rw [heap_setCell_other _ _ _ _ h3, HGR.out.block g (by simp; omega) (fun e => h2 e.symm), Below.heap_alloc _ _ _ (by simp; omega), heap_setCell_other _ _ _ _ h1]
    have hsn : r.op.seen.length = n := by rw [op_seen, ← HN.out]
    have hwr : r.write k s = { r.op with seen := r.op.seen.set k s, wait := r.op.wait ++ [(k, s)] } := by unfold RDsk.write; rw [HD.out]; rfl
    have hans : r.ans = 0 := by unfold RDsk.ans; rw [HD.out]; rfl
    refine ⟨by rw [hans]; rfl, ⟨sv, .slice (some ⟨gn, 0, none⟩) n cn, .slice (some ⟨g', 0, none⟩) (r.op.wait.length + 1) cap', ?_⟩, ?_⟩
    · rw [hwr]
      refine ⟨?_, .inl hV.sb, ?_, ?_, ?_, ?_, ?_, ?_⟩
      · rw [heap_setCell_same w3 be 2 _ _ _ HBE.out, hsn]
        rfl
      · refine ⟨own_heap hV.safe.1 fun g hg => hkeep g (hV.safe.lt hg) ?_ (hV.d1 g hg).2.2 (hV.d1 g hg).1, fun g hg => .inl (hV.safe.2 g hg)⟩
        rintro rfl
        exact (hV.d1 g hg).2.1 rfl
      · have hseen := hV.seen.set k (.string s)
        have e1 : (strs r.op.seen).set k (.string s) = strs (r.op.seen.set k s) := by simp [strs, List.map_set]
        have e2 : (r.op.seen.set k s).length = n := by rw [List.length_set]; exact hsn
        rw [e1, hsn] at hseen
        refine ⟨?_, fun g hg => by cases hg; exact .inl HGN.out⟩
        show World.ownsRow _ _ _ _ _ (List.length (r.op.seen.set k s)) _
        rw [e2]
        refine own_heap hseen.1 fun g hg => ?_
        cases hg
        have hgl := hV.seen.lt (g := gn) rfl
        rw [heap_setCell_other _ _ _ _ hgb, HGR.out.block gn (by simp; omega) (fun e => (hV.d2 gn rfl).2 e.symm), Below.heap_alloc _ _ _ (by simp; omega)]
      · refine ⟨?_, hws⟩
        rw [wrefs_snoc] at HOWN
        have e : (r.op.wait ++ [(k, s)]).length = r.op.wait.length + 1 := by simp
        show World.ownsRow _ _ _ _ _ (List.length (r.op.wait ++ [(k, s)])) _
        rw [e]
        refine own_heap HOWN.out fun g hg => heap_setCell_other _ _ _ _ ?_
        rintro rfl
        rcases HAT.out with e | e
        · exact hV.d3 g (by rw [← e]; exact hg) rfl
        · have hg' : some g' = some g := hg
          rw [e] at hg'
          cases hg'
          omega
      · intro g hg
        have hgl := hV.safe.lt hg
        refine ⟨(hV.d1 g hg).1, (hV.d1 g hg).2.1, fun h => (hV.d1 g hg).2.2 (hold g hgl h)⟩
      · intro g hg
        cases hg
        have hgl := hV.seen.lt (g := gn) rfl
        exact ⟨hgb, fun h => (hV.d2 gn rfl).2 (hold gn hgl h)⟩
      · rintro g hg rfl
        exact hV.d3 g (hold g hlb hg) rfl
    · refine HS1.out.trans ?_
      refine ⟨by rw [show (w3.setCell _ _).os = w3.os from rfl, HGR.out.os]; rfl, by rw [show (w3.setCell _ _).tape = w3.tape from rfl, HGR.out.tape]; rfl, by rw [show (w3.setCell _ _).output = w3.output from rfl, HGR.out.output]; rfl, by simp; omega, fun g hl hg => ?_⟩
      exact hkeep g hl (by rintro rfl; exact hg HGN.out) (fun e => hg (hV.wait.2 g e)) (by rintro rfl; exact hg hV.sb)
  · have HV : Hid (RefAt w1 S be r.op) := ⟨sv, nv, wv, h1⟩
    have HD : Hid (r.op.down = true) := hd
    clear h1 s1 hd
    go_wp2
    go_ret
    have hwr : r.write k s = r.op := by unfold RDsk.write; rw [HD.out]; rfl
    rw [hwr]
    have hans : r.ans = 2 := by unfold RDsk.ans; rw [HD.out]; rfl
    exact ⟨by rw [hans]; rfl, HV.out.mono fun g h => .inl h, HS1.out⟩
end Go.Proofs.YtapijhhmjjplmaaGreatDoor
namespace Go.Proofs.YtapijhhmjjplmaaGreatDoor
open Go.RowKit

theorem addTo_setG {α : Type} (h a : List α) (i : Nat) (hl : h.length = a.length) (hi : i < h.length) : (a.take i ++ h.drop i).set i (a[i]'(by omega)) = a.take (i + 1) ++ h.drop (i + 1) := by
  rw [List.set_append_right _ _ (by rw [List.length_take]; omega), List.length_take, Nat.min_eq_left (by omega), Nat.sub_self, List.drop_eq_getElem_cons hi, List.set_cons_zero]
  have e : a.take (i + 1) = a.take i ++ [a[i]'(by omega)] := List.take_succ_eq_append_getElem (by omega)
  rw [e, List.append_assoc]
  rfl
theorem addTo_len {α : Type} (h a : List α) (i : Nat) (hl : h.length = a.length) (hi : i ≤ h.length) : (a.take i ++ h.drop i).length = h.length := by
  rw [List.length_append, List.length_take, List.length_drop]; omega

theorem strs_set (l : List ByteArray) (i : Nat) (x : ByteArray) : (strs l).set i (.string x) = strs (l.set i x) := by simp [strs, List.map_set]
theorem RefV.setSafe {w : World} {S : Nat → Prop} {be gs cs n : Nat} {nv wv : Value} {r : RDsk} (h : RefV w S be (.slice (some ⟨gs, 0, none⟩) n cs) nv wv r) (hn : n = r.safe.length) (i : Nat) (x : ByteArray) :
    RefV (w.setCell ⟨gs, i, none⟩ (.string x)) S be (.slice (some ⟨gs, 0, none⟩) n cs) nv wv { r with safe := r.safe.set i x } := by
  subst hn
  have hd := h.d1 gs rfl
  refine ⟨?_, h.sb, ?_, ?_, ?_, h.d1, h.d2, h.d3⟩
  · rw [heap_setCell_other _ _ _ _ (by show be ≠ gs; exact fun e => hd.1 e.symm)]
    exact h.blk
  · have h1 := h.safe.set i (.string x)
    rw [strs_set] at h1
    have e : (r.safe.set i x).length = r.safe.length := List.length_set
    show OwnS _ _ _ _ _ (List.length (r.safe.set i x)) _
    rw [e]
    exact h1
  · exact ⟨own_heap h.seen.1 fun g hg => heap_setCell_other _ _ _ _ (by show g ≠ gs; rintro rfl; exact hd.2.1 hg), h.seen.2⟩
  · exact ⟨own_heap h.wait.1 fun g hg => heap_setCell_other _ _ _ _ (by show g ≠ gs; rintro rfl; exact hd.2.2 hg), h.wait.2⟩
theorem RefV.setSeen {w : World} {S : Nat → Prop} {be gn cn n : Nat} {sv wv : Value} {r : RDsk} (h : RefV w S be sv (.slice (some ⟨gn, 0, none⟩) n cn) wv r) (hn : n = r.seen.length) (i : Nat) (x : ByteArray) :
    RefV (w.setCell ⟨gn, i, none⟩ (.string x)) S be sv (.slice (some ⟨gn, 0, none⟩) n cn) wv { r with seen := r.seen.set i x } := by
  subst hn
  have hd := h.d2 gn rfl
  refine ⟨?_, h.sb, ?_, ?_, ?_, h.d1, h.d2, h.d3⟩
  · rw [heap_setCell_other _ _ _ _ (by show be ≠ gn; exact fun e => hd.1 e.symm)]
    exact h.blk
  · exact ⟨own_heap h.safe.1 fun g hg => heap_setCell_other _ _ _ _ (by show g ≠ gn; rintro rfl; exact (h.d1 g hg).2.1 rfl), h.safe.2⟩
  · have h1 := h.seen.set i (.string x)
    rw [strs_set] at h1
    have e : (r.seen.set i x).length = r.seen.length := List.length_set
    show OwnS _ _ _ _ _ (List.length (r.seen.set i x)) _
    rw [e]
    exact h1
  · exact ⟨own_heap h.wait.1 fun g hg => heap_setCell_other _ _ _ _ (by show g ≠ gn; rintro rfl; exact hd.2 hg), h.wait.2⟩
/-- No write waits. -/
theorem RefV.noWait {w : World} {S : Nat → Prop} {be : Nat} {sv nv wv : Value} {r : RDsk} (h : RefV w S be sv nv wv r) : RefV (w.setCell ⟨be, 2, none⟩ (.slice none 0 0)) S be sv nv (.slice none 0 0) { r with wait := [] } := by
  refine ⟨?_, h.sb, ?_, ?_, ?_, ?_, ?_, ?_⟩
  · rw [heap_setCell_same w be 2 _ _ _ h.blk]
    rfl
  · exact ⟨own_heap h.safe.1 fun g hg => heap_setCell_other _ _ _ _ (h.d1 g hg).1, h.safe.2⟩
  · exact ⟨own_heap h.seen.1 fun g hg => heap_setCell_other _ _ _ _ (h.d2 g hg).1, h.seen.2⟩
  · exact ⟨⟨rfl, .inl ⟨rfl, rfl⟩⟩, fun g hg => by cases hg⟩
  · exact fun g hg => ⟨(h.d1 g hg).1, (h.d1 g hg).2.1, fun e => by cases e⟩
  · exact fun g hg => ⟨(h.d2 g hg).1, fun e => by cases e⟩
  · exact fun g hg => by cases hg

/-- What a flush leaves. -/
def RDsk.flush (r : RDsk) : RDsk := if r.op.down then r.op else { r.op with safe := r.op.seen, wait := [] }

set_option maxRecDepth 100000 in
set_option maxHeartbeats 1000000 in
theorem ref_flush (be : Nat) (S : Nat → Prop) (r : RDsk) (w : World) (h : RefAt w S be r) (hn : 0 < r.safe.length) (he : r.seen.length = r.safe.length) (hb : r.safe.length ≤ 4096) :
    Calls Tryz.prog 116 #[.pointer (some ⟨be, 0, none⟩)] w fun e w' => e = .returned (.int .i64 r.ans) ∧ RefAt w' S be r.flush ∧ Same S w w' := by
  have HMM : Hid (Calls Tryz.prog 186 #[.pointer (some ⟨be, 0, none⟩)] w fun e w' => e = .returned (.bool (!r.op.down)) ∧ RefAt w' S be r.op ∧ Same S w w') := ref_may be S r w h
  have hnot : ∀ (x : Bool) (w : World), (Op.unary .not (.bool x)).run Tryz.prog w = .ok (.bool (!x)) w := fun _ _ => rfl
  clear h
  go_enter Tryz.func116, Tryz.ntmps116
  go_wp2_with fail
  refine HMM.out.mono ?_
  rintro e w1 ⟨rfl, ⟨sv, nv, wv, h1⟩, s1⟩
  have HS1 : Hid (Same S w w1) := s1
  obtain ⟨r1, hr1⟩ : ∃ r1, r1 = r.op := ⟨_, rfl⟩
  cases hd : r.op.down
  · obtain ⟨n, hn'⟩ : ∃ n, n = r1.safe.length := ⟨_, rfl⟩
    have hns : n = r1.seen.length := by rw [hn', hr1, op_safe, op_seen, he]
    rw [← hr1] at h1
    have hn0 : 0 < n := by rw [hn', hr1, op_safe]; exact hn
    have hnb : n ≤ 4096 := by rw [hn', hr1, op_safe]; exact hb
    obtain ⟨gs, cs, rfl, hgs, -, -⟩ := h1.safe.open (by omega)
    obtain ⟨gn, cn, rfl, hgn, -, -⟩ := h1.seen.open (by omega)
    rw [← hn', ← hns] at h1
    have HV0 : Hid (RefV w1 S be (.slice (some ⟨gs, 0, none⟩) n cs) (.slice (some ⟨gn, 0, none⟩) n cn) wv { r1 with safe := r1.seen.take 0 ++ r1.safe.drop 0 }) := h1
    have HR1 : Hid (r1 = r.op) := hr1
    have HN : Hid (n = r1.safe.length) := hn'
    have HNS : Hid (n = r1.seen.length) := hns
    have HD : Hid (r.op.down = false) := hd
    have HGS : Hid (S gs) := hgs
    have hnbi : (n : Int) ≤ 4096 := by omega
    clear h1 s1 hr1 hn' hns hgs hgn hn he hb hd
    go_wp2
    go_loopw [4] (fun iv_ wr => ∃ i : Nat, i ≤ n ∧ iv_ = .int .i64 (i : Int) ∧ Hid (RefV wr S be (.slice (some ⟨gs, 0, none⟩) n cs) (.slice (some ⟨gn, 0, none⟩) n cn) wv { r1 with safe := r1.seen.take i ++ r1.safe.drop i }) ∧ Hid (Same S w wr)) (fun iv_ _ => n - (intOf iv_).toNat)
    case atStart => exact ⟨0, by omega, rfl, HV0, HS1⟩
    case round =>
      clear HV0 HS1
      obtain ⟨i, hi, rfl, HV, HS⟩ := hrel
      have c0 : wr.cell? ⟨be, 0, none⟩ = some (.slice (some ⟨gs, 0, none⟩) n cs) := cell_of_row _ _ _ _ _ _ HV.out.blk
      have c1 : wr.cell? ⟨be, 1, none⟩ = some (.slice (some ⟨gn, 0, none⟩) n cn) := cell_of_row _ _ _ _ _ _ HV.out.blk
      by_cases hlt : i < n
      · have hl : (r1.seen.take i ++ r1.safe.drop i).length = n := by rw [addTo_len _ _ _ (by rw [← HN.out, ← HNS.out]) (by rw [← HN.out]; exact hi), ← HN.out]
        obtain ⟨x, hx⟩ : ∃ x, x = r1.seen[i]'(by rw [← HNS.out]; exact hlt) := ⟨_, rfl⟩
        have cx : wr.cell? ⟨gn, i, none⟩ = some (.string x) := by
          obtain ⟨g', c', e, -, hc, -⟩ := HV.out.seen.open (by show 0 < r1.seen.length; rw [← HNS.out]; exact hn0)
          cases e
          rw [hc i (by rw [strs_length]; show i < r1.seen.length; rw [← HNS.out]; exact hlt), hx]
          simp [strs]
        obtain ⟨z, cz, fz⟩ : ∃ z, wr.cell? ⟨gs, i, none⟩ = some z ∧ wr.frozen? ⟨gs, i, none⟩ = false := by
          obtain ⟨g', c', e, -, hc, hf⟩ := HV.out.safe.open (by show 0 < List.length (r1.seen.take i ++ r1.safe.drop i); omega)
          cases e
          exact ⟨_, hc i (by rw [strs_length]; show i < List.length (r1.seen.take i ++ r1.safe.drop i); omega), hf i⟩
        have HX : Hid (x = r1.seen[i]'(by rw [← HNS.out]; exact hlt)) := hx
        have HL : Hid ((r1.seen.take i ++ r1.safe.drop i).length = n) := hl
        clear hx hl
        go_wp2
        go_region
        all_goals
          go_wp2
          go_roundw
          case rel =>
            refine ⟨i + 1, by omega, by go_num, ?_, ?_⟩
            · have h1 := HV.out.setSafe HL.out.symm i x
              have e : (r1.seen.take i ++ r1.safe.drop i).set i x = r1.seen.take (i + 1) ++ r1.safe.drop (i + 1) := by
                rw [HX.out]
                exact addTo_setG _ _ i (by rw [← HN.out, ← HNS.out]) (by rw [← HN.out]; exact hlt)
              have h2 : RefV (wr.setCell ⟨gs, i, none⟩ (.string x)) S be (.slice (some ⟨gs, 0, none⟩) n cs) (.slice (some ⟨gn, 0, none⟩) n cn) wv { r1 with safe := r1.seen.take (i + 1) ++ r1.safe.drop (i + 1) } := by rw [← e]; exact h1
              exact ⟨h2.blk, h2.sb, h2.safe, h2.seen, h2.wait, h2.d1, h2.d2, h2.d3⟩
            · exact (HS.out.setCell ⟨gs, i, none⟩ HGS.out _).drew
          case measure => (simp [intOf]; try omega)
      · have hin : i = n := by omega
        obtain ⟨i1, hi1⟩ : ∃ i1, i1 = i := ⟨_, rfl⟩
        subst hi1
        have HV1 : Hid (RefV wr S be (.slice (some ⟨gs, 0, none⟩) n cs) (.slice (some ⟨gn, 0, none⟩) n cn) wv { r1 with safe := r1.seen }) := by
          have h1 := HV.out
          have e : r1.seen.take i1 ++ r1.safe.drop i1 = r1.seen := by
            rw [hin, List.take_of_length_le (by rw [← HNS.out]; exact Nat.le_refl _), List.drop_eq_nil_of_le (by rw [← HN.out]; exact Nat.le_refl _), List.append_nil]
          rw [e] at h1
          exact h1
        have c2 : wr.cell? ⟨be, 2, none⟩ = some wv := cell_of_row _ _ _ _ _ _ HV1.out.blk
        have f2 := frozen_of_row wr be 2 _ _ HV1.out.blk
        clear HV hin
        go_wp2
        go_ret
        have hans : r.ans = 0 := by unfold RDsk.ans; rw [HD.out]; rfl
        have hfl : r.flush = { r1 with safe := r1.seen, wait := [] } := by unfold RDsk.flush; rw [HD.out, HR1.out]; rfl
        refine ⟨by rw [hans]; rfl, ⟨_, _, _, by rw [hfl]; exact HV1.out.noWait⟩, HS.out.setCell ⟨be, 2, none⟩ HV1.out.sb _⟩
  · have HV : Hid (RefAt w1 S be r.op) := ⟨sv, nv, wv, h1⟩
    have HD : Hid (r.op.down = true) := hd
    clear h1 s1 hd hr1
    go_wp2
    go_ret
    have hans : r.ans = 2 := by unfold RDsk.ans; rw [HD.out]; rfl
    have hfl : r.flush = r.op := by unfold RDsk.flush; rw [HD.out]; rfl
    exact ⟨by rw [hans]; rfl, by rw [hfl]; exact HV.out, HS1.out⟩
end Go.Proofs.YtapijhhmjjplmaaGreatDoor
namespace Go.Proofs.YtapijhhmjjplmaaGreatDoor
open Go.RowKit

/-- A list of ints as an argument, in memory that no disk owns. -/
def KeepAt (w : World) (S : Nat → Prop) (kv : Value) (ks : List Int) : Prop :=
  (∃ ao cap, kv = .slice ao 0 cap ∧ ks = []) ∨ ∃ gk cap, kv = .slice (some ⟨gk, 0, none⟩) ks.length cap ∧ 0 < ks.length ∧ ¬ S gk ∧ ∀ j (h : j < ks.length), w.cell? ⟨gk, j, none⟩ = some (.int .i64 ks[j])
/-- One write that a crash keeps. -/
def keep1 (wait : List (Nat × ByteArray)) (safe : List ByteArray) (k : Int) : List ByteArray := if h : 0 ≤ k ∧ k < wait.length then safe.set (wait[k.toNat]'(by omega)).1 (wait[k.toNat]'(by omega)).2 else safe
def keepAll (wait : List (Nat × ByteArray)) (safe : List ByteArray) (ks : List Int) : List ByteArray := ks.foldl (keep1 wait) safe
theorem keep1_length (wait : List (Nat × ByteArray)) (safe : List ByteArray) (k : Int) : (keep1 wait safe k).length = safe.length := by
  unfold keep1; split
  · exact List.length_set
  · rfl
theorem keepAll_length (wait : List (Nat × ByteArray)) : ∀ (ks : List Int) (safe : List ByteArray), (keepAll wait safe ks).length = safe.length
  | [], _ => rfl
  | k :: r, safe => by
    show (keepAll wait (keep1 wait safe k) r).length = _
    rw [keepAll_length wait r, keep1_length]
theorem keepAll_snoc (wait : List (Nat × ByteArray)) (safe : List ByteArray) (ks : List Int) (i : Nat) (h : i < ks.length) : keepAll wait safe (ks.take (i + 1)) = keep1 wait (keepAll wait safe (ks.take i)) ks[i] := by
  unfold keepAll
  rw [List.take_succ_eq_append_getElem h, List.foldl_append]
  rfl
def RDsk.crash (r : RDsk) (ks : List Int) : RDsk := { r with safe := keepAll r.wait r.safe ks, seen := keepAll r.wait r.safe ks, wait := [], lit := false, down := false }

theorem wrefs_at (l : List (Nat × ByteArray)) : ∀ k (h : k < l.length), (wrefs l)[2 * k]? = some (.int .i64 (l[k].1 : Int)) ∧ (wrefs l)[2 * k + 1]? = some (.string l[k].2) := by
  induction l with
  | nil => intro k h; cases h
  | cons x r ih =>
    intro k h
    match k, h with
    | 0, _ => exact ⟨rfl, rfl⟩
    | k + 1, h =>
      have := ih k (by simpa using h)
      have e1 : wrefs (x :: r) = [.int .i64 (x.1 : Int), .string x.2] ++ wrefs r := rfl
      rw [e1, show 2 * (k + 1) = 2 * k + 2 by omega]
      exact this

set_option maxRecDepth 100000 in
set_option maxHeartbeats 1000000 in
theorem ref_crash (be : Nat) (S : Nat → Prop) (r : RDsk) (kv : Value) (ks : List Int) (w : World) (h : RefAt w S be r) (hK : KeepAt w S kv ks) (hn : 0 < r.safe.length) (he : r.seen.length = r.safe.length) (hb : r.safe.length ≤ 4096)
    (hw : ∀ x ∈ r.wait, x.1 < r.safe.length) (hwl : r.wait.length ≤ 1000000) (hkl : ks.length ≤ 1000000) :
    Calls Tryz.prog 118 #[.pointer (some ⟨be, 0, none⟩), kv] w fun e w' => e = .returned (.tuple #[]) ∧ RefAt w' S be (r.crash ks) ∧ Same S w w' := by
  obtain ⟨sv, nv, wv, h1⟩ := h
  obtain ⟨n, hn'⟩ : ∃ n, n = r.safe.length := ⟨_, rfl⟩
  have hns : n = r.seen.length := by rw [hn', he]
  obtain ⟨gs, cs, rfl, hgs, -, -⟩ := h1.safe.open (by omega)
  obtain ⟨gn, cn, rfl, hgn, -, -⟩ := h1.seen.open (by omega)
  rw [← hn', ← hns] at h1
  obtain ⟨m, hm⟩ : ∃ m, m = r.wait.length := ⟨_, rfl⟩
  have HW : Hid (∀ (wr : World) (k : Nat), RefV wr S be (.slice (some ⟨gs, 0, none⟩) n cs) (.slice (some ⟨gn, 0, none⟩) n cn) wv { r with safe := keepAll r.wait r.safe ks } → True) := fun _ _ _ => trivial
  have HV0 : Hid (RefV w S be (.slice (some ⟨gs, 0, none⟩) n cs) (.slice (some ⟨gn, 0, none⟩) n cn) wv { r with safe := keepAll r.wait r.safe (ks.take 0) }) := h1
  have HN : Hid (n = r.safe.length) := hn'
  have HNS : Hid (n = r.seen.length) := hns
  have HM : Hid (m = r.wait.length) := hm
  have HGS : Hid (S gs) := hgs
  have HGN : Hid (S gn) := hgn
  have HWT : Hid (∀ x ∈ r.wait, x.1 < r.safe.length) := hw
  have hnbi : (n : Int) ≤ 4096 := by omega
  have hmi : (m : Int) ≤ 1000000 := by omega
  -- how the list of waiting writes stands
  have hwv : ∃ ao cw, wv = .slice ao m cw ∧ (0 < m → ∃ gw, ao = some ⟨gw, 0, none⟩ ∧ gw ≠ gs ∧ gw ≠ gn) := by
    obtain ⟨-, h2 | ⟨g, cap, cur, hv, -⟩⟩ := h1.wait.1
    · exact ⟨none, 0, by rw [hm, h2.2, h2.1], fun h => by omega⟩
    · exact ⟨_, cap, by rw [hm, hv], fun _ => ⟨g, rfl, by rintro rfl; exact (h1.d1 g rfl).2.2 (by rw [hv]; rfl), by rintro rfl; exact (h1.d2 g rfl).2 (by rw [hv]; rfl)⟩⟩
  obtain ⟨ao, cw, rfl, hao⟩ := hwv
  obtain ⟨q, hq⟩ : ∃ q, q = ks.length := ⟨_, rfl⟩
  have hqi : (q : Int) ≤ 1000000 := by omega
  have hkv : ∃ ak ck, kv = .slice ak q ck ∧ (0 < q → ∃ gk, ak = some ⟨gk, 0, none⟩ ∧ ¬ S gk ∧ ∀ j (h : j < ks.length), w.cell? ⟨gk, j, none⟩ = some (.int .i64 ks[j])) := by
    rcases hK with ⟨ak, ck, rfl, e⟩ | ⟨gk, ck, rfl, -, h3, h4⟩
    · exact ⟨ak, ck, by rw [hq, e]; rfl, fun h => by rw [hq, e] at h; cases h⟩
    · exact ⟨_, ck, by rw [hq], fun _ => ⟨gk, rfl, h3, h4⟩⟩
  obtain ⟨ak, ck, rfl, hak⟩ := hkv
  have HAK : Hid (0 < q → ∃ gk, ak = some ⟨gk, 0, none⟩ ∧ ¬ S gk ∧ ∀ j (h : j < ks.length), w.cell? ⟨gk, j, none⟩ = some (.int .i64 ks[j])) := hak
  have HAO : Hid (0 < m → ∃ gw, ao = some ⟨gw, 0, none⟩ ∧ gw ≠ gs ∧ gw ≠ gn) := hao
  have HQ : Hid (q = ks.length) := hq
  clear h1 hn' hns hm hgs hgn hw hn he hb hwl hkl hK hak hao hq HW
  go_enter Tryz.func118, Tryz.ntmps118
  go_wp2
  go_loopw [4] (fun iv_ wr => ∃ i : Nat, i ≤ q ∧ iv_ = .int .i64 (i : Int) ∧ Hid (RefV wr S be (.slice (some ⟨gs, 0, none⟩) n cs) (.slice (some ⟨gn, 0, none⟩) n cn) (.slice ao m cw) { r with safe := keepAll r.wait r.safe (ks.take i) }) ∧ Hid (Same S w wr)) (fun iv_ _ => q - (intOf iv_).toNat)
  case atStart => exact ⟨0, by omega, rfl, HV0, Same.refl _ _⟩
  case round =>
    clear HV0
    obtain ⟨i, hi, rfl, HV, HS⟩ := hrel
    have c0 : wr.cell? ⟨be, 0, none⟩ = some (.slice (some ⟨gs, 0, none⟩) n cs) := cell_of_row _ _ _ _ _ _ HV.out.blk
    have c1 : wr.cell? ⟨be, 1, none⟩ = some (.slice (some ⟨gn, 0, none⟩) n cn) := cell_of_row _ _ _ _ _ _ HV.out.blk
    have c2 : wr.cell? ⟨be, 2, none⟩ = some (.slice ao m cw) := cell_of_row _ _ _ _ _ _ HV.out.blk
    by_cases hlt : i < q
    · obtain ⟨gk, rfl, hSk, hck⟩ := HAK.out (by omega)
      have hik : i < ks.length := by rw [← HQ.out]; exact hlt
      obtain ⟨k, hk⟩ : ∃ k, k = ks[i] := ⟨_, rfl⟩
      have ck' : wr.cell? ⟨gk, i, none⟩ = some (.int .i64 k) := by rw [hk]; exact HS.out.cell hSk (hck i hik)
      have HK1 : Hid (keepAll r.wait r.safe (ks.take (i + 1)) = keep1 r.wait (keepAll r.wait r.safe (ks.take i)) k) := by rw [hk]; exact keepAll_snoc _ _ _ i hik
      clear hk hck
      by_cases hk0 : 0 ≤ k
      · by_cases hkm : k < m
        · obtain ⟨k, rfl⟩ : ∃ k' : Nat, k = k' := ⟨k.toNat, by omega⟩
          have hkw : k < r.wait.length := by rw [← HM.out]; omega
          obtain ⟨gw, rfl, hws, hwn⟩ := HAO.out (by omega)
          obtain ⟨x, hx⟩ : ∃ x, x = r.wait[k] := ⟨_, rfl⟩
          have hxl : x.1 < n := by rw [HN.out, hx]; exact HWT.out _ (List.getElem_mem _)
          obtain ⟨hc1, hc2⟩ := wrefs_at r.wait k hkw
          have hcw : ∀ j (hj : j < (wrefs r.wait).length), wr.cell? ⟨gw, j, none⟩ = some (wrefs r.wait)[j] := by
            obtain ⟨g', c', e, -, hc, -⟩ := HV.out.wait.open (by show 0 < r.wait.length; omega)
            cases e
            exact hc
          have cw1 : wr.cell? ⟨gw, k * 2, none⟩ = some (.int .i64 (x.1 : Int)) := by
            have hl : 2 * k < (wrefs r.wait).length := by rw [wrefs_length]; omega
            rw [Nat.mul_comm k 2, hcw _ hl, ← List.getElem?_eq_getElem hl, hc1, hx]
          have cw2 : wr.cell? ⟨gw, k * 2 + 1, none⟩ = some (.string x.2) := by
            have hl : 2 * k + 1 < (wrefs r.wait).length := by rw [wrefs_length]; omega
            rw [Nat.mul_comm k 2, hcw _ hl, ← List.getElem?_eq_getElem hl, hc2, hx]
          have hkal : (keepAll r.wait r.safe (ks.take i)).length = n := by rw [keepAll_length, ← HN.out]
          obtain ⟨z, cz, fz⟩ : ∃ z, wr.cell? ⟨gs, x.1, none⟩ = some z ∧ wr.frozen? ⟨gs, x.1, none⟩ = false := by
            obtain ⟨g', c', e, -, hc, hf⟩ := HV.out.safe.open (by show 0 < List.length (keepAll r.wait r.safe (ks.take i)); omega)
            cases e
            exact ⟨_, hc x.1 (by rw [strs_length]; show x.1 < List.length (keepAll r.wait r.safe (ks.take i)); omega), hf _⟩
          have HK2 : Hid (keepAll r.wait r.safe (ks.take (i + 1)) = (keepAll r.wait r.safe (ks.take i)).set x.1 x.2) := by
            show _ = _
            rw [HK1.out]
            unfold keep1
            rw [dif_pos ⟨by omega, by rw [← HM.out]; exact hkm⟩, hx]
            rfl
          have HKL : Hid (n = (keepAll r.wait r.safe (ks.take i)).length) := hkal.symm
          obtain ⟨xa, xs⟩ := x
          simp only at hxl cw1 cw2 cz fz HK2
          clear hx hc1 hc2 hcw hkal HK1
          go_wp2
          go_region
          all_goals
            go_wp2
            go_roundw
            case rel =>
              refine ⟨i + 1, by omega, by go_num, ?_, ?_⟩
              · have h1 := HV.out.setSafe HKL.out xa xs
                have h2 : RefV (wr.setCell ⟨gs, xa, none⟩ (.string xs)) S be (.slice (some ⟨gs, 0, none⟩) n cs) (.slice (some ⟨gn, 0, none⟩) n cn) (.slice (some ⟨gw, 0, none⟩) m cw) { r with safe := keepAll r.wait r.safe (ks.take (i + 1)) } := by rw [HK2.out]; exact h1
                exact ⟨h2.blk, h2.sb, h2.safe, h2.seen, h2.wait, h2.d1, h2.d2, h2.d3⟩
              · exact (HS.out.setCell ⟨gs, xa, none⟩ HGS.out _).drew
            case measure => (simp [intOf]; try omega)
        · have HK2 : Hid (keepAll r.wait r.safe (ks.take (i + 1)) = keepAll r.wait r.safe (ks.take i)) := by
            show _ = _
            rw [HK1.out]
            unfold keep1
            rw [dif_neg (by rw [← HM.out]; omega)]
          clear HK1
          go_wp2
          go_roundw
          case rel => exact ⟨i + 1, by omega, by go_num, by rw [HK2.out]; exact HV, HS⟩
          case measure => (simp [intOf]; try omega)
      · have HK2 : Hid (keepAll r.wait r.safe (ks.take (i + 1)) = keepAll r.wait r.safe (ks.take i)) := by
          show _ = _
          rw [HK1.out]
          unfold keep1
          rw [dif_neg (by omega)]
        clear HK1
        go_wp2
        go_roundw
        case rel => exact ⟨i + 1, by omega, by go_num, by rw [HK2.out]; exact HV, HS⟩
        case measure => (simp [intOf]; try omega)
    · obtain ⟨i1, hi1⟩ : ∃ i1, i1 = i := ⟨_, rfl⟩
      subst hi1
      obtain ⟨A, hA⟩ : ∃ A, A = keepAll r.wait r.safe ks := ⟨_, rfl⟩
      have HAL : Hid (n = A.length) := by rw [hA, keepAll_length]; exact HN
      have HV1 : Hid (RefV wr S be (.slice (some ⟨gs, 0, none⟩) n cs) (.slice (some ⟨gn, 0, none⟩) n cn) (.slice ao m cw) { r with safe := A, seen := A.take 0 ++ r.seen.drop 0 }) := by
        have h1 := HV.out
        rw [List.take_of_length_le (by rw [← HQ.out]; omega), ← hA] at h1
        exact h1
      have HA : Hid (A = keepAll r.wait r.safe ks) := hA
      clear HV hA c0 c1 c2
      have c0 : wr.cell? ⟨be, 0, none⟩ = some (.slice (some ⟨gs, 0, none⟩) n cs) := cell_of_row _ _ _ _ _ _ HV1.out.blk
      go_wp2
      clear c0
      rename ¬ i1 < q => h9
      clear h9
      go_loopw [6] (fun iv_ wr => ∃ i : Nat, i ≤ n ∧ iv_ = .int .i64 (i : Int) ∧ Hid (RefV wr S be (.slice (some ⟨gs, 0, none⟩) n cs) (.slice (some ⟨gn, 0, none⟩) n cn) (.slice ao m cw) { r with safe := A, seen := A.take i ++ r.seen.drop i }) ∧ Hid (Same S w wr)) (fun iv_ _ => n - (intOf iv_).toNat)
      case atStart => exact ⟨0, by omega, rfl, HV1, HS⟩
      case round =>
        clear HV1 HS
        obtain ⟨i, hi, rfl, HV, HS⟩ := hrel
        have c0 : wr.cell? ⟨be, 0, none⟩ = some (.slice (some ⟨gs, 0, none⟩) n cs) := cell_of_row _ _ _ _ _ _ HV.out.blk
        have c1 : wr.cell? ⟨be, 1, none⟩ = some (.slice (some ⟨gn, 0, none⟩) n cn) := cell_of_row _ _ _ _ _ _ HV.out.blk
        by_cases hlt : i < n
        · have hl : (A.take i ++ r.seen.drop i).length = n := by rw [addTo_len _ _ _ (by rw [← HAL.out, ← HNS.out]) (by rw [← HNS.out]; exact hi), ← HNS.out]
          obtain ⟨x, hx⟩ : ∃ x, x = A[i]'(by rw [← HAL.out]; exact hlt) := ⟨_, rfl⟩
          have cx : wr.cell? ⟨gs, i, none⟩ = some (.string x) := by
            obtain ⟨g', c', e, -, hc, -⟩ := HV.out.safe.open (by show 0 < A.length; rw [← HAL.out]; omega)
            cases e
            rw [hc i (by rw [strs_length]; show i < A.length; rw [← HAL.out]; exact hlt), hx]
            simp [strs]
          obtain ⟨z, cz, fz⟩ : ∃ z, wr.cell? ⟨gn, i, none⟩ = some z ∧ wr.frozen? ⟨gn, i, none⟩ = false := by
            obtain ⟨g', c', e, -, hc, hf⟩ := HV.out.seen.open (by show 0 < List.length (A.take i ++ r.seen.drop i); omega)
            cases e
            exact ⟨_, hc i (by rw [strs_length]; show i < List.length (A.take i ++ r.seen.drop i); omega), hf i⟩
          have HX : Hid (x = A[i]'(by rw [← HAL.out]; exact hlt)) := hx
          have HL : Hid ((A.take i ++ r.seen.drop i).length = n) := hl
          clear hx hl
          go_wp2
          go_region
          all_goals
            go_wp2
            go_roundw
            case rel =>
              refine ⟨i + 1, by omega, by go_num, ?_, ?_⟩
              · have h1 := HV.out.setSeen HL.out.symm i x
                have e : (A.take i ++ r.seen.drop i).set i x = A.take (i + 1) ++ r.seen.drop (i + 1) := by
                  rw [HX.out]
                  exact addTo_setG _ _ i (by rw [← HAL.out, ← HNS.out]) (by rw [← HNS.out]; exact hlt)
                have h2 : RefV (wr.setCell ⟨gn, i, none⟩ (.string x)) S be (.slice (some ⟨gs, 0, none⟩) n cs) (.slice (some ⟨gn, 0, none⟩) n cn) (.slice ao m cw) { r with safe := A, seen := A.take (i + 1) ++ r.seen.drop (i + 1) } := by rw [← e]; exact h1
                exact ⟨h2.blk, h2.sb, h2.safe, h2.seen, h2.wait, h2.d1, h2.d2, h2.d3⟩
              · exact (HS.out.setCell ⟨gn, i, none⟩ HGN.out _).drew
            case measure => (simp [intOf]; try omega)
        · have hin : i = n := by omega
          obtain ⟨i1, hi1⟩ : ∃ i1, i1 = i := ⟨_, rfl⟩
          subst hi1
          have HV1 : Hid (RefV wr S be (.slice (some ⟨gs, 0, none⟩) n cs) (.slice (some ⟨gn, 0, none⟩) n cn) (.slice ao m cw) { r with safe := A, seen := A }) := by
            have h1 := HV.out
            have e : A.take i1 ++ r.seen.drop i1 = A := by
              rw [hin, List.take_of_length_le (by rw [← HAL.out]; exact Nat.le_refl _), List.drop_eq_nil_of_le (by rw [← HNS.out]; exact Nat.le_refl _), List.append_nil]
            rw [e] at h1
            exact h1
          have hbk := HV1.out.blk
          have c2 : wr.cell? ⟨be, 2, none⟩ = some (.slice ao m cw) := cell_of_row _ _ _ _ _ _ hbk
          have c4 : wr.cell? ⟨be, 4, none⟩ = some (.bool r.lit) := cell_of_row _ _ _ _ _ _ hbk
          have c5 : wr.cell? ⟨be, 5, none⟩ = some (.bool r.down) := cell_of_row _ _ _ _ _ _ hbk
          have f2 := frozen_of_row wr be 2 _ _ hbk
          have f4 := frozen_of_row wr be 4 _ _ hbk
          have f5 := frozen_of_row wr be 5 _ _ hbk
          clear HV hin hbk
          go_wp2
          go_end0
          have h1 := HV1.out.noWait
          have h2 := heap_setCell_same _ be 4 _ _ (.bool false) h1.blk
          have s2 : Same (· = be) (wr.setCell ⟨be, 2, none⟩ (.slice none 0 0)) (((wr.setCell ⟨be, 2, none⟩ (.slice none 0 0)).setCell ⟨be, 4, none⟩ (.bool false)).setCell ⟨be, 5, none⟩ (.bool false)) := Same.setCell (S := (· = be)) (Same.setCell (S := (· = be)) (Same.refl _ _) ⟨be, 4, none⟩ rfl _) ⟨be, 5, none⟩ rfl _
          have h3 := heap_setCell_same _ be 5 _ _ (.bool false) h2
          have h4 := h1.turn s2 r.left false false (by rw [h3]; rfl)
          have ec : r.crash ks = { r with safe := A, seen := A, wait := [], lit := false, down := false } := by unfold RDsk.crash; rw [← HA.out]
          refine ⟨rfl, ?_, (HS.out.setCell ⟨be, 2, none⟩ HV1.out.sb _).trans (s2.weak (by rintro g rfl; exact HV1.out.sb))⟩
          rw [ec]
          exact ⟨_, _, _, h4⟩
end Go.Proofs.YtapijhhmjjplmaaGreatDoor
