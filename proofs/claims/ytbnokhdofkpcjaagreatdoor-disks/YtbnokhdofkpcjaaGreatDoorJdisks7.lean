/- OWN TEXT: joined of: Args Law Upto Does SumsStep Great SumsFacts DisksFacts DMem RefD1. -/
import Derived.Test.YtbnokhdofkpcjaaGreatDoorProg
import Derived.ProofKit
import Derived.Deep.Slices
import Derived.SizedLaws
import Derived.Deep.RegionWith
import Derived.Test.YtbnokhdofkpcjaaGreatDoorRows
import Derived.LaidMore
import Derived.LaidLaws
import Derived.LaidHandle
import Derived.OpenShut
import Derived.Lay
import Derived.JoinedOf
import Derived.Maps.AppendAt
import Derived.Test.YtbnokhdofkpcjaaGreatDoorJdisks6
namespace Go.Proofs.YtbnokhdofkpcjaaGreatDoor
open Go.ChangeShapes Go.WideShapes Go.RowKit Go.Deep

/-- One step of a script. -/
structure Stp where
  kind : Int
  a : Int
  b : Int
  d : Int
  s : ByteArray
  t : ByteArray

/-- Is an int in the range of a Go int? -/
def inR (n : Int) : Prop := -9223372036854775808 ≤ n ∧ n ≤ 9223372036854775807

/-- The step x lies at ⟨bl, o⟩. -/
structure StpAt (w : World) (bl o : Nat) (x : Stp) : Prop where
  c0 : w.cell? ⟨bl, o, none⟩ = some (.int .i64 x.kind)
  c1 : w.cell? ⟨bl, o + 1, none⟩ = some (.int .i64 x.a)
  c2 : w.cell? ⟨bl, o + 2, none⟩ = some (.int .i64 x.b)
  c3 : w.cell? ⟨bl, o + 3, none⟩ = some (.int .i64 x.d)
  c4 : w.cell? ⟨bl, o + 4, none⟩ = some (.string x.s)
  c5 : w.cell? ⟨bl, o + 5, none⟩ = some (.string x.t)
  rk : inR x.kind
  ra : inR x.a
  rb : inR x.b
  rd : inR x.d
  ns : x.s.size ≤ 140737488351232
  nt : x.t.size ≤ 140737488351232

/-- The script's value, and what lies there. -/
def Scr (w : World) (v : Value) (l : List Stp) : Prop :=
  (∃ ao cap, v = .slice ao 0 cap ∧ l = []) ∨ ∃ bl off cap, v = .slice (some ⟨bl, off, none⟩) l.length cap ∧ 0 < l.length ∧ l.length ≤ 140737488351232 ∧ ∀ i (h : i < l.length), StpAt w bl (off + i * 6) l[i]

theorem StpAt.on {B : Nat} {w w' : World} {bl o : Nat} {x : Stp} (h : StpAt w bl o x) (hb : Below B w w') (hB : bl < B) : StpAt w' bl o x :=
  ⟨by rw [hb.cell (by exact hB)]; exact h.c0, by rw [hb.cell (by exact hB)]; exact h.c1, by rw [hb.cell (by exact hB)]; exact h.c2, by rw [hb.cell (by exact hB)]; exact h.c3,
   by rw [hb.cell (by exact hB)]; exact h.c4, by rw [hb.cell (by exact hB)]; exact h.c5, h.rk, h.ra, h.rb, h.rd, h.ns, h.nt⟩

theorem opCells : Tryz.prog.cellsOf 67 = 6 := by kernel_rfl
theorem opBytes : Tryz.prog.bytesOf 67 = 64 := by kernel_rfl
theorem intCells : Tryz.prog.cellsOf 3 = 1 := by kernel_rfl
theorem strCells1 : Tryz.prog.cellsOf 9 = 1 := by kernel_rfl

theorem inR_of {n : Int} (h : (Lit.int .i64 n).wf = true) : inR n := by
  simp [Lit.wf, IntKind.min, IntKind.max, IntKind.signed, IntKind.bits] at h
  unfold inR
  omega

section
variable {H : Type} {enc : TypeId × Value → H} {W : World} {sp : Nat → Bool} {held : Bool}

theorem six {cs : List Value} (h : cs.length = 6) : ∃ c0 c1 c2 c3 c4 c5, cs = [c0, c1, c2, c3, c4, c5] := by
  match cs, h with
  | [c0, c1, c2, c3, c4, c5], _ => exact ⟨c0, c1, c2, c3, c4, c5, rfl⟩

/-- One step out of its reading. -/
theorem open_stp {n : Nat} {ad : Addr} {cs : List Value} {D : DataW H} {Pl : List MemPlace} (hcs : W.cells? 0 ad 6 = some cs)
    (h : DataW.trod enc Tryz.prog W 0 sp held n 67 cs = some (D, Pl)) (hw : (D.weights Tryz.prog 67).all (· ≤ reachBytes) = true) :
    ∃ x, StpAt W ad.block ad.off x ∧ ad.spot = none := by
  obtain ⟨bl, o, sp0⟩ := ad
  obtain ⟨xs, m, _, hx, hl, hlen, hf⟩ := DataW.trod_struct Tryz.underlying67 h
  rw [opCells] at hl
  obtain ⟨c0, c1, c2, c3, c4, c5, rfl⟩ := six hl
  match xs, hlen with
  | [y0, y1, y2, y3, y4, y5], _ =>
    have f0 : DataW.trod enc Tryz.prog W 0 sp held m 3 [c0] = some y0 := by simpa [intCells] using hf 0 _ rfl
    have f1 : DataW.trod enc Tryz.prog W 0 sp held m 3 [c1] = some y1 := by simpa [intCells] using hf 1 _ rfl
    have f2 : DataW.trod enc Tryz.prog W 0 sp held m 3 [c2] = some y2 := by simpa [intCells] using hf 2 _ rfl
    have f3 : DataW.trod enc Tryz.prog W 0 sp held m 3 [c3] = some y3 := by simpa [intCells] using hf 3 _ rfl
    have f4 : DataW.trod enc Tryz.prog W 0 sp held m 9 [c4] = some y4 := by simpa [strCells1] using hf 4 _ rfl
    have f5 : DataW.trod enc Tryz.prog W 0 sp held m 9 [c5] = some y5 := by simpa [strCells1] using hf 5 _ rfl
    obtain ⟨k0, e0, -, w0⟩ := DataW.trod_int Tryz.underlying3 f0
    obtain ⟨k1, e1, -, w1⟩ := DataW.trod_int Tryz.underlying3 f1
    obtain ⟨k2, e2, -, w2⟩ := DataW.trod_int Tryz.underlying3 f2
    obtain ⟨k3, e3, -, w3⟩ := DataW.trod_int Tryz.underlying3 f3
    obtain ⟨s4, e4, g4, -⟩ := DataW.trod_string Tryz.underlying9 f4
    obtain ⟨s5, e5, g5, -⟩ := DataW.trod_string Tryz.underlying9 f5
    simp only [List.cons.injEq, and_true] at e0 e1 e2 e3 e4 e5
    subst e0 e1 e2 e3 e4 e5
    simp only [Prod.mk.injEq] at hx
    have hwe : DataW.weights Tryz.prog 67 D = DataW.weightsEach Tryz.prog [3, 3, 3, 3, 9, 9] [y0.1, y1.1, y2.1, y3.1, y4.1, y5.1] := by
      rw [hx.1]
      simp [DataW.weights, Tryz.underlying67]
    rw [hwe] at hw
    have hs4 : s4.size ≤ 140737488351232 := by
      have := List.all_eq_true.1 hw s4.data.toList.length (DataW.weights_mem_each (j := 4) (t := 9) (d := y4.1) rfl rfl _ (by rw [g4]; simp [DataW.weights]))
      rw [Array.length_toList, ByteArray.size_data] at this
      exact of_decide_eq_true this
    have hs5 : s5.size ≤ 140737488351232 := by
      have := List.all_eq_true.1 hw s5.data.toList.length (DataW.weights_mem_each (j := 5) (t := 9) (d := y5.1) rfl rfl _ (by rw [g5]; simp [DataW.weights]))
      rw [Array.length_toList, ByteArray.size_data] at this
      exact of_decide_eq_true this
    have hc : ∀ j, j < 6 → W.cell? (Addr.add ⟨bl, o, sp0⟩ j) = [Value.int .i64 k0, .int .i64 k1, .int .i64 k2, .int .i64 k3, .string s4, .string s5][j]? := by
      intro j hj
      have h6 := hcs
      unfold World.cells? at h6
      rw [if_pos (Nat.zero_le _)] at h6
      have := mapM_some_get h6 j j (List.getElem?_range hj)
      exact this
    have hsp : sp0 = none := by
      have h0 := hc 0 (by omega)
      cases sp0 with
      | none => rfl
      | some q =>
        exfalso
        unfold World.cell? at h0
        split at h0
        · simp [Addr.add] at h0
        · cases h0
    subst hsp
    refine ⟨⟨k0, k1, k2, k3, s4, s5⟩, ⟨?_, ?_, ?_, ?_, ?_, ?_, inR_of w0, inR_of w1, inR_of w2, inR_of w3, hs4, hs5⟩, rfl⟩
    · exact hc 0 (by omega)
    · exact hc 1 (by omega)
    · exact hc 2 (by omega)
    · exact hc 3 (by omega)
    · exact hc 4 (by omega)
    · exact hc 5 (by omega)

/-- The script out of its reading. -/
theorem open_script {fuel : Nat} {v : Value} {d : DataW H} {p : List MemPlace} (h : DataW.trod enc Tryz.prog W 0 sp held fuel 22 v.cells.toList = some (d, p))
    (hv : ∃ ao len cap, v = .slice ao len cap) (hw : (d.weights Tryz.prog 22).all (· ≤ reachBytes) = true) : ∃ l, Scr W v l := by
  obtain ⟨ao, len, cap, rfl⟩ := hv
  rcases open_slice Tryz.underlying22 h with ⟨h0, _⟩ | ⟨a, len', cap', m, n, D, Pl, h0, _, hlc, _, hm, hx, hel⟩
  · simp [Value.cells] at h0
    obtain ⟨rfl, rfl, rfl⟩ := h0
    exact ⟨[], .inl ⟨_, _, rfl, rfl⟩⟩
  · simp [Value.cells] at h0
    obtain ⟨rfl, rfl, rfl⟩ := h0
    simp only [Prod.mk.injEq] at hx
    have hm' : len ≤ m := by rw [hm]; split <;> omega
    have hwe := hw
    rw [hx.1] at hwe
    simp only [DataW.weights, Tryz.underlying22, List.all_cons, List.all_append, Bool.and_eq_true] at hwe
    obtain ⟨bl, off, spt⟩ := a
    have hall : ∀ i, i < len → ((D i).weights Tryz.prog 67).all (· ≤ reachBytes) = true := by
      intro i hi
      refine List.all_eq_true.2 fun n hn => List.all_eq_true.1 hwe.2.1 n ?_
      have hmem : D i ∈ (List.range len).map D := List.mem_map.2 ⟨i, List.mem_range.2 hi, rfl⟩
      generalize (List.range len).map D = L at hmem
      clear hwe hw hx
      induction L with
      | nil => cases hmem
      | cons x r ih =>
        simp only [DataW.weightsAll, List.mem_append]
        rcases List.mem_cons.1 hmem with h1 | h1
        · exact .inl (h1 ▸ hn)
        · exact .inr (ih h1)
    have hone : ∀ i, ∃ x : Stp, i < len → StpAt W bl (off + i * 6) x ∧ (i = 0 → spt = none) := by
      intro i
      by_cases hi : i < len
      · obtain ⟨cs', hc1, hc2⟩ := hel i (by omega)
        rw [opCells] at hc1
        obtain ⟨x, hx1, hx2⟩ := open_stp hc1 hc2 (hall i hi)
        refine ⟨x, fun _ => ⟨?_, fun h0 => ?_⟩⟩
        · have e1 : (Addr.add ⟨bl, off, spt⟩ (i * 6)).block = bl := by unfold Addr.add; split <;> rfl
          have e2 : (Addr.add ⟨bl, off, spt⟩ (i * 6)).off = off + i * 6 := by
            unfold Addr.add
            split
            · rename_i h; rw [h]; rfl
            · rfl
          rw [e1, e2] at hx1
          exact hx1
        · subst h0
          exact hx2
      · exact ⟨⟨0, 0, 0, 0, ByteArray.empty, ByteArray.empty⟩, fun h => absurd h hi⟩
    obtain ⟨X, hX⟩ := Classical.axiomOfChoice hone
    have hlen64 : len ≤ 140737488351232 := by
      have h1 := of_decide_eq_true hwe.1
      rw [opBytes, List.length_map, List.length_range] at h1
      unfold reachBytes at h1
      omega
    by_cases h0 : len = 0
    · subst h0
      exact ⟨[], .inl ⟨_, _, rfl, rfl⟩⟩
    · have hsp : spt = none := (hX 0 (by omega)).2 rfl
      subst hsp
      refine ⟨(List.range len).map X, .inr ⟨bl, off, cap, by simp, by rw [List.length_map, List.length_range]; omega, by simpa using hlen64, fun i hi => ?_⟩⟩
      have hi' : i < len := by simpa using hi
      rw [List.getElem_map, List.getElem_range]
      exact (hX i hi').1
end
end Go.Proofs.YtbnokhdofkpcjaaGreatDoor
namespace Go.Proofs.YtbnokhdofkpcjaaGreatDoor
open Go.RowKit

abbrev stpV (x : Stp) : Value := .agg #[.int .i64 x.kind, .int .i64 x.a, .int .i64 x.b, .int .i64 x.d, .string x.s, .string x.t]

/-- How much a script is, up to step i. -/
def bulk (l : List Stp) : Nat := (l.map fun x => x.s.size + x.t.size).sum
theorem bulk_succ (l : List Stp) (i : Nat) (h : i < l.length) : bulk (l.take (i + 1)) = bulk (l.take i) + (l[i].s.size + l[i].t.size) := by
  unfold bulk
  rw [List.take_succ_eq_append_getElem h, List.map_append, List.sum_append]
  simp

/-- What 'small' comes to. -/
def SmallPost (l : List Stp) (w : World) (e : Ending) (w' : World) : Prop := ∃ r : Bool, e = .returned (.bool r) ∧ (r = true → l.length + bulk l ≤ 262144) ∧ Below w.heap.size w w'

set_option maxRecDepth 100000 in
set_option maxHeartbeats 1000000 in
theorem small_any (v : Value) (l : List Stp) (w : World) (hs : Scr w v l) :
    Calls Tryz.prog 22 #[v] w fun e w' => SmallPost l w e w' := by
  rcases hs with ⟨ao, cap, rfl, rfl⟩ | ⟨bl, off, cap, rfl, hpos, hlen, hcell⟩
  · go_enter Tryz.func22, Tryz.ntmps22
    go_wp2
    go_loop [4] (fun i => i = .int .i64 0) (fun _ => 0)
    case atStart => rfl
    case round =>
      obtain rfl := hrel
      go_wp2
      go_ret
      exact ⟨true, rfl, fun _ => by simp [bulk], Below.refl _ _⟩
  · obtain ⟨n, hn⟩ : ∃ n, n = l.length := ⟨_, rfl⟩
    have HN : Hid (n = l.length) := hn
    have HC : Hid (∀ i (h : i < l.length), StpAt w bl (off + i * 6) l[i]) := hcell
    have hlen' : (n : Int) ≤ 140737488351232 := by omega
    rw [← hn]
    clear hn hcell hlen hpos
    by_cases hbig : n ≤ 262144
    · have hbi : (n : Int) ≤ 262144 := by omega
      go_enter Tryz.func22, Tryz.ntmps22
      go_wp2
      go_loopw [3, 4] (fun nv i wr => ∃ m q : Nat, m ≤ n ∧ i = .int .i64 m ∧ nv = .int .i64 (q : Int) ∧ q ≤ 262144 ∧ Hid (q = n + bulk (l.take m)) ∧ Hid (∃ nq, wr = w.drewN nq)) (fun _ i _ => n - (intOf i).toNat)
      case atStart => exact ⟨0, n, by omega, rfl, rfl, hbig, rfl, ⟨0, rfl⟩⟩
      case round =>
        obtain ⟨m, q, hm, rfl, rfl, hq, Hq, ⟨nq, hnq⟩⟩ := hrel
        subst hnq
        by_cases hlt : m < n
        · have hml : m < l.length := by have := HN.out; omega
          obtain ⟨x, hx⟩ : ∃ x, x = l[m] := ⟨_, rfl⟩
          have hat := HC.out m hml
          rw [← hx] at hat
          have c4 := hat.c4
          have c5 := hat.c5
          have n4 : (x.s.size : Int) ≤ 140737488351232 := by have := hat.ns; omega
          have n5 : (x.t.size : Int) ≤ 140737488351232 := by have := hat.nt; omega
          have HX : Hid (x = l[m]) := hx
          clear hat hx
          by_cases hle : q + x.s.size + x.t.size ≤ 262144
          · have hle' : (q : Int) + (x.s.size : Int) + (x.t.size : Int) ≤ 262144 := by omega
            go_wp2
            go_quiet (fail)
            go_wp2
            go_roundw
            case rel =>
              refine ⟨m + 1, q + x.s.size + x.t.size, by omega, by go_num, by go_num, hle, ?_, ?_⟩
              · show _ = _
                rw [bulk_succ l m hml, ← HX.out, Hq.out]
                omega
              · exact ⟨_, rfl⟩
            case measure => (simp [intOf]; try omega)
          · have hle' : 262144 < (q : Int) + (x.s.size : Int) + (x.t.size : Int) := by omega
            go_wp2
            go_quiet (fail)
            go_wp2
            go_ret
            exact ⟨false, rfl, (fun h => by cases h), ⟨rfl, rfl, rfl, Nat.le_refl _, fun _ _ => rfl⟩⟩
        · go_wp2
          go_ret
          refine ⟨true, rfl, fun _ => ?_, ⟨rfl, rfl, rfl, Nat.le_refl _, fun _ _ => rfl⟩⟩
          have h1 := Hq.out
          have h2 := HN.out
          rw [List.take_of_length_le (by omega)] at h1
          omega
    · have hbi : 262144 < (n : Int) := by omega
      go_enter Tryz.func22, Tryz.ntmps22
      go_wp2
      go_ret
      exact ⟨false, rfl, (fun h => by cases h), Below.refl _ _⟩
end Go.Proofs.YtbnokhdofkpcjaaGreatDoor
namespace Go.Proofs.YtbnokhdofkpcjaaGreatDoor
open Go.RowKit

theorem Scr.on {w w' : World} {v : Value} {l : List Stp} (h : Scr w v l) (hb : Below w.heap.size w w') : Scr w' v l := by
  rcases h with h | ⟨bl, off, cap, rfl, hpos, hlen, hcell⟩
  · exact .inl h
  · refine .inr ⟨bl, off, cap, rfl, hpos, hlen, fun i hi => (hcell i hi).on hb ?_⟩
    have h0 := (hcell i hi).c0
    rcases Nat.lt_or_ge bl w.heap.size with h' | h'
    · exact h'
    · simp [World.cell?, Array.getElem?_eq_none h'] at h0

/-- The law's world as UpTo lays it, ahead of the maker. -/
def freshW : Array Value := #[.pointer none, .slice none 0 0, .slice none 0 0, .slice none 0 0, .int .i64 0, .int .i64 262144]

/-- What the maker leaves. -/
structure Made (w w1 : World) (b : Nat) (kv hv : Value) : Prop where
  le : w.heap.size ≤ b
  blk : w1.heap[b]? = some (.cells #[kv, hv] 142 (0, 0))
  ok : w1.ownsRow w.heap.size 3 1 kv 64 (iv (kc 64))
  oh : w1.ownsRow w.heap.size 3 1 hv 8 (iv (hc 8))
  kh : kv.ownBlock ≠ hv.ownBlock
  kb : kv.ownBlock ≠ some b
  hb : hv.ownBlock ≠ some b
  below : Below w.heap.size w w1

/-- What is asked of a law's steps: Inv holds at the start, and every step that is made answers true and keeps it. -/
structure Steps (w : World) (made : Int) (l : List Stp) (Inv : World → Prop) (D : Stp → Bool) : Prop where
  below : ∀ W, Inv W → Below w.heap.size w W
  left : ∀ W, Inv W → ∃ n : Int, W.cell? ⟨w.heap.size, 5, none⟩ = some (.int .i64 n)
  mono : ∀ W W', Inv W → Below W.heap.size W W' → Inv W'
  init : ∀ w1 b kv hv, Made (w.alloc (.cells freshW 73)) w1 b kv hv → Inv (w1.setCell ⟨w.heap.size, 0, none⟩ (.pointer (some ⟨b, 0, none⟩)))
  does : ∀ x ∈ l, 1 ≤ x.kind → x.kind ≤ 22 → ∀ W, Calls Tryz.prog 40 #[stpV x, .int .i64 made] W fun e W' => e = .returned (.bool (D x)) ∧ Below W.heap.size W W'
  step : ∀ x ∈ l, 1 ≤ x.kind → x.kind ≤ 22 → D x = true → ∀ W, Inv W → Calls Tryz.prog 41 #[.pointer (some ⟨w.heap.size, 0, none⟩), stpV x] W fun e W' => e = .returned (.bool true) ∧ Inv W'
  looks : ∀ W, Inv W → Calls Tryz.prog 42 #[.pointer (some ⟨w.heap.size, 0, none⟩)] W fun e W' => e = .returned (.bool true) ∧ Inv W'

def UptoPost (w : World) (e : Ending) (w' : World) : Prop := e = .returned (.int .i64 (-1)) ∧ Below w.heap.size w w'

set_option maxRecDepth 100000 in
set_option maxHeartbeats 2000000 in
theorem upto_of (made held : Int) (lists : Bool) (v : Value) (l : List Stp) (w : World) (Inv : World → Prop) (D : Stp → Bool) (hs : Scr w v l) (hl : l.length ≤ 262144) (St : Steps w made l Inv D) :
    Calls Tryz.prog 23 #[v, .int .i64 made, .int .i64 held, .bool lists] w fun e w' => UptoPost w e w' := by
  rcases hs with ⟨ao, cap, rfl, rfl⟩ | ⟨bl, off, cap, rfl, hpos, hlen, hcell⟩
  · go_enter Tryz.func23, Tryz.ntmps23
    go_wp2_with fail
    refine (maker_any _).mono ?_
    rintro e w1 ⟨b, kv, hv, rfl, h1, h2, h3, h4, h5, h6, h7, h8⟩
    have HI : Hid (Inv (w1.setCell ⟨w.heap.size, 0, none⟩ (.pointer (some ⟨b, 0, none⟩)))) := St.init w1 b kv hv ⟨h1, h2, h3, h4, h5, h6, h7, h8⟩
    have c0 : w1.cell? ⟨w.heap.size, 0, none⟩ = some (.pointer none) := by
      rw [h8.cell (by simp)]; simp
    have f0 : w1.frozen? ⟨w.heap.size, 0, none⟩ = false := by
      rw [h8.frozen (by simp)]; simp
    clear h1 h2 h3 h4 h5 h6 h7 h8
    go_wp2
    go_loop [10] (fun i => i = .int .i64 0) (fun _ => 0)
    case atStart => rfl
    case round =>
      obtain rfl := hrel
      go_wp2
      go_ret
      exact ⟨rfl, St.below _ HI.out⟩
  · obtain ⟨n, hn⟩ : ∃ n, n = l.length := ⟨_, rfl⟩
    have HN : Hid (n = l.length) := hn
    have HC : Hid (∀ i (h : i < l.length), StpAt w bl (off + i * 6) l[i]) := hcell
    have hbi : (n : Int) ≤ 262144 := by omega
    have hbl : bl < w.heap.size := by
      have h0 := (hcell 0 hpos).c0
      rcases Nat.lt_or_ge bl w.heap.size with h' | h'
      · exact h'
      · simp [World.cell?, Array.getElem?_eq_none h'] at h0
    rw [← hn]
    clear hn hcell hlen hpos hl
    go_enter Tryz.func23, Tryz.ntmps23
    go_wp2_with fail
    refine (maker_any _).mono ?_
    rintro e w1 ⟨b, kv, hv, rfl, h1, h2, h3, h4, h5, h6, h7, h8⟩
    have HI : Hid (Inv (w1.setCell ⟨w.heap.size, 0, none⟩ (.pointer (some ⟨b, 0, none⟩)))) := St.init w1 b kv hv ⟨h1, h2, h3, h4, h5, h6, h7, h8⟩
    have c0 : w1.cell? ⟨w.heap.size, 0, none⟩ = some (.pointer none) := by
      rw [h8.cell (by simp)]; simp
    have f0 : w1.frozen? ⟨w.heap.size, 0, none⟩ = false := by
      rw [h8.frozen (by simp)]; simp
    clear h1 h2 h3 h4 h5 h6 h7 h8
    go_wp2
    clear c0 f0
    go_loopw [10] (fun iv_ wr => ∃ i : Nat, i ≤ n ∧ iv_ = .int .i64 i ∧ Hid (Inv wr)) (fun i _ => n - (intOf i).toNat)
    case atStart => exact ⟨0, by omega, rfl, HI⟩
    case round =>
      clear HI
      obtain ⟨i, hi, rfl, HI⟩ := hrel
      obtain ⟨left, hleft⟩ := St.left _ HI.out
      by_cases hlt : i < n
      · have hil : i < l.length := by have := HN.out; omega
        obtain ⟨x, hx⟩ : ∃ x, x = l[i] := ⟨_, rfl⟩
        have hs0 := HC.out i hil
        have hmem : l[i] ∈ l := List.getElem_mem _
        rw [← hx] at hs0 hmem
        have HS : Hid (StpAt w bl (off + i * 6) x) := hs0
        have hat := hs0.on (St.below _ HI.out) hbl
        clear hx hs0
        by_cases hl0 : 0 < left
        · have c0 := hat.c0
          have c1 := hat.c1
          have c2 := hat.c2
          have c3 := hat.c3
          have c4 := hat.c4
          have c5 := hat.c5
          have HM : Hid (x ∈ l) := hmem
          clear hat hmem
          by_cases hk1 : x.kind < 1
          · go_wp2
            go_roundw
            case rel => exact ⟨i + 1, by omega, by go_num, HI⟩
            case measure => (simp [intOf]; try omega)
          · by_cases hk2 : 22 < x.kind
            · go_wp2
              go_roundw
              case rel => exact ⟨i + 1, by omega, by go_num, HI⟩
              case measure => (simp [intOf]; try omega)
            · go_wp2_with fail
              refine (St.does x HM.out (by omega) (by omega) _).mono ?_
              rintro e w2 ⟨rfl, hw2⟩
              have HI2 : Hid (Inv w2) := St.mono _ _ HI.out hw2
              clear hw2 HI c0 c1 c2 c3 c4 c5 hleft
              cases hd : D x
              · clear hd
                go_wp2
                go_roundw
                case rel => exact ⟨i + 1, by omega, by go_num, HI2⟩
                case measure => (simp [intOf]; try omega)
              · have HD : Hid (D x = true) := hd
                have hat := HS.out.on (St.below _ HI2.out) hbl
                have c0 := hat.c0
                have c1 := hat.c1
                have c2 := hat.c2
                have c3 := hat.c3
                have c4 := hat.c4
                have c5 := hat.c5
                clear hd hat
                go_wp2_with fail
                refine (St.step x HM.out (by omega) (by omega) HD.out _ HI2.out).mono ?_
                rintro e w3 ⟨rfl, hw3⟩
                have HI3 : Hid (Inv w3) := hw3
                clear hw3 HI2 c0 c1 c2 c3 c4 c5
                go_wp2_with fail
                refine (St.looks _ HI3.out).mono ?_
                rintro e w4 ⟨rfl, hw4⟩
                have HI4 : Hid (Inv w4) := hw4
                clear hw4 HI3
                go_wp2
                go_roundw
                case rel => exact ⟨i + 1, by omega, by go_num, HI4⟩
                case measure => (simp [intOf]; try omega)
        · clear hat hmem
          go_wp2
          go_ret
          exact ⟨rfl, St.below _ HI.out⟩
      · go_wp2
        go_ret
        exact ⟨rfl, St.below _ HI.out⟩

def PlaysPost (w : World) (e : Ending) (w' : World) : Prop := e = .returned (.bool true) ∧ Below w.heap.size w w'

/-- 'plays', where the steps stand in whatever world 'small' leaves. -/
theorem plays_of (made held : Int) (lists : Bool) (v : Value) (l : List Stp) (w : World) (hs : Scr w v l)
    (St : ∀ w1, Below w.heap.size w w1 → l.length + bulk l ≤ 262144 → ∃ Inv D, Steps w1 made l Inv D) :
    Calls Tryz.prog 13 #[v, .int .i64 made, .int .i64 held, .bool lists] w fun e w' => PlaysPost w e w' := by
  have hv : ∃ ao n cap, v = .slice ao n cap := by
    rcases hs with ⟨ao, cap, rfl, _⟩ | ⟨bl, off, cap, rfl, _⟩
    · exact ⟨_, _, _, rfl⟩
    · exact ⟨_, _, _, rfl⟩
  obtain ⟨ao, n, cap, rfl⟩ := hv
  have HS : Hid (Scr w (.slice ao n cap) l) := hs
  have HST : Hid (∀ w1, Below w.heap.size w w1 → l.length + bulk l ≤ 262144 → ∃ Inv D, Steps w1 made l Inv D) := St
  clear hs St
  go_enter Tryz.func13, Tryz.ntmps13
  go_wp2_with fail
  refine (small_any _ l _ HS.out).mono ?_
  rintro e w1 ⟨r, rfl, hr, hb⟩
  have HB : Hid (Below w.heap.size w w1) := hb
  cases r
  · clear hr hb
    go_wp2
    go_ret
    exact ⟨rfl, HB.out⟩
  · have HR : Hid (l.length + bulk l ≤ 262144) := hr rfl
    clear hr hb
    go_wp2_with fail
    obtain ⟨Inv, D, S⟩ := HST.out w1 HB.out HR.out
    refine (upto_of made held lists _ l w1 Inv D (Scr.on HS.out HB.out) (by have := HR.out; omega) S).mono ?_
    rintro e w2 ⟨rfl, hb2⟩
    have HB2 : Hid (Below w.heap.size w w2) := HB.out.trans (hb2.mono HB.out.size)
    clear hb2 S
    go_wp2
    go_ret
    exact ⟨rfl, HB2.out⟩
end Go.Proofs.YtbnokhdofkpcjaaGreatDoor
namespace Go.Proofs.YtbnokhdofkpcjaaGreatDoor
open Go.RowKit

def D6 (x : Stp) : Bool := decide (x.kind = 1) || decide (x.kind = 2)
def D4088 (x : Stp) : Bool := decide (3 ≤ x.kind) && decide (x.kind ≤ 11)

theorem does6 (x : Stp) (h1 : 1 ≤ x.kind) (h2 : x.kind ≤ 22) (W : World) :
    Calls Tryz.prog 40 #[stpV x, .int .i64 6] W fun e W' => e = .returned (.bool (D6 x)) ∧ Below W.heap.size W W' := by
  obtain ⟨k, a, b, d, s, t⟩ := x
  have hk : k = 1 ∨ k = 2 ∨ k = 3 ∨ k = 4 ∨ k = 5 ∨ k = 6 ∨ k = 7 ∨ k = 8 ∨ k = 9 ∨ k = 10 ∨ k = 11 ∨ k = 12 ∨ k = 13 ∨ k = 14 ∨ k = 15 ∨ k = 16 ∨ k = 17 ∨ k = 18 ∨ k = 19 ∨ k = 20 ∨ k = 21 ∨ k = 22 := by simp only at h1 h2; omega
  clear h1 h2
  rcases hk with rfl | rfl | rfl | rfl | rfl | rfl | rfl | rfl | rfl | rfl | rfl | rfl | rfl | rfl | rfl | rfl | rfl | rfl | rfl | rfl | rfl | rfl
  all_goals
    go_enter Tryz.func40, Tryz.ntmps40
    go_wp2
    all_goals
      go_ret
      exact ⟨rfl, (Below.refl _ _).alloc (Nat.le_refl _) _⟩

theorem does4088 (x : Stp) (h1 : 1 ≤ x.kind) (h2 : x.kind ≤ 22) (W : World) :
    Calls Tryz.prog 40 #[stpV x, .int .i64 4088] W fun e W' => e = .returned (.bool (D4088 x)) ∧ Below W.heap.size W W' := by
  obtain ⟨k, a, b, d, s, t⟩ := x
  have hk : k = 1 ∨ k = 2 ∨ k = 3 ∨ k = 4 ∨ k = 5 ∨ k = 6 ∨ k = 7 ∨ k = 8 ∨ k = 9 ∨ k = 10 ∨ k = 11 ∨ k = 12 ∨ k = 13 ∨ k = 14 ∨ k = 15 ∨ k = 16 ∨ k = 17 ∨ k = 18 ∨ k = 19 ∨ k = 20 ∨ k = 21 ∨ k = 22 := by simp only at h1 h2; omega
  clear h1 h2
  rcases hk with rfl | rfl | rfl | rfl | rfl | rfl | rfl | rfl | rfl | rfl | rfl | rfl | rfl | rfl | rfl | rfl | rfl | rfl | rfl | rfl | rfl | rfl
  all_goals
    go_enter Tryz.func40, Tryz.ntmps40
    go_wp2
    all_goals
      go_ret
      exact ⟨rfl, (Below.refl _ _).alloc (Nat.le_refl _) _⟩

theorem looks_nil (bw : Nat) (W : World) (h3 : W.cell? ⟨bw, 3, none⟩ = some (.slice none 0 0)) :
    Calls Tryz.prog 42 #[.pointer (some ⟨bw, 0, none⟩)] W fun e W' => e = .returned (.bool true) ∧ W = W' := by
  go_enter Tryz.func42, Tryz.ntmps42
  go_wp2
  go_loop [3] (fun i => i = .int .i64 0) (fun _ => 0)
  case atStart => rfl
  case round =>
    obtain rfl := hrel
    go_wp2
    go_ret
    exact ⟨rfl, rfl⟩
end Go.Proofs.YtbnokhdofkpcjaaGreatDoor
namespace Go.Proofs.YtbnokhdofkpcjaaGreatDoor
open Go.RowKit

theorem row_of_own {w : World} {B n : Nat} {e : TypeId} {v : Value} {l : List Nat} (h : w.ownsRow B e 1 v n (iv l)) (hn : 0 < n) : ∃ g cap, v = .slice (some ⟨g, 0, none⟩) n cap ∧ B ≤ g ∧ Row w g (ints l) := by
  obtain ⟨_, h | ⟨g, cap, cur, hv, hB, hg, _, _, _, htk⟩⟩ := h
  · omega
  · refine ⟨g, cap, hv, hB, e, cur.toList.drop (n * 1), ?_⟩
    have e1 : (ints l).map (Value.int .i64) = iv l := by simp [ints, iv]
    rw [e1, ← htk, List.take_append_drop]
    exact hg

/-- What the law's world holds ahead of every step of Sums. -/
def wRow (b : Nat) : Array Value := #[.pointer (some ⟨b, 0, none⟩), .slice none 0 0, .slice none 0 0, .slice none 0 0, .int .i64 0, .int .i64 262144]
structure SInv (w W : World) : Prop where
  below : Below w.heap.size w W
  ex : ∃ b gk ck gh ch, W.heap[w.heap.size]? = some (.cells (wRow b) 73 (0, 0)) ∧
    W.heap[b]? = some (.cells #[.slice (some ⟨gk, 0, none⟩) 64 ck, .slice (some ⟨gh, 0, none⟩) 8 ch] 142 (0, 0)) ∧ Row W gk (ints roundL) ∧ Row W gh (ints startL)
theorem lt_of_heap {W : World} {b : Nat} {o : Obj} (h : W.heap[b]? = some o) : b < W.heap.size := (Array.getElem?_eq_some_iff.1 h).1
theorem SInv.mono {w W W' : World} (h : SInv w W) (hb : Below W.heap.size W W') : SInv w W' := by
  obtain ⟨h1, b, gk, ck, gh, ch, h2, h3, h4, h5⟩ := h
  refine ⟨h1.trans (hb.mono h1.size), b, gk, ck, gh, ch, ?_, ?_, h4.on hb h4.lt, h5.on hb h5.lt⟩
  · rw [hb.block _ (lt_of_heap h2)]; exact h2
  · rw [hb.block _ (lt_of_heap h3)]; exact h3
theorem SInv.init {w w1 : World} {b : Nat} {kv hv : Value} (M : Made (w.alloc (.cells freshW 73)) w1 b kv hv) : SInv w (w1.setCell ⟨w.heap.size, 0, none⟩ (.pointer (some ⟨b, 0, none⟩))) := by
  obtain ⟨gk, ck, rfl, hgk, rk⟩ := row_of_own M.ok (by omega)
  obtain ⟨gh, ch, rfl, hgh, rh⟩ := row_of_own M.oh (by omega)
  have hle := M.le
  simp at hle hgk hgh
  have h0 : w1.heap[w.heap.size]? = some (.cells freshW 73 (0, 0)) := by
    rw [M.below.block _ (by simp)]
    exact heap_alloc_new w _
  refine ⟨?_, b, gk, ck, gh, ch, ?_, ?_, ?_, ?_⟩
  · exact (((Below.refl _ _).alloc (Nat.le_refl _) _).trans (M.below.mono (by simp))).setCell (Nat.le_refl _) _
  · rw [heap_setCell_same w1 _ 0 _ _ _ h0]
    rfl
  · rw [heap_setCell_other _ _ _ _ (by show b ≠ w.heap.size; omega)]
    exact M.blk
  · rw [← kc_lit]
    exact rk.setOther _ (by show w.heap.size ≠ gk; omega) _
  · rw [← hc_lit]
    exact rh.setOther _ (by show w.heap.size ≠ gh; omega) _

theorem mem_bulk {l : List Stp} {x : Stp} (h : x ∈ l) : x.s.size ≤ bulk l := by
  induction l with
  | nil => cases h
  | cons y r ih =>
    have e : bulk (y :: r) = y.s.size + y.t.size + bulk r := by simp [bulk]
    rw [e]
    rcases List.mem_cons.1 h with rfl | h
    · omega
    · have := ih h; omega

/-- The program's two tables, as the walks want them. -/
structure Tabs (w : World) : Prop where
  start : ∃ tg fr, w.heap[13]? = some (.cells (u32s startL) tg fr)
  round : ∀ i, i < 64 → w.cell? ⟨14, i, none⟩ = some (.int .u32 (roundL.getD i 0 : Int))
theorem Tabs.on {w W : World} (h : Tabs w) (hb : Below w.heap.size w W) : Tabs W := by
  obtain ⟨⟨tg, fr, h1⟩, h2⟩ := h
  refine ⟨⟨tg, fr, ?_⟩, fun i hi => ?_⟩
  · rw [hb.block _ (lt_of_heap h1)]; exact h1
  · rw [hb.cell (block_lt_of_cell (h2 i hi))]; exact h2 i hi

set_option maxRecDepth 100000 in
set_option maxHeartbeats 1000000 in
theorem step_sum (w W : World) (x : Stp) (hk : x.kind = 1) (hs : x.s.size ≤ 300000) (T : Tabs w) (I : SInv w W) :
    Calls Tryz.prog 41 #[.pointer (some ⟨w.heap.size, 0, none⟩), stpV x] W fun e W' => e = .returned (.bool true) ∧ SInv w W' := by
  obtain ⟨k, a, b, d, s, t⟩ := x
  simp only at hk hs
  subst hk
  obtain ⟨r, hr⟩ : ∃ r, r = shaB roundL startL (bytesN s) := ⟨_, rfl⟩
  have HA : Hid (∀ V, SInv w V → Calls Tryz.prog 65 #[.string s] V fun e W' => e = .returned (.string ⟨r.toArray⟩) ∧ Hid (Below V.heap.size V W')) := fun V IV => by
    obtain ⟨tg, fr, h1⟩ := (T.on IV.below).start
    rw [hr]
    exact keepSum s roundL startL tg fr V hs rfl startL_lt roundL_lt h1 (T.on IV.below).round
  have HI : Hid (SInv w W) := I
  obtain ⟨-, bm, gk, ck, gh, ch, hw, hm, hgk, hgh⟩ := I
  have HB : Hid (∀ V, Below W.heap.size W V → Calls Tryz.prog 66 #[.pointer (some ⟨bm, 0, none⟩), .string s] V fun e W' => e = .returned (.string ⟨r.toArray⟩) ∧ Hid (Below V.heap.size V W')) := fun V hV => by
    have hm' : V.heap[bm]? = some (.cells #[.slice (some ⟨gk, 0, none⟩) 64 ck, .slice (some ⟨gh, 0, none⟩) 8 ch] 142 (0, 0)) := by rw [hV.block _ (lt_of_heap hm)]; exact hm
    rw [hr]
    exact refSum_any bm gk ck gh ch roundL startL s V (cell_of_row _ _ _ _ _ _ hm') (cell_of_row _ _ _ _ _ _ hm') (hgk.on hV hgk.lt) rfl roundL_lt (hgh.on hV hgh.lt) rfl startL_lt hs
  have HW : Hid (∀ V, Below W.heap.size W V → V.cell? ⟨w.heap.size, 0, none⟩ = some (.pointer (some ⟨bm, 0, none⟩))) := fun V hV => by
    have hw' : V.heap[w.heap.size]? = some (.cells (wRow bm) 73 (0, 0)) := by rw [hV.block _ (lt_of_heap hw)]; exact hw
    exact cell_of_row _ _ _ _ _ _ hw'
  have hWlt := lt_of_heap hw
  clear hr hw hm hgk hgh T
  go_enter Tryz.func41, Tryz.ntmps41
  go_wp2_with fail
  have hal := (Below.refl W.heap.size W).alloc (Nat.le_refl _) (.cells #[.int .i64 1, .int .i64 a, .int .i64 b, .int .i64 d, .string s, .string t] 67)
  refine (HA.out _ (HI.out.mono hal)).mono ?_
  rintro e W1 ⟨rfl, HB1⟩
  have hz := HB1.out.size
  have HV : Hid (Below W.heap.size W W1) := hal.trans (HB1.out.mono (by simp))
  have cw := HW.out W1 HV.out
  have cs : W1.cell? ⟨W.heap.size, 4, none⟩ = some (.string s) := by rw [HB1.out.cell (by simp)]; simp
  clear hal hz HA HB1
  go_wp2
  go_region_with (go_at_call 66; go_must (refine (HB.out _ (by first | exact HV.out | exact HV.out.drew | exact below_drewN' HV.out _)).mono ?_; rintro e W2 ⟨rfl, HB2⟩; have HV2 : Hid (Below W.heap.size W W2) := (by first | exact HV.out | exact HV.out.drew | exact below_drewN' HV.out _ : Below W.heap.size W _).trans (HB2.out.mono (by have := HV.out.size; simpa using this))))
  all_goals
    go_wp2
    go_ret
    exact ⟨rfl, HI.out.mono HV2.out⟩

set_option maxRecDepth 100000 in
set_option maxHeartbeats 1000000 in
theorem step_crc (w W : World) (x : Stp) (hk : x.kind = 2) (hs : x.s.size ≤ 300000) (I : SInv w W) :
    Calls Tryz.prog 41 #[.pointer (some ⟨w.heap.size, 0, none⟩), stpV x] W fun e W' => e = .returned (.bool true) ∧ SInv w W' := by
  obtain ⟨k, a, b, d, s, t⟩ := x
  simp only at hk hs
  subst hk
  obtain ⟨r, hr⟩ : ∃ r, r = crcN s.data.toList := ⟨_, rfl⟩
  have HA : Hid (∀ V, Calls Tryz.prog 67 #[.string s] V fun e W' => e = .returned (.int .i64 (r : Int)) ∧ Hid (Below V.heap.size V W')) := fun V => by
    rw [hr]
    exact plainCrc s V (by omega)
  have HB : Hid (∀ V, Calls Tryz.prog 68 #[.string s] V fun e W' => e = .returned (.int .i64 (r : Int)) ∧ V = W') := fun V => by
    rw [hr]
    exact refCrc s V (by omega)
  have HI : Hid (SInv w W) := I
  clear I hr
  go_enter Tryz.func41, Tryz.ntmps41
  go_wp2_with fail
  have hal := (Below.refl W.heap.size W).alloc (Nat.le_refl _) (.cells #[.int .i64 2, .int .i64 a, .int .i64 b, .int .i64 d, .string s, .string t] 67)
  refine (HA.out _).mono ?_
  rintro e W1 ⟨rfl, HB1⟩
  have HV : Hid (Below W.heap.size W W1) := hal.trans (HB1.out.mono (by simp))
  have cs : W1.cell? ⟨W.heap.size, 4, none⟩ = some (.string s) := by rw [HB1.out.cell (by simp)]; simp
  clear hal HA HB1
  go_wp2_with fail
  refine (HB.out _).mono ?_
  rintro e W2 ⟨rfl, rfl⟩
  go_wp2
  go_ret
  exact ⟨rfl, HI.out.mono HV.out⟩

theorem sums_steps (w : World) (l : List Stp) (hb : l.length + bulk l ≤ 262144) (T : Tabs w) : Steps w 6 l (SInv w) D6 where
  below := fun _ h => h.below
  left := fun W h => by
    obtain ⟨-, b, gk, ck, gh, ch, hw, -⟩ := h
    exact ⟨262144, cell_of_row _ _ _ _ _ _ hw⟩
  mono := fun _ _ h hb => h.mono hb
  init := fun _ _ _ _ M => SInv.init M
  does := fun x _ h1 h2 W => does6 x h1 h2 W
  step := fun x hx h1 h2 hd W I => by
    have hs := mem_bulk hx
    have hk : x.kind = 1 ∨ x.kind = 2 := by simpa [D6] using hd
    rcases hk with hk | hk
    · exact step_sum w W x hk (by omega) T I
    · exact step_crc w W x hk (by omega) I
  looks := fun W h => by
    have h' := h
    obtain ⟨-, b, gk, ck, gh, ch, hw, -⟩ := h
    refine (looks_nil w.heap.size W (cell_of_row _ _ _ _ _ _ hw)).mono ?_
    rintro e W' ⟨rfl, rfl⟩
    exact ⟨rfl, h'⟩

/-- Sums, whatever the script. -/
theorem sums_any (v : Value) (l : List Stp) (w : World) (hs : Scr w v l) (T : Tabs w) :
    Calls Tryz.prog 3 #[v] w fun e w' => e = .returned (.bool true) ∧ Below w.heap.size w w' := by
  have H := plays_of 6 6 false v l w hs (fun w1 hb h => ⟨SInv w1, D6, sums_steps w1 l h (T.on hb)⟩)
  have HH : Hid (Calls Tryz.prog 13 #[v, .int .i64 6, .int .i64 6, .bool false] w fun e w' => PlaysPost w e w') := H
  clear H
  go_enter Tryz.func3, Tryz.ntmps3
  go_wp2_with fail
  refine HH.out.mono ?_
  rintro e w1 ⟨rfl, hb⟩
  have HB : Hid (Below w.heap.size w w1) := hb
  clear hb
  go_wp2
  go_ret
  exact ⟨rfl, HB.out⟩
end Go.Proofs.YtbnokhdofkpcjaaGreatDoor
namespace Go.Proofs.YtbnokhdofkpcjaaGreatDoor
open Go.ChangeShapes Go.WideShapes Go.ChangeAt Go.WideMaps Go.WideElems Go.RowKit

theorem own : ownKnob Tryz.prog.godebug = none := by kernel_rfl
def laidL : List (String × DataW Unit) := Rows.sumsRow.laid

/-- A list of laid variables, one by one. -/
theorem laid_one {P : Program} {W : World} : ∀ {l : List (String × DataW Unit)} {ps : List MemPlace}, DataW.LaidVars P W l ps → ∀ n d, (n, d) ∈ l →
    ∃ g t cs fuel p, P.globalNamed n = some g ∧ (P.globals[g]?).map (·.type) = some t ∧ W.var? P n = some cs ∧ DataW.trod (fun _ => ()) P W 0 (fun _ => true) false fuel t cs.toList = some (d, p)
  | [], _, _, _, _, h => by cases h
  | (n', d') :: r, ps, h, n, d, hm => by
    obtain ⟨g, t, cs, fuel, p, q, hg, ht, hv, hd, hr, -⟩ := h
    rcases List.mem_cons.1 hm with h | h
    · cases h; exact ⟨g, t, cs, fuel, p, hg, ht, hv, hd⟩
    · exact laid_one hr n d h

/-- An array of words out of its datum. -/
theorem words_of {W : World} {n t fuel : Nat} {cs : List Value} {zs : List Nat} {p : List MemPlace} (hu : Tryz.prog.underlying t = some (.array n 81)) (hn : zs.length = n)
    (h : DataW.trod (fun _ => ()) Tryz.prog W 0 (fun _ => true) false fuel t cs = some (.agg (zs.map fun z : Nat => .lit (.int .u32 (z : Int))), p)) (hc : Tryz.prog.cellsOf t = n) :
    cs = zs.map fun z : Nat => Value.int .u32 (z : Int) := by
  obtain ⟨xs, m, _, ex, hl, hx, hel⟩ := DataW.trod_array hu h
  have c5 : Tryz.prog.cellsOf 81 = 1 := by kernel_rfl
  have e3 : (xs.map (·.1)) = zs.map fun z : Nat => (.lit (.int .u32 (z : Int)) : DataW Unit) := (DataW.agg.inj (Prod.mk.inj ex).1).symm
  apply List.ext_getElem
  · rw [hl, hc, List.length_map, hn]
  · intro j h1 h2
    have hj : j < n := by rw [List.length_map, hn] at h2; exact h2
    have hE := hel j hj
    rw [c5, Nat.mul_one, List.getElem?_eq_getElem (by omega)] at hE
    obtain ⟨z, e1, e2, _⟩ := DataW.trod_int Tryz.underlying81 hE
    have e4 : (xs.map (·.1))[j]? = (zs.map fun z : Nat => (.lit (.int .u32 (z : Int)) : DataW Unit))[j]? := by rw [e3]
    rw [List.getElem?_map, List.getElem?_map, List.getElem?_eq_getElem (by omega : j < xs.length), List.getElem?_eq_getElem (by omega : j < zs.length), e2] at e4
    simp only [Option.map_some, Option.some.injEq, DataW.lit.injEq, Lit.int.injEq, true_and] at e4
    rw [List.getElem_map, ← e4]
    have h0 : ((cs.drop j).take 1)[0]? = some (.int .u32 z) := by rw [e1]; rfl
    have h0' : cs[j]? = some (.int .u32 z) := by simpa using h0
    rw [List.getElem?_eq_getElem h1] at h0'
    exact Option.some.inj h0'

theorem plain_of_laidH {P : Program} {W : World} {l : List (String × DataW Unit)} (h : laidMetH P l W) : laidMet P (l.filter fun x => x.2.handleName?.isNone) W := by
  unfold laidMetH at h
  split at h
  · rename_i hf
    have e : (l.filter fun x => x.2.handleName?.isNone) = l := by
      rw [List.filter_eq_self]
      intro x hx
      have := (List.filter_eq_nil_iff.1 hf) x hx
      cases hn : x.2.handleName? with
      | none => rfl
      | some s => rw [hn] at this; exact absurd rfl this
    rw [e]
    exact h
  · exact h.1

theorem g_start : Tryz.prog.globalNamed "keepsake/sums.startWords" = some 13 := by kernel_rfl
theorem g_round : Tryz.prog.globalNamed "keepsake/sums.roundWords" = some 14 := by kernel_rfl
theorem t_start : (Tryz.prog.globals[13]?).map (·.type) = some 305 := by kernel_rfl
theorem t_round : (Tryz.prog.globals[14]?).map (·.type) = some 393 := by kernel_rfl
theorem in_start : ("keepsake/sums.startWords", Rows.laid_keepsake_sums_startWords) ∈ laidL.filter fun x => x.2.handleName?.isNone := List.mem_filter.2 ⟨by simp [laidL, Rows.sumsRow], rfl⟩
theorem in_round : ("keepsake/sums.roundWords", Rows.laid_keepsake_sums_roundWords) ∈ laidL.filter fun x => x.2.handleName?.isNone := List.mem_filter.2 ⟨by simp [laidL, Rows.sumsRow], rfl⟩
theorem d_start : (Rows.laid_keepsake_sums_startWords : DataW Unit) = .agg (startL.map fun z : Nat => .lit (.int .u32 (z : Int))) := rfl
theorem d_round : (Rows.laid_keepsake_sums_roundWords : DataW Unit) = .agg (roundL.map fun z : Nat => .lit (.int .u32 (z : Int))) := rfl

theorem tabs_of_laid {W : World} (h : laidMetH Tryz.prog laidL W) : Tabs W := by
  obtain ⟨ps, hl, -, -⟩ := plain_of_laidH h
  refine ⟨?_, ?_⟩
  · obtain ⟨g, t, cs, fuel, p, a1, a2, a3, a4⟩ := laid_one hl _ _ in_start
    obtain rfl := Option.some.inj (g_start.symm.trans a1)
    obtain rfl := Option.some.inj (t_start.symm.trans a2)
    rw [d_start] at a4
    have hw := words_of (n := 8) Tryz.underlying305 rfl a4 (by kernel_rfl)
    simp only [World.var?, a1, Option.bind_some] at a3
    split at a3
    · rename_i cs' tg fr hh
      cases a3
      refine ⟨tg, fr, ?_⟩
      rw [hh]
      congr 2
      show _ = u32s startL
      unfold u32s
      rw [← hw]
    · cases a3
  · obtain ⟨g, t, cs, fuel, p, a1, a2, a3, a4⟩ := laid_one hl _ _ in_round
    obtain rfl := Option.some.inj (g_round.symm.trans a1)
    obtain rfl := Option.some.inj (t_round.symm.trans a2)
    rw [d_round] at a4
    have hw := words_of (n := 64) Tryz.underlying393 rfl a4 (by kernel_rfl)
    intro i hi
    rw [World.var?_cell a1 a3 i, ← Array.getElem?_toList, hw, List.getElem?_map]
    have hr : roundL.length = 64 := rfl
    rw [List.getElem?_eq_getElem (by omega), List.getD_eq_getElem?_getD, List.getElem?_eq_getElem (by omega)]
    rfl

/-- The witness's world: what the door lays, and the pinned table besides. -/
def bigL : List (String × DataW Unit) := [("unicode/utf8.first", Rows.laid_unicode_utf8_first)]
theorem big_is : ((laidL.filter fun x => x.2.handleName?.isNone).filter fun x => ["unicode/utf8.first"].contains x.1) = bigL := by kernel_rfl
set_option maxRecDepth 100000 in
theorem wit_met (os : Os) (args : Array Value) : laidMetH Tryz.prog laidL (((World.doorLaid Tryz.prog 264 os).layVars Tryz.prog bigL).forCall (fun _ _ => 0) ⟨#[], args, []⟩).memory :=
  laidMetH_of_parts3 (fuel := 8) (laidMet_layVars (w0 := World.doorLaid Tryz.prog 264 os) ["unicode/utf8.first"] ((List.range (World.doorLaid Tryz.prog 264 os).heap.size).filter (· != 16)) (by rw [big_is]; simp [World.memory, World.forCall, Input.heap]) (by kernel_rfl) (by kernel_rfl)
    (LaidIn.of_run _ 8 (by kernel_rfl) (by kernel_rfl) (by kernel_rfl) (by kernel_rfl))) (by kernel_rfl) (by kernel_rfl)
end Go.Proofs.YtbnokhdofkpcjaaGreatDoor
namespace Go.Proofs.YtbnokhdofkpcjaaGreatDoor

theorem s_laidOut : laidOutB Tryz.prog = true := by kernel_rfl
theorem s_mapsRowed : mapsRowed Tryz.prog = true := by kernel_rfl
theorem s_wf : Rows.sumsRow.wf (OpenSpec.ofChange Rows.sumsSpec) = true := by kernel_rfl
theorem s_inPlace : (Rows.sumsRow.inPlace == Tryz.prog.inPlace 3) = true := by kernel_rfl
theorem s_unfollowed : (Rows.sumsRow.unfollowed == Tryz.prog.unfollowed 3) = true := by kernel_rfl
theorem s_recurses : (Rows.sumsRow.recurses == Tryz.prog.recurses 3) = true := by kernel_rfl
theorem s_named : (Rows.sumsRow.named == Tryz.prog.varsNamed 3) = true := by kernel_rfl
theorem s_namedTie : namedTie Tryz.prog Rows.sumsRow.named Rows.sumsSpec.vars = true := by kernel_rfl
theorem s_funcNamed : Tryz.prog.funcNamed "keepsake/keepsakelaw.Sums" = some 3 := by kernel_rfl
theorem s_joined : joinedFacts Tryz.prog 3 Tryz.f3 Rows.sumsSpec Rows.sumsRow = true := by
  unfold joinedFacts
  rw [s_wf, s_laidOut, s_mapsRowed, s_namedTie, s_inPlace, s_unfollowed, s_recurses, s_named]
  kernel_rfl
end Go.Proofs.YtbnokhdofkpcjaaGreatDoor
namespace Go.Proofs.YtbnokhdofkpcjaaGreatDoor

theorem d_wf : Rows.disksRow.wf (OpenSpec.ofChange Rows.disksSpec) = true := by kernel_rfl
theorem d_inPlace : (Rows.disksRow.inPlace == Tryz.prog.inPlace 4) = true := by kernel_rfl
theorem d_unfollowed : (Rows.disksRow.unfollowed == Tryz.prog.unfollowed 4) = true := by kernel_rfl
theorem d_recurses : (Rows.disksRow.recurses == Tryz.prog.recurses 4) = true := by kernel_rfl
theorem d_named : (Rows.disksRow.named == Tryz.prog.varsNamed 4) = true := by kernel_rfl
theorem d_namedTie : namedTie Tryz.prog Rows.disksRow.named Rows.disksSpec.vars = true := by kernel_rfl
theorem d_funcNamed : Tryz.prog.funcNamed "keepsake/keepsakelaw.Disks" = some 4 := by kernel_rfl
theorem d_joined : joinedFacts Tryz.prog 4 Tryz.f4 Rows.disksSpec Rows.disksRow = true := by
  unfold joinedFacts
  rw [d_wf, s_laidOut, s_mapsRowed, d_namedTie, d_inPlace, d_unfollowed, d_recurses, d_named]
  kernel_rfl
end Go.Proofs.YtbnokhdofkpcjaaGreatDoor
namespace Go.Proofs.YtbnokhdofkpcjaaGreatDoor
open Go.RowKit

/-- The slice v has a row of its own, or none; its block is of S. -/
def OwnS (w : World) (S : Nat → Prop) (e : TypeId) (k : Nat) (v : Value) (n : Nat) (xs : List Value) : Prop := w.ownsRow 0 e k v n xs ∧ ∀ g, v.ownBlock = some g → S g
theorem own_heap {w w' : World} {B n k : Nat} {e : TypeId} {v : Value} {xs : List Value} (h : w.ownsRow B e k v n xs) (hg : ∀ g, v.ownBlock = some g → w'.heap[g]? = w.heap[g]?) : w'.ownsRow B e k v n xs := by
  obtain ⟨h1, h2 | ⟨g, cap, cur, hv, hB, hh, h3⟩⟩ := h
  · exact ⟨h1, .inl h2⟩
  · exact ⟨h1, .inr ⟨g, cap, cur, hv, hB, by rw [hg g (by rw [hv]; rfl)]; exact hh, h3⟩⟩
theorem OwnS.on {w w' : World} {S T : Nat → Prop} {n k : Nat} {e : TypeId} {v : Value} {xs : List Value} (h : OwnS w S e k v n xs) (hs : Same T w w') (hd : ∀ g, v.ownBlock = some g → ¬ T g) : OwnS w' S e k v n xs := by
  refine ⟨own_heap h.1 fun g hg => ?_, h.2⟩
  obtain ⟨h1, h2 | ⟨g', cap, cur, hv, hB, hh, h3⟩⟩ := h.1
  · rw [h2.1] at hg; cases hg
  · rw [hv] at hg
    cases hg
    exact hs.block g' (Array.getElem?_eq_some_iff.1 hh).1 (hd g' (by rw [hv]; rfl))
theorem OwnS.lt {w : World} {S : Nat → Prop} {n k : Nat} {e : TypeId} {v : Value} {xs : List Value} (h : OwnS w S e k v n xs) {g : Nat} (hg : v.ownBlock = some g) : g < w.heap.size := by
  obtain ⟨h1, h2 | ⟨g', cap, cur, hv, hB, hh, h3⟩⟩ := h.1
  · rw [h2.1] at hg; cases hg
  · rw [hv] at hg
    cases hg
    exact (Array.getElem?_eq_some_iff.1 hh).1
theorem OwnS.mono {w : World} {S T : Nat → Prop} {n k : Nat} {e : TypeId} {v : Value} {xs : List Value} (h : OwnS w S e k v n xs) (hd : ∀ g, S g → T g) : OwnS w T e k v n xs := ⟨h.1, fun g hg => hd g (h.2 g hg)⟩
/-- What a slice that is not empty is. -/
theorem OwnS.open {w : World} {S : Nat → Prop} {n k : Nat} {e : TypeId} {v : Value} {xs : List Value} (h : OwnS w S e k v n xs) (hn : 0 < n) :
    ∃ g cap, v = .slice (some ⟨g, 0, none⟩) n cap ∧ S g ∧ (∀ j (hj : j < xs.length), w.cell? ⟨g, j, none⟩ = some xs[j]) ∧ ∀ j, w.frozen? ⟨g, j, none⟩ = false := by
  obtain ⟨h1, h2 | ⟨g, cap, cur, hv, hB, hh, h3, h4, h5, h6⟩⟩ := h.1
  · omega
  · refine ⟨g, cap, hv, h.2 g (by rw [hv]; rfl), fun j hj => ?_, fun j => frozen_of_row w g j _ _ hh⟩
    rw [cell_of_row w g j _ _ _ hh, ← Array.getElem?_toList]
    have : (cur.toList.take (n * k))[j]? = some xs[j] := by rw [h6]; exact List.getElem?_eq_getElem hj
    rw [List.getElem?_take_of_lt (by omega)] at this
    exact this
/-- A cell of such a row is written. -/
theorem OwnS.set {w : World} {S : Nat → Prop} {n k g cap : Nat} {e : TypeId} {xs : List Value} (h : OwnS w S e k (.slice (some ⟨g, 0, none⟩) n cap) n xs) (j : Nat) (y : Value) :
    OwnS (w.setCell ⟨g, j, none⟩ y) S e k (.slice (some ⟨g, 0, none⟩) n cap) n (xs.set j y) := by
  obtain ⟨h1, h2 | ⟨g', cap', cur, hv, hB, hh, h3, h4, h5, h6⟩⟩ := h.1
  · cases h2.1
  · cases hv
    refine ⟨⟨by rw [List.length_set]; exact h1, .inr ⟨g, cap, cur.setIfInBounds j y, rfl, hB, ?_, h3, h4, by simpa using h5, ?_⟩⟩, h.2⟩
    · exact heap_setCell_same w g j _ _ y hh
    · rw [Array.toList_setIfInBounds, List.take_set, h6]

def strs (l : List ByteArray) : List Value := l.map Value.string
def wrefs (l : List (Nat × ByteArray)) : List Value := l.flatMap fun x => [.int .i64 (x.1 : Int), .string x.2]
theorem strs_length (l : List ByteArray) : (strs l).length = l.length := by simp [strs]
theorem wrefs_length (l : List (Nat × ByteArray)) : (wrefs l).length = l.length * 2 := by
  induction l with
  | nil => rfl
  | cons x r ih => simp [wrefs] at ih ⊢; omega

/-- The reference's disk. -/
structure RDsk where
  safe : List ByteArray
  seen : List ByteArray
  wait : List (Nat × ByteArray)
  left : Int
  lit : Bool
  down : Bool

def refRow (sv nv wv : Value) (left : Int) (lit down : Bool) : Array Value := #[sv, nv, wv, .int .i64 left, .bool lit, .bool down]
structure RefV (w : World) (S : Nat → Prop) (be : Nat) (sv nv wv : Value) (r : RDsk) : Prop where
  blk : w.heap[be]? = some (.cells (refRow sv nv wv r.left r.lit r.down) 149 (0, 0))
  sb : S be
  safe : OwnS w S 9 1 sv r.safe.length (strs r.safe)
  seen : OwnS w S 9 1 nv r.seen.length (strs r.seen)
  wait : OwnS w S 310 2 wv r.wait.length (wrefs r.wait)
  d1 : ∀ g, sv.ownBlock = some g → g ≠ be ∧ nv.ownBlock ≠ some g ∧ wv.ownBlock ≠ some g
  d2 : ∀ g, nv.ownBlock = some g → g ≠ be ∧ wv.ownBlock ≠ some g
  d3 : ∀ g, wv.ownBlock = some g → g ≠ be
def RefAt (w : World) (S : Nat → Prop) (be : Nat) (r : RDsk) : Prop := ∃ sv nv wv, RefV w S be sv nv wv r

theorem RefAt.on {w w' : World} {S T : Nat → Prop} {be : Nat} {r : RDsk} (h : RefAt w S be r) (hs : Same T w w') (hd : ∀ g, S g → ¬ T g) : RefAt w' S be r := by
  obtain ⟨sv, nv, wv, h⟩ := h
  refine ⟨sv, nv, wv, ?_, h.sb, h.safe.on hs (fun g hg => hd g (h.safe.2 g hg)), h.seen.on hs (fun g hg => hd g (h.seen.2 g hg)), h.wait.on hs (fun g hg => hd g (h.wait.2 g hg)), h.d1, h.d2, h.d3⟩
  rw [hs.block be (Array.getElem?_eq_some_iff.1 h.blk).1 (hd be h.sb)]
  exact h.blk
theorem RefAt.mono {w : World} {S T : Nat → Prop} {be : Nat} {r : RDsk} (h : RefAt w S be r) (hd : ∀ g, S g → T g) : RefAt w T be r := by
  obtain ⟨sv, nv, wv, h⟩ := h
  exact ⟨sv, nv, wv, h.blk, hd _ h.sb, h.safe.mono hd, h.seen.mono hd, h.wait.mono hd, h.d1, h.d2, h.d3⟩
/-- A world whose blocks but be are as they were. -/
theorem RefV.turn {w w' : World} {S : Nat → Prop} {be : Nat} {sv nv wv : Value} {r : RDsk} (h : RefV w S be sv nv wv r) (hs : Same (· = be) w w') (left : Int) (lit down : Bool)
    (hb : w'.heap[be]? = some (.cells (refRow sv nv wv left lit down) 149 (0, 0))) : RefV w' S be sv nv wv { r with left := left, lit := lit, down := down } :=
  ⟨hb, h.sb, h.safe.on hs (fun g hg => (h.d1 g hg).1), h.seen.on hs (fun g hg => (h.d2 g hg).1), h.wait.on hs (fun g hg => h.d3 g hg), h.d1, h.d2, h.d3⟩
theorem Same.weak {S T : Nat → Prop} {w w' : World} (h : Same S w w') (hd : ∀ g, S g → T g) : Same T w w' := ⟨h.os, h.tape, h.output, h.size, fun k hk hn => h.block k hk fun hs => hn (hd k hs)⟩

theorem ref_fuse (be : Nat) (S : Nat → Prop) (r : RDsk) (n : Int) (w : World) (h : RefAt w S be r) :
    Calls Tryz.prog 117 #[.pointer (some ⟨be, 0, none⟩), .int .i64 n] w fun e w' => e = .returned (.tuple #[]) ∧ RefAt w' S be { r with lit := decide (0 < n), left := n } ∧ Same S w w' := by
  obtain ⟨sv, nv, wv, h⟩ := h
  have c3 : w.cell? ⟨be, 3, none⟩ = some (.int .i64 r.left) := cell_of_row _ _ _ _ _ _ h.blk
  have c4 : w.cell? ⟨be, 4, none⟩ = some (.bool r.lit) := cell_of_row _ _ _ _ _ _ h.blk
  have f3 := frozen_of_row w be 3 _ _ h.blk
  have f4 := frozen_of_row w be 4 _ _ h.blk
  have HB : Hid (RefV w S be sv nv wv r) := h
  clear h
  go_enter Tryz.func117, Tryz.ntmps117
  go_wp2
  go_end0
  have h1 := heap_setCell_same w be 4 _ _ (.bool (decide (0 < n))) HB.out.blk
  have h2 := heap_setCell_same (w.setCell ⟨be, 4, none⟩ (.bool (decide (0 < n)))) be 3 _ _ (.int .i64 n) h1
  have hs : Same (· = be) w ((w.setCell ⟨be, 4, none⟩ (.bool (decide (0 < n)))).setCell ⟨be, 3, none⟩ (.int .i64 n)) := Same.setCell (S := (· = be)) (Same.setCell (S := (· = be)) (Same.refl _ w) ⟨be, 4, none⟩ rfl _) ⟨be, 3, none⟩ rfl _
  refine ⟨rfl, ⟨sv, nv, wv, HB.out.turn hs _ _ _ ?_⟩, hs.weak (by rintro g rfl; exact HB.out.sb)⟩
  rw [h2]
  rfl
end Go.Proofs.YtbnokhdofkpcjaaGreatDoor
namespace Go.Proofs.YtbnokhdofkpcjaaGreatDoor
open Go.RowKit

/-- What an operation leaves of the flags. -/
def RDsk.op (r : RDsk) : RDsk := if r.lit then { r with left := wrap64 (r.left - 1), down := r.down || decide (wrap64 (r.left - 1) ≤ 0) } else r
theorem op_not (r : RDsk) (h : r.lit = false) : r.op = r := by unfold RDsk.op; rw [h]; rfl
theorem op_lit (r : RDsk) (h : r.lit = true) : r.op = { r with left := wrap64 (r.left - 1), down := r.down || decide (wrap64 (r.left - 1) ≤ 0) } := by unfold RDsk.op; rw [h]; rfl

set_option maxRecDepth 100000 in
theorem ref_may (be : Nat) (S : Nat → Prop) (r : RDsk) (w : World) (h : RefAt w S be r) :
    Calls Tryz.prog 187 #[.pointer (some ⟨be, 0, none⟩)] w fun e w' => e = .returned (.bool (!r.op.down)) ∧ RefAt w' S be r.op ∧ Same S w w' := by
  obtain ⟨sv, nv, wv, h⟩ := h
  have c3 : w.cell? ⟨be, 3, none⟩ = some (.int .i64 r.left) := cell_of_row _ _ _ _ _ _ h.blk
  have c4 : w.cell? ⟨be, 4, none⟩ = some (.bool r.lit) := cell_of_row _ _ _ _ _ _ h.blk
  have c5 : w.cell? ⟨be, 5, none⟩ = some (.bool r.down) := cell_of_row _ _ _ _ _ _ h.blk
  have f3 := frozen_of_row w be 3 _ _ h.blk
  have f5 := frozen_of_row w be 5 _ _ h.blk
  have HB : Hid (RefV w S be sv nv wv r) := h
  have hnot : ∀ (x : Bool) (w : World), (Op.unary .not (.bool x)).run Tryz.prog w = .ok (.bool (!x)) w := fun _ _ => rfl
  clear h
  cases hl : r.lit
  · rw [hl] at c4
    rw [op_not r hl]
    have HL : Hid (r.lit = false) := hl
    clear hl
    go_enter Tryz.func187, Tryz.ntmps187
    go_wp2
    go_ret
    exact ⟨rfl, ⟨sv, nv, wv, HB.out⟩, Same.refl _ _⟩
  · rw [hl] at c4
    rw [op_lit r hl]
    have h1 := heap_setCell_same w be 3 _ _ (.int .i64 (wrap64 (r.left - 1))) HB.out.blk
    have s1 : Same (· = be) w (w.setCell ⟨be, 3, none⟩ (.int .i64 (wrap64 (r.left - 1)))) := Same.setCell (S := (· = be)) (Same.refl _ w) ⟨be, 3, none⟩ rfl _
    by_cases hz : wrap64 (r.left - 1) ≤ 0
    · have h2 := heap_setCell_same _ be 5 _ _ (.bool true) h1
      have s2 := Same.setCell (S := (· = be)) s1 ⟨be, 5, none⟩ rfl (.bool true)
      have H2 : Hid (RefV _ S be sv nv wv { r with left := wrap64 (r.left - 1), down := r.down || decide (wrap64 (r.left - 1) ≤ 0) }) := HB.out.turn s2 _ _ _ (by rw [h2, decide_eq_true hz, Bool.or_true, hl]; rfl)
      have HS : Hid (Same S w _) := s2.weak (by rintro g rfl; exact HB.out.sb)
      have hd : (!(r.down || decide (wrap64 (r.left - 1) ≤ 0))) = false := by rw [decide_eq_true hz, Bool.or_true]; rfl
      rw [hd]
      clear h1 h2 s1 s2 hl hd
      go_enter Tryz.func187, Tryz.ntmps187
      go_wp2
      go_ret
      exact ⟨rfl, ⟨sv, nv, wv, H2.out⟩, HS.out⟩
    · have H2 : Hid (RefV _ S be sv nv wv { r with left := wrap64 (r.left - 1), down := r.down || decide (wrap64 (r.left - 1) ≤ 0) }) := HB.out.turn s1 _ _ _ (by rw [h1, decide_eq_false hz, Bool.or_false, hl]; rfl)
      have HS : Hid (Same S w _) := s1.weak (by rintro g rfl; exact HB.out.sb)
      have hd : (!(r.down || decide (wrap64 (r.left - 1) ≤ 0))) = !r.down := by rw [decide_eq_false hz, Bool.or_false]
      rw [hd]
      clear h1 s1 hl hd
      go_enter Tryz.func187, Tryz.ntmps187
      go_wp2
      go_ret
      exact ⟨rfl, ⟨sv, nv, wv, H2.out⟩, HS.out⟩

/-- Is a sector there? -/
def hasAt (n : Nat) (at_ : Int) : Prop := 0 ≤ at_ ∧ at_ < n

set_option maxRecDepth 100000 in
theorem ref_read (be : Nat) (S : Nat → Prop) (r : RDsk) (at_ : Int) (w : World) (h : RefAt w S be r) (hn : 0 < r.seen.length) (hr : inR at_) :
    Calls Tryz.prog 112 #[.pointer (some ⟨be, 0, none⟩), .int .i64 at_] w fun e w' =>
      e = .returned (.tuple (if h : 0 ≤ at_ ∧ at_ < r.seen.length then #[.string (r.seen[at_.toNat]'(by omega)), .int .i64 0] else #[.string ⟨#[]⟩, .int .i64 1])) ∧ w = w' := by
  obtain ⟨sv, nv, wv, h⟩ := h
  obtain ⟨g, cap, hv, -, hc, -⟩ := h.seen.open hn
  have c1 : w.cell? ⟨be, 1, none⟩ = some nv := cell_of_row _ _ _ _ _ _ h.blk
  rw [hv] at c1
  unfold inR at hr
  by_cases h0 : at_ < 0
  · rw [dif_neg (by omega)]
    clear hc h
    go_enter Tryz.func112, Tryz.ntmps112
    go_wp2
    refine bodyPost_ret (results_tmp2 rfl _ _ _) rfl ?_
    exact ⟨rfl, rfl⟩
  · by_cases h1 : at_ < r.seen.length
    · obtain ⟨k, rfl⟩ : ∃ k : Nat, at_ = k := ⟨at_.toNat, by omega⟩
      have hk : k < r.seen.length := by omega
      rw [dif_pos (by omega)]
      obtain ⟨s, hs⟩ : ∃ s, s = r.seen[k] := ⟨_, rfl⟩
      have ck : w.cell? ⟨g, k, none⟩ = some (.string s) := by rw [hc k (by rw [strs_length]; exact hk), hs]; simp [strs]
      have e : r.seen[(k : Int).toNat]'(by omega) = s := by rw [hs]; rfl
      rw [e]
      clear hc h hs e
      go_enter Tryz.func112, Tryz.ntmps112
      go_wp2
      refine bodyPost_ret (results_tmp2 rfl _ _ _) rfl ?_
      exact ⟨rfl, rfl⟩
    · rw [dif_neg (by omega)]
      clear hc h
      go_enter Tryz.func112, Tryz.ntmps112
      go_wp2
      refine bodyPost_ret (results_tmp2 rfl _ _ _) rfl ?_
      exact ⟨rfl, rfl⟩
end Go.Proofs.YtbnokhdofkpcjaaGreatDoor
