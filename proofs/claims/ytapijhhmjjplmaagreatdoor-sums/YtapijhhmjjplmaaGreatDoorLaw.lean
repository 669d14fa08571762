/- OWN TEXT: the law's own loops: small, UpTo, plays; over whatever holds of a step. -/
import Derived.Test.YtapijhhmjjplmaaGreatDoorArgs
import Derived.Test.YtapijhhmjjplmaaGreatDoorMaker
namespace Go.Proofs.YtapijhhmjjplmaaGreatDoor
open Go.RowKit

abbrev stpV (x : Stp) : Value := .agg #[.int .i64 x.kind, .int .i64 x.a, .int .i64 x.b, .int .i64 x.d, .string x.s, .string x.t]

/-- How much a script is, up to step i. -/
def bulk (l : List Stp) : Nat := (l.map fun x => x.s.size + x.t.size).sum
theorem bulk_succ (l : List Stp) (i : Nat) (h : i < l.length) : bulk (l.take (i + 1)) = bulk (l.take i) + (l[i].s.size + l[i].t.size) := by
  unfold bulk
  rw [List.take_succ_eq_append_getElem h, List.map_append, List.sum_append]
  simp

/-- What 'small' comes to. -/
def SmallPost (l : List Stp) (w : World) (e : Ending) (w' : World) : Prop := ∃ r : Bool, e = .returned (.bool r) ∧ (r = true → l.length + bulk l ≤ 262144) ∧ Below w.heap.size w w'

set_option maxRecDepth 100000 in
set_option maxHeartbeats 1000000 in
theorem small_any (v : Value) (l : List Stp) (w : World) (hs : Scr w v l) :
    Calls Tryz.prog 22 #[v] w fun e w' => SmallPost l w e w' := by
  rcases hs with ⟨ao, cap, rfl, rfl⟩ | ⟨bl, off, cap, rfl, hpos, hlen, hcell⟩
  · go_enter Tryz.func22, Tryz.ntmps22
    go_wp2
    go_loop [4] (fun i => i = .int .i64 0) (fun _ => 0)
    case atStart => rfl
    case round =>
      obtain rfl := hrel
      go_wp2
      go_ret
      exact ⟨true, rfl, fun _ => by simp [bulk], Below.refl _ _⟩
  · obtain ⟨n, hn⟩ : ∃ n, n = l.length := ⟨_, rfl⟩
    have HN : Hid (n = l.length) := hn
    have HC : Hid (∀ i (h : i < l.length), StpAt w bl (off + i * 6) l[i]) := hcell
    have hlen' : (n : Int) ≤ 140737488351232 := by omega
    rw [← hn]
    clear hn hcell hlen hpos
    by_cases hbig : n ≤ 262144
    · have hbi : (n : Int) ≤ 262144 := by omega
      go_enter Tryz.func22, Tryz.ntmps22
      go_wp2
      go_loopw [3, 4] (fun nv i wr => ∃ m q : Nat, m ≤ n ∧ i = .int .i64 m ∧ nv = .int .i64 (q : Int) ∧ q ≤ 262144 ∧ Hid (q = n + bulk (l.take m)) ∧ Hid (∃ nq, wr = w.drewN nq)) (fun _ i _ => n - (intOf i).toNat)
      case atStart => exact ⟨0, n, by omega, rfl, rfl, hbig, rfl, ⟨0, rfl⟩⟩
      case round =>
        obtain ⟨m, q, hm, rfl, rfl, hq, Hq, ⟨nq, hnq⟩⟩ := hrel
        subst hnq
        by_cases hlt : m < n
        · have hml : m < l.length := by have := HN.out; omega
          obtain ⟨x, hx⟩ : ∃ x, x = l[m] := ⟨_, rfl⟩
          have hat := HC.out m hml
          rw [← hx] at hat
          have c4 := hat.c4
          have c5 := hat.c5
          have n4 : (x.s.size : Int) ≤ 140737488351232 := by have := hat.ns; omega
          have n5 : (x.t.size : Int) ≤ 140737488351232 := by have := hat.nt; omega
          have HX : Hid (x = l[m]) := hx
          clear hat hx
          by_cases hle : q + x.s.size + x.t.size ≤ 262144
          · have hle' : (q : Int) + (x.s.size : Int) + (x.t.size : Int) ≤ 262144 := by omega
            go_wp2
            go_quiet (fail)
            go_wp2
            go_roundw
            case rel =>
              refine ⟨m + 1, q + x.s.size + x.t.size, by omega, by go_num, by go_num, hle, ?_, ?_⟩
              · show _ = _
                rw [bulk_succ l m hml, ← HX.out, Hq.out]
                omega
              · exact ⟨_, rfl⟩
            case measure => (simp [intOf]; try omega)
          · have hle' : 262144 < (q : Int) + (x.s.size : Int) + (x.t.size : Int) := by omega
            go_wp2
            go_quiet (fail)
            go_wp2
            go_ret
            exact ⟨false, rfl, (fun h => by cases h), ⟨rfl, rfl, rfl, Nat.le_refl _, fun _ _ => rfl⟩⟩
        · go_wp2
          go_ret
          refine ⟨true, rfl, fun _ => ?_, ⟨rfl, rfl, rfl, Nat.le_refl _, fun _ _ => rfl⟩⟩
          have h1 := Hq.out
          have h2 := HN.out
          rw [List.take_of_length_le (by omega)] at h1
          omega
    · have hbi : 262144 < (n : Int) := by omega
      go_enter Tryz.func22, Tryz.ntmps22
      go_wp2
      go_ret
      exact ⟨false, rfl, (fun h => by cases h), Below.refl _ _⟩
end Go.Proofs.YtapijhhmjjplmaaGreatDoor
