/- OWN TEXT: the walk of Names. -/
import Derived.Test.YtapijhhmjjplmaaDoorReason
namespace Go.Proofs.YtapijhhmjjplmaaDoor
open Go.RowKit Go.Extern.Stop Go.Stop Go.Extern

set_option maxHeartbeats 1000000 in
theorem names_any (a : Nat → Addr) (w : World) (S : Sent w a) :
    Calls Tryd.prog 3 #[] w fun e w' => e = .returned (.bool true) ∧ Below w.heap.size w w' := by
  go_enter Tryd.func3, Tryd.ntmps3
  go_wp2
  go_loopw [1] (fun i wr => ∃ m : Nat, m ≤ 12 ∧ i = .int .i64 m ∧ Below w.heap.size w wr) (fun i _ => 12 - (intOf i).toNat)
  case atStart => exact ⟨0, by omega, rfl, Below.refl _ _⟩
  case round =>
    obtain ⟨m, hm, rfl, hb⟩ := hrel
    by_cases hlt : m < 12
    · have S1 := S.on hb
      have HB : Hid (Below w.heap.size w wr) := hb
      clear hb
      go_wp2_with fail
      refine (reason_bare m hlt a _ S1).mono ?_
      rintro e w1 ⟨rfl, hw1⟩
      have S2 := S1.on hw1
      have H1 := hw1.size
      have HB1 : Hid (Below w.heap.size w w1) := HB.out.trans (hw1.mono HB.out.size)
      clear hw1
      go_wp2_with fail
      refine (reason_fault m hlt a _ S2).mono ?_
      rintro e w2 ⟨rfl, hw2⟩
      have HB2 : Hid (Below w.heap.size w w2) := HB1.out.trans (hw2.mono HB1.out.size)
      clear hw2
      go_wp2
      go_roundw
      case rel => exact ⟨m + 1, by omega, by go_num, HB2.out⟩
      case measure => simp [intOf]; omega
    · go_wp2
      go_ret
      exact ⟨rfl, hb⟩
end Go.Proofs.YtapijhhmjjplmaaDoor
