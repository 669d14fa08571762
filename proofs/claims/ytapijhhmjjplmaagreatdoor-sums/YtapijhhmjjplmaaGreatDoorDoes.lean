/- OWN TEXT: which steps are made; lists of which none was handed out. -/
import Derived.Test.YtapijhhmjjplmaaGreatDoorUpto
namespace Go.Proofs.YtapijhhmjjplmaaGreatDoor
open Go.RowKit

def D6 (x : Stp) : Bool := decide (x.kind = 1) || decide (x.kind = 2)
def D4088 (x : Stp) : Bool := decide (3 ≤ x.kind) && decide (x.kind ≤ 11)

theorem does6 (x : Stp) (h1 : 1 ≤ x.kind) (h2 : x.kind ≤ 22) (W : World) :
    Calls Tryz.prog 40 #[stpV x, .int .i64 6] W fun e W' => e = .returned (.bool (D6 x)) ∧ Below W.heap.size W W' := by
  obtain ⟨k, a, b, d, s, t⟩ := x
  have hk : k = 1 ∨ k = 2 ∨ k = 3 ∨ k = 4 ∨ k = 5 ∨ k = 6 ∨ k = 7 ∨ k = 8 ∨ k = 9 ∨ k = 10 ∨ k = 11 ∨ k = 12 ∨ k = 13 ∨ k = 14 ∨ k = 15 ∨ k = 16 ∨ k = 17 ∨ k = 18 ∨ k = 19 ∨ k = 20 ∨ k = 21 ∨ k = 22 := by simp only at h1 h2; omega
  clear h1 h2
  rcases hk with rfl | rfl | rfl | rfl | rfl | rfl | rfl | rfl | rfl | rfl | rfl | rfl | rfl | rfl | rfl | rfl | rfl | rfl | rfl | rfl | rfl | rfl
  all_goals
    go_enter Tryz.func40, Tryz.ntmps40
    go_wp2
    all_goals
      go_ret
      exact ⟨rfl, (Below.refl _ _).alloc (Nat.le_refl _) _⟩

theorem does4088 (x : Stp) (h1 : 1 ≤ x.kind) (h2 : x.kind ≤ 22) (W : World) :
    Calls Tryz.prog 40 #[stpV x, .int .i64 4088] W fun e W' => e = .returned (.bool (D4088 x)) ∧ Below W.heap.size W W' := by
  obtain ⟨k, a, b, d, s, t⟩ := x
  have hk : k = 1 ∨ k = 2 ∨ k = 3 ∨ k = 4 ∨ k = 5 ∨ k = 6 ∨ k = 7 ∨ k = 8 ∨ k = 9 ∨ k = 10 ∨ k = 11 ∨ k = 12 ∨ k = 13 ∨ k = 14 ∨ k = 15 ∨ k = 16 ∨ k = 17 ∨ k = 18 ∨ k = 19 ∨ k = 20 ∨ k = 21 ∨ k = 22 := by simp only at h1 h2; omega
  clear h1 h2
  rcases hk with rfl | rfl | rfl | rfl | rfl | rfl | rfl | rfl | rfl | rfl | rfl | rfl | rfl | rfl | rfl | rfl | rfl | rfl | rfl | rfl | rfl | rfl
  all_goals
    go_enter Tryz.func40, Tryz.ntmps40
    go_wp2
    all_goals
      go_ret
      exact ⟨rfl, (Below.refl _ _).alloc (Nat.le_refl _) _⟩

theorem looks_nil (bw : Nat) (W : World) (h3 : W.cell? ⟨bw, 3, none⟩ = some (.slice none 0 0)) :
    Calls Tryz.prog 42 #[.pointer (some ⟨bw, 0, none⟩)] W fun e W' => e = .returned (.bool true) ∧ W = W' := by
  go_enter Tryz.func42, Tryz.ntmps42
  go_wp2
  go_loop [3] (fun i => i = .int .i64 0) (fun _ => 0)
  case atStart => rfl
  case round =>
    obtain rfl := hrel
    go_wp2
    go_ret
    exact ⟨rfl, rfl⟩
end Go.Proofs.YtapijhhmjjplmaaGreatDoor
