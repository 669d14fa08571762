/- OWN TEXT: the table's words by Once; the program's CRC. -/
import Derived.Test.YtapijhhmjjplmaaGreatDoorCrc
import Derived.Test.YtapijhhmjjplmaaGreatDoorOnce
import Derived.Laws.NewBlocks
namespace Go.Proofs.YtapijhhmjjplmaaGreatDoor
open Go.RowKit

set_option maxRecDepth 100000 in
set_option maxHeartbeats 1600000 in
theorem slow_any (b : Nat) (pl : Addr) (ws : List Nat) (w : World) (hp : w.cell? pl = some (.pointer (some ⟨b, 0, none⟩))) (hpb : pl.block ≠ b) (hw : ws.length = 16) (ht : TabAt w b 0 0 ws) :
    Calls Tryz.prog 313 #[.pointer (some ⟨b, 0, none⟩), .func (.func 294) #[] #[.pointer (some pl)]] w fun e w' => e = .returned (.tuple #[]) ∧ TabAt w' b 1 0 tabN ∧ Same (· = b) w w' := by
  have ht1 := ht.set1 1
  have hs1 : Same (· = b) w (w.setCell ⟨b, 1, none⟩ (.int .i32 1)) := Same.setCell (S := (· = b)) (Same.refl _ w) ⟨b, 1, none⟩ rfl _
  have hp1 := hs1.cell hpb hp
  have HT1 : Hid (TabAt (w.setCell ⟨b, 1, none⟩ (.int .i32 1)) b 0 1 ws) := ht1
  have HS1 : Hid (Same (· = b) w (w.setCell ⟨b, 1, none⟩ (.int .i32 1))) := hs1
  have HP1 : Hid ((w.setCell ⟨b, 1, none⟩ (.int .i32 1)).cell? pl = some (.pointer (some ⟨b, 0, none⟩))) := hp1
  have c1 := ht.c1
  have f1 := ht.frozen 1
  have hl := run_call_load (P := Tryz.prog) Tryz.func322 (by kernel_rfl) (by kernel_rfl) (by kernel_rfl) .u32 (by kernel_rfl) (w := w.setCell ⟨b, 1, none⟩ (.int .i32 1)) (a := ⟨b, 0, none⟩) (x := 0) ht1.c0
  have hnot : ∀ (x : Bool) (w : World), (Op.unary .not (.bool x)).run Tryz.prog w = .ok (.bool (!x)) w := fun _ _ => rfl
  clear ht1 hs1 hp1 ht hp
  go_enter_defers Tryz.func313, Tryz.ntmps313
  go_wp2_with (first | (go_at_call 57; refine (lock_free ⟨b, 1, none⟩ _ c1 f1).mono ?_; rintro e w' ⟨rfl, rfl⟩) | (go_at_call 294; refine (word1_any b pl 0 1 ws _ HP1.out hpb hw HT1.out).mono ?_; rintro e w2 ⟨rfl, h2, s2⟩) | (go_at_call 312; go_in))
  have HS2 : Hid (Same (· = b) w w2) := HS1.out.trans s2
  refine leaves_cons (f := 323) (args := #[.pointer (some ⟨b, 0, none⟩), .bool true]) (by simp) (by simp [go_sem]) ?_
  refine (store_deferred ⟨b, 0, none⟩ (.int .u32 0) .returning _ h2.c0 (h2.frozen 0)).mono ?_
  rintro e u' w3 ⟨rfl, rfl, hw3⟩
  have h3 : TabAt w3 b 1 1 tabN := by rw [hw3]; exact TabAt.set0 (w := w2.drew) h2 1
  have s3 : Same (· = b) w w3 := by rw [hw3]; exact Same.setCell (S := (· = b)) HS2.out.drew ⟨b, 0, none⟩ rfl _
  refine leaves_cons (f := 58) (args := #[.pointer (some ⟨b, 1, none⟩)]) (by simp [settle]) (by simp [go_sem]) ?_
  refine (unlock_deferred ⟨b, 1, none⟩ _ _ h3.c1 (h3.frozen 1)).mono ?_
  rintro e u' w4 ⟨rfl, rfl, hw4⟩
  have h4 : TabAt w4 b 1 0 tabN := by rw [hw4]; exact h3.set1 0
  have s4 : Same (· = b) w w4 := by rw [hw4]; exact Same.setCell (S := (· = b)) s3 ⟨b, 1, none⟩ rfl _
  simp [Leaves, settle, results, Tryz.results313]
  exact ⟨h4, s4⟩

set_option maxRecDepth 100000 in
set_option maxHeartbeats 1600000 in
theorem do_first (b : Nat) (pl : Addr) (ws : List Nat) (w : World) (hp : w.cell? pl = some (.pointer (some ⟨b, 0, none⟩))) (hpb : pl.block ≠ b) (hw : ws.length = 16) (ht : TabAt w b 0 0 ws) :
    Calls Tryz.prog 293 #[.pointer (some ⟨b, 0, none⟩), .func (.func 294) #[] #[.pointer (some pl)]] w fun e w' => e = .returned (.tuple #[]) ∧ TabAt w' b 1 0 tabN ∧ Same (· = b) w w' := by
  have hl := run_call_load (P := Tryz.prog) Tryz.func322 (by kernel_rfl) (by kernel_rfl) (by kernel_rfl) .u32 (by kernel_rfl) (w := w) (a := ⟨b, 0, none⟩) (x := 0) ht.c0
  have hnot : ∀ (x : Bool) (w : World), (Op.unary .not (.bool x)).run Tryz.prog w = .ok (.bool (!x)) w := fun _ _ => rfl
  have HP : Hid (w.cell? pl = some (.pointer (some ⟨b, 0, none⟩))) := hp
  have HT : Hid (TabAt w b 0 0 ws) := ht
  clear hp ht
  go_enter Tryz.func293, Tryz.ntmps293
  go_wp2_with (first | (go_at_call 313; refine (slow_any b pl ws _ HP.out hpb hw HT.out).mono ?_; rintro e w' ⟨rfl, h2, s2⟩) | (go_at_call 312; go_in))
  go_end0
  exact ⟨rfl, h2, s2⟩

set_option maxRecDepth 100000 in
theorem do_done (b : Nat) (m : Int) (fv : Value) (ws : List Nat) (w : World) (ht : TabAt w b 1 m ws) :
    Calls Tryz.prog 293 #[.pointer (some ⟨b, 0, none⟩), fv] w fun e w' => e = .returned (.tuple #[]) ∧ w = w' := by
  have hl := run_call_load (P := Tryz.prog) Tryz.func322 (by kernel_rfl) (by kernel_rfl) (by kernel_rfl) .u32 (by kernel_rfl) (w := w) (a := ⟨b, 0, none⟩) (x := 1) ht.c0
  have hnot : ∀ (x : Bool) (w : World), (Op.unary .not (.bool x)).run Tryz.prog w = .ok (.bool (!x)) w := fun _ _ => rfl
  clear ht
  go_enter Tryz.func293, Tryz.ntmps293
  go_wp2
  go_end0
  exact ⟨rfl, rfl⟩

def zeros16 : List Nat := List.replicate 16 0
/-- A table, fresh or made. -/
def TabOk (w : World) (b : Nat) : Prop := TabAt w b 0 0 zeros16 ∨ TabAt w b 1 0 tabN
theorem TabOk.lt {w : World} {b : Nat} (h : TabOk w b) : b < w.heap.size := h.elim TabAt.lt TabAt.lt

set_option maxRecDepth 100000 in
set_option maxHeartbeats 1600000 in
theorem word_any (b x : Nat) (w : World) (ht : TabOk w b) (hx : x < 16) :
    Calls Tryz.prog 279 #[.pointer (some ⟨b, 0, none⟩), .int .u32 (x : Int)] w fun e w' => e = .returned (.int .u32 (tabN.getD x 0 : Int)) ∧ TabOk w' b ∧ Same (· = b) w w' := by
  have hmf : ∀ (fn : Fn) (first cap : Array Value) (w : World), (Instr.makeFunc fn first cap).run Tryz.prog w = .ok (.func fn first cap) w := fun _ _ _ _ => rfl
  have hlt := ht.lt
  obtain ⟨w1, hw1⟩ : ∃ w1, w1 = w.alloc (.cells #[.pointer (some ⟨b, 0, none⟩)] 174) := ⟨_, rfl⟩
  have p1 : w1.cell? ⟨w.heap.size, 0, none⟩ = some (.pointer (some ⟨b, 0, none⟩)) := by rw [hw1]; simp
  have s1 : Same (· = b) w w1 := by rw [hw1]; exact (Same.refl _ _).alloc _
  have HX : Hid (∀ w' : World, TabAt w' b 1 0 tabN → w'.cell? ⟨b, 3 + x, none⟩ = some (.int .u32 (tabN.getD x 0 : Int))) := fun w' h => by
    rw [h.word x (by rw [tabN_length]; exact hx), get_getD]
  obtain ⟨y, hy⟩ : ∃ y, y = tabN.getD x 0 := ⟨_, rfl⟩
  rw [← hy] at HX ⊢
  clear hy
  rcases ht with ht | ht
  · have HT : Hid (TabAt w1 b 0 0 zeros16) := by rw [hw1]; exact ht.alloc _
    have HP : Hid (w1.cell? ⟨w.heap.size, 0, none⟩ = some (.pointer (some ⟨b, 0, none⟩))) := p1
    have HS : Hid (Same (· = b) w w1) := s1
    have HD : Hid (Calls Tryz.prog 293 #[.pointer (some ⟨b, 0, none⟩), .func (.func 294) #[] #[.pointer (some ⟨w.heap.size, 0, none⟩)]] w1 fun e w' => e = .returned (.tuple #[]) ∧ w'.cell? ⟨w.heap.size, 0, none⟩ = some (.pointer (some ⟨b, 0, none⟩)) ∧ w'.cell? ⟨b, 3 + x, none⟩ = some (.int .u32 (y : Int)) ∧ Hid (TabAt w' b 1 0 tabN) ∧ Hid (Same (· = b) w w')) := by
      refine (do_first b ⟨w.heap.size, 0, none⟩ zeros16 w1 HP.out (by simp; omega) rfl HT.out).mono ?_
      rintro e w2 ⟨rfl, h2, s2⟩
      exact ⟨rfl, s2.cell (by simp; omega) HP.out, HX.out _ h2, h2, HS.out.trans s2⟩
    rw [hw1] at HD
    clear ht p1 s1 HT HP HS hw1 HX w1
    go_enter Tryz.func279, Tryz.ntmps279
    go_wp2_with (go_at_call 293; refine HD.out.mono ?_; rintro e w2 ⟨rfl, p2, c2, H2, S2⟩)
    go_ret
    exact ⟨rfl, .inr H2.out, S2.out⟩
  · have HT : Hid (TabAt w1 b 1 0 tabN) := by rw [hw1]; exact ht.alloc _
    have HS : Hid (Same (· = b) w w1) := s1
    have HD : Hid (∀ fv, Calls Tryz.prog 293 #[.pointer (some ⟨b, 0, none⟩), fv] w1 fun e w' => e = .returned (.tuple #[]) ∧ w'.cell? ⟨w.heap.size, 0, none⟩ = some (.pointer (some ⟨b, 0, none⟩)) ∧ w'.cell? ⟨b, 3 + x, none⟩ = some (.int .u32 (y : Int)) ∧ Hid (TabAt w' b 1 0 tabN) ∧ Hid (Same (· = b) w w')) := fun fv => by
      refine (do_done b 0 fv tabN w1 HT.out).mono ?_
      rintro e w2 ⟨rfl, rfl⟩
      exact ⟨rfl, p1, HX.out _ HT.out, HT, HS⟩
    rw [hw1] at HD
    clear ht p1 s1 HT HS hw1 HX w1
    go_enter Tryz.func279, Tryz.ntmps279
    go_wp2_with (go_at_call 293; refine (HD.out _).mono ?_; rintro e w2 ⟨rfl, p2, c2, H2, S2⟩)
    go_ret
    exact ⟨rfl, .inr H2.out, S2.out⟩
end Go.Proofs.YtapijhhmjjplmaaGreatDoor
