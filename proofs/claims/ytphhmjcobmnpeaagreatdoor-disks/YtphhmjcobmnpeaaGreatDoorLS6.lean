/- OWN TEXT: the law's steps of Disks, all. -/
import Derived.Test.YtphhmjcobmnpeaaGreatDoorLS5
import Derived.Test.YtphhmjcobmnpeaaGreatDoorDoes
namespace Go.Proofs.YtphhmjcobmnpeaaGreatDoor
open Go.RowKit Go.Maps

theorem DInv.init {w w1 : World} {b : Nat} {kv hv : Value} (M : Made (w.alloc (.cells freshW 47)) w1 b kv hv) : DInv w 0 (w1.setCell ⟨w.heap.size, 0, none⟩ (.pointer (some ⟨b, 0, none⟩))) := by
  have S := SInv.init M
  have h0 : w1.heap[w.heap.size]? = some (.cells freshW 47 (0, 0)) := by
    rw [M.below.block _ (by simp)]
    exact heap_alloc_new w _
  refine ⟨b, .slice none 0 0, [], .slice none 0 0, [], 262144, fun _ => 0, ⟨S.below, ?_, ⟨⟨rfl, .inl ⟨rfl, rfl⟩⟩, fun g hg => (by cases hg)⟩, Nat.le_refl _, ⟨⟨rfl, .inl ⟨rfl, rfl⟩⟩, fun g hg => (by cases hg)⟩, Nat.le_refl _, fun k hk => (by cases hk), by omega, by omega⟩⟩
  rw [heap_setCell_same w1 _ 0 _ _ _ h0]
  rfl

theorem disks_steps (w : World) (l : List Stp) (hb : l.length ≤ 262144) (a : Nat → Addr) (S0 : Sent w a) : StepsN w 4088 l (DInv w) D4088 where
  below := fun _ _ h => by obtain ⟨b, kv, ks, av, l, left, o, I⟩ := h; exact I.below
  left := fun _ W h => by obtain ⟨b, kv, ks, av, l, left, o, I⟩ := h; exact ⟨left, I.left⟩
  mono := fun _ _ _ h hb => by obtain ⟨b, kv, ks, av, l, left, o, I⟩ := h; exact ⟨b, kv, ks, av, l, left, o, I.mono hb⟩
  succ := fun _ _ h => by obtain ⟨b, kv, ks, av, l, left, o, I⟩ := h; exact ⟨b, kv, ks, av, l, left, o, I.succ⟩
  init := fun _ _ _ _ M => DInv.init M
  does := fun x _ h1 h2 W => does4088 x h1 h2 W
  step := fun i x hi _ _ _ hd W I hL hra hrd => by
    unfold D4088 at hd
    rw [Bool.and_eq_true, decide_eq_true_iff, decide_eq_true_iff] at hd
    by_cases h3 : x.kind = 3
    · exact step_new w W i (by omega) x h3 hra I hL
    · by_cases h8 : x.kind = 8
      · exact step_keep w W i (by omega) x h8 I
      · exact step_pair w W a S0 i (by omega) x (by omega) hra hrd I hL
  looks := fun i W I => by
    have hI := I
    obtain ⟨b, kv, ks, av, l, left, o, I⟩ := I
    have c3 : W.cell? ⟨w.heap.size, 3, none⟩ = some (.slice none 0 0) := by rw [cell_of_row _ _ _ _ _ _ I.row]; rfl
    refine (looks_nil w.heap.size W c3).mono ?_
    rintro e W' ⟨rfl, rfl⟩
    exact ⟨rfl, hI⟩
set_option maxRecDepth 100000 in
theorem disks_any (v : Value) (l : List Stp) (w : World) (hs : Scr w v l) (a : Nat → Addr) (S0 : Sent w a) :
    Calls Tryz.prog 4 #[v] w fun e w' => e = .returned (.bool true) ∧ Below w.heap.size w w' := by
  have hp := plays_ofN 4088 4088 false v l w hs (fun w1 hb hl => ⟨_, _, disks_steps w1 l (by omega) a (S0.on hb)⟩)
  have HH : Hid (Calls Tryz.prog 6 #[v, .int .i64 4088, .int .i64 4088, .bool false] w fun e w' => PlaysPost w e w') := hp
  clear hp
  go_enter Tryz.func4, Tryz.ntmps4
  go_wp2_with fail
  refine HH.out.mono ?_
  rintro e w1 ⟨rfl, hb⟩
  have HB : Hid (Below w.heap.size w w1) := hb
  clear hb
  go_wp2
  go_ret
  exact ⟨rfl, HB.out⟩
end Go.Proofs.YtphhmjcobmnpeaaGreatDoor
