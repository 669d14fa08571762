/- OWN TEXT: the program's disk: Write. -/
import Derived.Test.YtphhmjcobmnpeaaGreatDoorPD7
namespace Go.Proofs.YtphhmjcobmnpeaaGreatDoor
open Go.RowKit Go.Maps

/-- What a write leaves. -/
def Dsk.write (d : Dsk) (k : Nat) (s : ByteArray) : Dsk := if d.op.down then d.op else { d.op with wait := d.op.wait ++ [(k, s)] }
/-- The three variables of Write lie in boxes. -/
def boxW (w : World) (bd : Nat) (at_ : Int) (s : ByteArray) : World := ((w.alloc (.cells #[.pointer (some ⟨bd, 0, none⟩)] 27)).alloc (.cells #[.int .i64 at_] 3)).alloc (.cells #[.string s] 9)
theorem boxW_same (S : Nat → Prop) (w : World) (bd : Nat) (at_ : Int) (s : ByteArray) : Same S w (boxW w bd at_ s) := ((Same.alloc0 w _).alloc _).alloc _
theorem boxW_size (w : World) (bd : Nat) (at_ : Int) (s : ByteArray) : (boxW w bd at_ s).heap.size = w.heap.size + 3 := by simp [boxW]
theorem boxW_d (w : World) (bd : Nat) (at_ : Int) (s : ByteArray) : (boxW w bd at_ s).cell? ⟨w.heap.size, 0, none⟩ = some (.pointer (some ⟨bd, 0, none⟩)) := by
  have h : (boxW w bd at_ s).heap[w.heap.size]? = some (.cells #[.pointer (some ⟨bd, 0, none⟩)] 27 (0, 0)) := by
    unfold boxW
    rw [Below.heap_alloc _ _ _ (by simp; omega), Below.heap_alloc _ _ _ (by simp)]
    exact heap_alloc_new w _
  rw [cell_of_row _ _ _ _ _ _ h]
  rfl
theorem boxW_a (w : World) (bd : Nat) (at_ : Int) (s : ByteArray) : (boxW w bd at_ s).cell? ⟨w.heap.size + 1, 0, none⟩ = some (.int .i64 at_) := by
  have h : (boxW w bd at_ s).heap[w.heap.size + 1]? = some (.cells #[.int .i64 at_] 3 (0, 0)) := by
    unfold boxW
    rw [Below.heap_alloc _ _ _ (by simp)]
    have h := heap_alloc_new (w.alloc (.cells #[.pointer (some ⟨bd, 0, none⟩)] 27)) (.cells #[.int .i64 at_] 3)
    simpa using h
  rw [cell_of_row _ _ _ _ _ _ h]
  rfl
theorem boxW_s (w : World) (bd : Nat) (at_ : Int) (s : ByteArray) : (boxW w bd at_ s).cell? ⟨w.heap.size + 2, 0, none⟩ = some (.string s) := by
  have h : (boxW w bd at_ s).heap[w.heap.size + 2]? = some (.cells #[.string s] 9 (0, 0)) := by
    unfold boxW
    have h := heap_alloc_new ((w.alloc (.cells #[.pointer (some ⟨bd, 0, none⟩)] 27)).alloc (.cells #[.int .i64 at_] 3)) (.cells #[.string s] 9)
    simpa using h
  rw [cell_of_row _ _ _ _ _ _ h]
  rfl

set_option maxRecDepth 100000 in
theorem dsk_write_bad (bd m : Nat) (S : Nat → Prop) (d : Dsk) (at_ : Int) (s : ByteArray) (ev : Value) (w : World) (h : DskAt w S bd m d) (hE : w.cell? ⟨0, 0, none⟩ = some ev) (hbad : ¬ (0 ≤ at_ ∧ at_ < d.safe.length ∧ s.size = 64)) :
    Calls Tryz.prog 44 #[.pointer (some ⟨bd, 0, none⟩), .int .i64 at_, .string s] w fun e w' => e = .returned ev ∧ DskAt w' S bd m d ∧ Same S w w' := by
  have hnot : ∀ (x : Bool) (w : World), (Op.unary .not (.bool x)).run Tryz.prog w = .ok (.bool (!x)) w := fun _ _ => rfl
  have h1 : DskAt (boxW w bd at_ s) S bd m d := h.on (boxW_same (fun _ => False) w bd at_ s) (fun _ _ h => h)
  have hE1 : (boxW w bd at_ s).cell? ⟨0, 0, none⟩ = some ev := (boxW_same (fun _ => False) w bd at_ s).cell (fun h => h) hE
  have HH : Hid (DskAt (boxW w bd at_ s) S bd m d ∧ Same S w (boxW w bd at_ s)) := ⟨h1, boxW_same S w bd at_ s⟩
  have HC := dsk_has bd m S d at_ _ h1
  have HHAS : Hid (Calls Tryz.prog 99 #[.pointer (some ⟨bd, 0, none⟩), .int .i64 at_] (boxW w bd at_ s) fun e w' => e = .returned (.bool (decide (0 ≤ at_) && decide (at_ < d.safe.length))) ∧ boxW w bd at_ s = w') := HC
  obtain ⟨b, hb⟩ : ∃ b, b = (decide (0 ≤ at_) && decide (at_ < d.safe.length)) := ⟨_, rfl⟩
  rw [← hb] at HHAS
  have h2 : b = true → ((s.size : Int) != 64) = true := fun e => by
    rw [bne_iff_ne]
    intro e2
    rw [e] at hb
    have hb := hb.symm
    rw [Bool.and_eq_true, decide_eq_true_iff, decide_eq_true_iff] at hb
    exact hbad ⟨hb.1, hb.2, by omega⟩
  have cd := boxW_d w bd at_ s
  have ca := boxW_a w bd at_ s
  have cs := boxW_s w bd at_ s
  unfold boxW at HHAS cd ca cs hE1 HH
  clear h h1 hE HC hb hbad
  cases b
  · clear h2
    go_enter Tryz.func44, Tryz.ntmps44
    go_wp2_with (go_at_call 99; refine HHAS.out.mono ?_; rintro e w' ⟨rfl, rfl⟩)
    go_ret
    exact ⟨rfl, HH.out.1, HH.out.2⟩
  · have h2 := h2 rfl
    go_enter Tryz.func44, Tryz.ntmps44
    go_wp2_with (go_at_call 99; refine HHAS.out.mono ?_; rintro e w' ⟨rfl, rfl⟩)
    go_ret
    exact ⟨rfl, HH.out.1, HH.out.2⟩

set_option maxRecDepth 100000 in
theorem dsk_write (bd m : Nat) (S : Nat → Prop) (d : Dsk) (k : Nat) (s : ByteArray) (ev : Value) (w : World) (h : DskAt w S bd m d) (hE : w.cell? ⟨1, 0, none⟩ = some ev) (hG : ¬ S 1) (hf : d.fuse ≤ 9223372036854775807)
    (hk : k < d.safe.length) (hs : s.size = 64) (hwl : d.wait.length ≤ 1000000) (hm : m ≤ 1000000) (hn : d.safe.length ≤ 4096) (hSl : ∀ g, S g → g < w.heap.size) :
    Calls Tryz.prog 44 #[.pointer (some ⟨bd, 0, none⟩), .int .i64 (k : Int), .string s] w fun e w' => e = .returned (if d.op.down then ev else .nilIface) ∧ (∃ m', m' ≤ m + 1 ∧ DskAt w' (fun g => S g ∨ w.heap.size ≤ g) bd m' (d.write k s)) ∧ Same S w w' := by
  have hmf : ∀ (fn : Fn) (first cap : Array Value) (w : World), (Instr.makeFunc fn first cap).run Tryz.prog w = .ok (.func fn first cap) w := fun _ _ _ _ => rfl
  have hnot : ∀ (x : Bool) (w : World), (Op.unary .not (.bool x)).run Tryz.prog w = .ok (.bool (!x)) w := fun _ _ => rfl
  have hs1 : Same (fun _ => False) w (boxW w bd k s) := boxW_same _ w bd k s
  have h1 : DskAt (boxW w bd k s) S bd m d := h.on hs1 (fun _ _ h => h)
  have hE1 : (boxW w bd k s).cell? ⟨1, 0, none⟩ = some ev := hs1.cell (fun h => h) hE
  have hSb : S bd := by obtain ⟨_, _, _, h⟩ := h; exact h.rest.sb
  have hbl := hSl bd hSb
  have HC := dsk_has bd m S d k _ h1
  rw [decide_eq_true (show (0 : Int) ≤ k by omega), decide_eq_true (show (k : Int) < d.safe.length by omega)] at HC
  have HHAS : Hid (Calls Tryz.prog 99 #[.pointer (some ⟨bd, 0, none⟩), .int .i64 (k : Int)] (boxW w bd k s) fun e w' => e = .returned (.bool true) ∧ boxW w bd k s = w') := HC
  have cd := boxW_d w bd k s
  have ca := boxW_a w bd k s
  have cs := boxW_s w bd k s
  have hz := boxW_size w bd k s
  have HO : Hid (Calls Tryz.prog 100 #[.pointer (some ⟨bd, 0, none⟩), .func (.func 101) #[] #[.pointer (some ⟨w.heap.size + 1, 0, none⟩), .pointer (some ⟨w.heap.size + 2, 0, none⟩), .pointer (some ⟨w.heap.size, 0, none⟩)]] (boxW w bd k s) fun e w' => e = .returned (if d.op.down then ev else .nilIface) ∧ Hid (∃ m', m' ≤ m + 1 ∧ DskAt w' (fun g => S g ∨ w.heap.size ≤ g) bd m' (d.write k s)) ∧ Hid (Same S w w')) := by
    cases hd : d.op.down
    · have hfl : d.write k s = { d.op with wait := d.op.wait ++ [(k, s)] } := by unfold Dsk.write; rw [hd]; rfl
      rw [hfl]
      refine (operate_write bd m (m + 1) S (fun g => S g ∨ w.heap.size ≤ g) (fun g => S g ∨ w.heap.size ≤ g) d { d.op with wait := d.op.wait ++ [(k, s)] } _ _ h1 hd hf (fun _ h => .inl h) (fun _ h => h) (fun w2 gs bm wv hv hs2 => ?_)).mono ?_
      · have hne : ∀ j, ¬ S (w.heap.size + j) := fun j h => by have := hSl _ h; omega
        have hp : w2.cell? ⟨w.heap.size, 0, none⟩ = some (.pointer (some ⟨bd, 0, none⟩)) := hs2.cell (by show ¬ w.heap.size = bd; omega) cd
        have hpa : w2.cell? ⟨w.heap.size + 1, 0, none⟩ = some (.int .i64 (k : Int)) := hs2.cell (by show ¬ w.heap.size + 1 = bd; omega) ca
        have hps : w2.cell? ⟨w.heap.size + 2, 0, none⟩ = some (.string s) := hs2.cell (by show ¬ w.heap.size + 2 = bd; omega) cs
        refine (write1 bd gs bm m S wv d.op ⟨w.heap.size + 1, 0, none⟩ ⟨w.heap.size + 2, 0, none⟩ ⟨w.heap.size, 0, none⟩ k s w2 hv hpa hps hp (hne 1) (hne 0) (by rw [dop_safe]; exact hk) hs (by rw [dop_wait]; exact hwl) hm (by rw [dop_safe]; exact hn)).mono ?_
        rintro e w3 ⟨rfl, ⟨gs', bm', wv', h3⟩, s3⟩
        have hz2 := hs2.size
        refine ⟨rfl, ⟨gs', bm', wv', h3.blk, h3.rest.mono (fun g hg => hg.imp id (fun h => ?_))⟩, s3.weak (fun _ h => .inl h)⟩
        omega
      · rintro e w3 ⟨rfl, h3, s3⟩
        refine ⟨rfl, ⟨m + 1, Nat.le_refl _, h3⟩, ?_⟩
        refine ⟨s3.os.trans hs1.os, s3.tape.trans hs1.tape, s3.output.trans hs1.output, Nat.le_trans hs1.size s3.size, fun g hg hn => ?_⟩
        exact (s3.block g (by omega) (by rintro (h | h); exact hn h; omega)).trans (hs1.block g hg (fun h => h))
    · have hfl : d.write k s = d.op := by unfold Dsk.write; rw [hd]; rfl
      rw [hfl]
      refine (operate_down bd m S d _ ev _ h1 hE1 (by rintro rfl; exact hG hSb) hd hf).mono ?_
      rintro e w3 ⟨rfl, h3, s3⟩
      exact ⟨rfl, ⟨m, Nat.le_succ _, h3.mono (fun _ h => .inl h)⟩, (boxW_same S w bd k s).trans s3⟩
  obtain ⟨rv, hrv⟩ : ∃ rv, rv = (if d.op.down then ev else Value.nilIface) := ⟨_, rfl⟩
  rw [← hrv] at HO ⊢
  have hsi : ((s.size : Int) != 64) = false := by rw [bne_eq_false_iff_eq]; omega
  unfold boxW at HO HHAS cd ca cs
  clear hrv hs1 h1 hE1 h hE hf hwl hn hSl HC hz hk hs hm
  go_enter Tryz.func44, Tryz.ntmps44
  go_wp2_with (first | (go_at_call 99; refine HHAS.out.mono ?_; rintro e w' ⟨rfl, rfl⟩) | (go_at_call 100; refine HO.out.mono ?_; rintro e w3 ⟨rfl, H3, S3⟩))
  go_ret
  exact ⟨rfl, H3.out, S3.out⟩
end Go.Proofs.YtphhmjcobmnpeaaGreatDoor
