/- OWN TEXT: the errors' texts, and plain.Reason. -/
import Derived.Test.YtapijhhmjjplmaaDoorNumber
namespace Go.Proofs.YtapijhhmjjplmaaDoor
open Go.RowKit Go.Extern.Stop Go.Stop Go.Extern

theorem error_text (a : Addr) (s : ByteArray) (w : World) (h : w.cell? a = some (.string s)) :
    Calls Tryd.prog 63 #[.pointer (some a)] w fun e w' => e = .returned (.string s) ∧ w' = w := by
  go_enter Tryd.func63, Tryd.ntmps63
  go_wp2
  go_ret
  exact ⟨rfl, rfl⟩

def seven : ByteArray := ⟨#[55]⟩
theorem itoa_seven (w : World) :
    Calls Tryd.prog 35 #[.int .i64 7] w fun e w' => e = .returned (.string seven) ∧ w' = w := by
  go_enter Tryd.func35, Tryd.ntmps35
  go_wp2
  go_ret
  exact ⟨rfl, rfl⟩
theorem methodErrorE (v : Value) (w : World) : (Go.method 218 66 v "Error").run Tryd.prog w = .ok (63, v) w := by kernel_rfl
theorem methodErrorF (v : Value) (w : World) : (Go.method 218 28 v "Error").run Tryd.prog w = .ok (33, v) w := by kernel_rfl

theorem fault_text (pb : Nat) (a : Addr) (s : ByteArray) (w : World) (hat : w.cell? ⟨pb, 0, none⟩ = some (.int .i64 7)) (her : w.cell? ⟨pb, 1, none⟩ = some (rv a)) (h : w.cell? a = some (.string s)) (hs : s.size < 1000) :
    Calls Tryd.prog 33 #[.pointer (some ⟨pb, 0, none⟩)] w fun e w' => (∃ t : ByteArray, e = .returned (.string t) ∧ 0 < t.size) ∧ w' = w := by
  have mE := methodErrorE
  have hs7 : seven.size ≤ 1 := Nat.le_refl _
  go_enter Tryd.func33, Tryd.ntmps33
  go_wp2_with (first | (go_at_call 35; refine (itoa_seven _).mono ?_; rintro e w' ⟨rfl, rfl⟩) | (go_at_call 63; refine (error_text a s _ h).mono ?_; rintro e w' ⟨rfl, rfl⟩))
  go_ret
  exact ⟨⟨_, rfl, by simp only [ByteArray.size_append]; show 0 < 7 + seven.size + 2 + s.size; omega⟩, rfl⟩

theorem nonempty_text (t : ByteArray) (h : 0 < t.size) : t.toList.isEmpty = false := by
  rw [ByteArray.toList_eq]
  cases e : t.data.toList with
  | nil => have : t.size = 0 := by rw [← ByteArray.size_data, ← Array.length_toList, e]; rfl
           omega
  | cons => rfl

set_option maxHeartbeats 1000000 in
theorem reason_bare (k : Nat) (hk : k < 12) (a : Nat → Addr) (w : World) (S : Sent w a) :
    Calls Tryd.prog 4 #[.int .i64 (k : Int), .bool false] w fun e w' => e = .returned (.tuple #[.int .i64 ((k : Int) + 1), .int .i64 (-1), .bool true]) ∧ Below w.heap.size w w' := by
  have q0 := S.v0
  have q1 := S.v1
  have q2 := S.v2
  have q3 := S.v3
  have q4 := S.v4
  have q5 := S.v5
  have q6 := S.v6
  have q7 := S.v7
  have q8 := S.v8
  have q9 := S.v9
  have q10 := S.v10
  have q11 := S.v11
  have mE := methodErrorE
  have hx : ∀ h : k < [rv (a 0), rv (a 1), rv (a 2), rv (a 3), rv (a 4), rv (a 5), rv (a 6), rv (a 7), rv (a 8), rv (a 9), rv (a 10), rv (a 11)].length, [rv (a 0), rv (a 1), rv (a 2), rv (a 3), rv (a 4), rv (a 5), rv (a 6), rv (a 7), rv (a 8), rv (a 9), rv (a 10), rv (a 11)][k]'h = rv (a k) := by
    have := reasons_at a k hk
    rw [reasons, List.getElem?_toArray] at this
    intro h
    rw [List.getElem?_eq_getElem h] at this
    exact Option.some.inj this
  obtain ⟨s, hs, hs1, hs2⟩ := S.text k hk
  have hem := nonempty_text s hs1
  have hal := (Below.refl w.heap.size w).alloc (Nat.le_refl _) (.cells (reasons a) 26)
  have S1 := S.on hal
  unfold reasons at S1 hal
  go_enter Tryd.func4, Tryd.ntmps4
  go_wp2_with fail
  refine (number_bare k hk a _ S1).mono ?_
  rintro e w' ⟨rfl, hw⟩
  have hb : Below w.heap.size w w' := hal.trans (hw.mono (by simp))
  have hs' := cell_on hb hs (cell_lt hs)
  have HB : Hid (Below w.heap.size w w') := hb
  clear hb hw hal S1 q0 q1 q2 q3 q4 q5 q6 q7 q8 q9 q10 q11 hx
  go_wp2_with (go_at_call 63; refine (error_text (a k) s _ hs').mono ?_; rintro e w' ⟨rfl, rfl⟩)
  go_ret3
  exact ⟨rfl, HB.out⟩

set_option maxHeartbeats 1000000 in
theorem reason_fault (k : Nat) (hk : k < 12) (a : Nat → Addr) (w : World) (S : Sent w a) :
    Calls Tryd.prog 4 #[.int .i64 (k : Int), .bool true] w fun e w' => e = .returned (.tuple #[.int .i64 ((k : Int) + 1), .int .i64 7, .bool true]) ∧ Below w.heap.size w w' := by
  have q0 := S.v0
  have q1 := S.v1
  have q2 := S.v2
  have q3 := S.v3
  have q4 := S.v4
  have q5 := S.v5
  have q6 := S.v6
  have q7 := S.v7
  have q8 := S.v8
  have q9 := S.v9
  have q10 := S.v10
  have q11 := S.v11
  have mE := methodErrorF
  have hx : ∀ h : k < [rv (a 0), rv (a 1), rv (a 2), rv (a 3), rv (a 4), rv (a 5), rv (a 6), rv (a 7), rv (a 8), rv (a 9), rv (a 10), rv (a 11)].length, [rv (a 0), rv (a 1), rv (a 2), rv (a 3), rv (a 4), rv (a 5), rv (a 6), rv (a 7), rv (a 8), rv (a 9), rv (a 10), rv (a 11)][k]'h = rv (a k) := by
    have := reasons_at a k hk
    rw [reasons, List.getElem?_toArray] at this
    intro h
    rw [List.getElem?_eq_getElem h] at this
    exact Option.some.inj this
  obtain ⟨s, hs, hs1, hs2⟩ := S.text k hk
  have hem := nonempty_text s hs1
  have hal := (Below.refl w.heap.size w).alloc (Nat.le_refl _) (.cells (reasons a) 26)
  have S1 := S.on hal
  unfold reasons at S1 hal
  go_enter Tryd.func4, Tryd.ntmps4
  go_wp2_with fail
  have hal2 := hal.alloc (by simp) (.cells #[.int .i64 7, rv (a k)] 30)
  have S2 := S.on hal2
  have hat := World.cell?_alloc_at (w := w.alloc (.cells #[rv (a 0), rv (a 1), rv (a 2), rv (a 3), rv (a 4), rv (a 5), rv (a 6), rv (a 7), rv (a 8), rv (a 9), rv (a 10), rv (a 11)] 26)) #[.int .i64 7, rv (a k)] 30 (w.heap.size + 1) 0 (by simp)
  have her := World.cell?_alloc_at (w := w.alloc (.cells #[rv (a 0), rv (a 1), rv (a 2), rv (a 3), rv (a 4), rv (a 5), rv (a 6), rv (a 7), rv (a 8), rv (a 9), rv (a 10), rv (a 11)] 26)) #[.int .i64 7, rv (a k)] 30 (w.heap.size + 1) 1 (by simp)
  refine (number_fault k hk a (w.heap.size + 1) 7 _ S2 hat her).mono ?_
  rintro e w' ⟨rfl, hw⟩
  have hb : Below w.heap.size w w' := hal2.trans (hw.mono (by simp; omega))
  have hs' := cell_on hb hs (cell_lt hs)
  have hat' := cell_on hw hat (by simp)
  have her' := cell_on hw her (by simp)
  have HB : Hid (Below w.heap.size w w') := hb
  clear hb hw hal hal2 S1 S2 q0 q1 q2 q3 q4 q5 q6 q7 q8 q9 q10 q11 hx hat her
  go_wp2_with (go_at_call 33; refine (fault_text (w.heap.size + 1) (a k) s _ hat' her' hs' hs2).mono ?_; rintro e w' ⟨⟨t, rfl, ht⟩, rfl⟩; have hte := nonempty_text t ht)
  go_ret3
  exact ⟨rfl, HB.out⟩

end Go.Proofs.YtapijhhmjjplmaaDoor
