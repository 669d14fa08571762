/- OWN TEXT: the program's disk against the reference's: what is held. -/
import Derived.Test.YtphhmjcobmnpeaaGreatDoorPD9
namespace Go.Proofs.YtphhmjcobmnpeaaGreatDoor
open Go.RowKit Go.Maps

theorem wrap64_small (n : Int) (h1 : 0 ≤ n) (h2 : n ≤ 9223372036854775807) : wrap64 n = n := by
  unfold wrap64
  first | omega | (simp; omega)
structure Rel (d : Dsk) (r : RDsk) : Prop where
  safe : r.safe = d.safe
  wait : r.wait = d.wait
  down : r.down = d.down
  seen : r.seen = applyAll d.wait d.safe
  fuse : d.down = true ∨ (r.lit = decide (0 < d.fuse) ∧ (0 < d.fuse → r.left = d.fuse))
  most : d.fuse ≤ 9223372036854775807
  size : 1 ≤ d.safe.length ∧ d.safe.length ≤ 4096
theorem Rel.seenLen {d : Dsk} {r : RDsk} (h : Rel d r) : r.seen.length = d.safe.length := by rw [h.seen, applyAll_length]
theorem Rel.op {d : Dsk} {r : RDsk} (h : Rel d r) : Rel d.op r.op := by
  have h7 : d.op.fuse ≤ 9223372036854775807 := by
    have := h.most
    unfold Dsk.op
    split
    · show d.fuse - 1 ≤ _; omega
    · exact this
  have h8 : 1 ≤ d.op.safe.length ∧ d.op.safe.length ≤ 4096 := by rw [dop_safe]; exact h.size
  have hdown : d.down = true → r.op.down = d.op.down ∧ d.op.down = true := fun hd => by
    have hr : r.down = true := h.down.trans hd
    have e1 : d.op.down = true := by
      unfold Dsk.op
      split
      · show (d.down || _) = true; rw [hd]; rfl
      · exact hd
    have e2 : r.op.down = true := by
      unfold RDsk.op
      split
      · show (r.down || _) = true; rw [hr]; rfl
      · exact hr
    exact ⟨e2.trans e1.symm, e1⟩
  cases hd : d.down
  · obtain hh | ⟨hl, hf⟩ := h.fuse
    · rw [hd] at hh; cases hh
    · by_cases h0 : 0 < d.fuse
      · have hleft := hf h0
        have hw : wrap64 (r.left - 1) = d.fuse - 1 := by rw [hleft]; exact wrap64_small _ (by omega) (by have := h.most; omega)
        have hlt : r.lit = true := by rw [hl]; exact decide_eq_true h0
        have hrd : r.down = false := h.down.trans hd
        have e : decide (d.fuse - 1 ≤ 0) = decide (d.fuse - 1 = 0) := by
          rw [decide_eq_decide]
          omega
        rw [dop_lit d h0] at h7 h8 ⊢
        rw [op_lit r hlt, hw, e, hd, hrd]
        refine ⟨h.safe, h.wait, rfl, h.seen, ?_, h7, h8⟩
        by_cases h1 : d.fuse - 1 = 0
        · left
          show (false || decide (d.fuse - 1 = 0)) = true
          rw [decide_eq_true h1]; rfl
        · right
          refine ⟨?_, fun _ => rfl⟩
          show r.lit = decide (0 < d.fuse - 1)
          rw [hlt, decide_eq_true (show 0 < d.fuse - 1 by omega)]
      · rw [dop_not d h0, op_not r (by rw [hl]; exact decide_eq_false h0)]
        exact h
  · obtain ⟨e1, e2⟩ := hdown hd
    exact ⟨by rw [op_safe, dop_safe]; exact h.safe, by rw [op_wait, dop_wait]; exact h.wait, e1, by rw [op_seen, dop_wait, dop_safe]; exact h.seen, .inl e2, h7, h8⟩
theorem applyAll_last (wait : List (Nat × ByteArray)) (safe : List ByteArray) (k : Nat) (s : ByteArray) : applyAll (wait ++ [(k, s)]) safe = (applyAll wait safe).set k s := by simp [applyAll, List.foldl_append]
theorem Rel.write {d : Dsk} {r : RDsk} (h : Rel d r) (k : Nat) (s : ByteArray) : Rel (d.write k s) (r.write k s) := by
  have ho := h.op
  unfold Dsk.write RDsk.write
  rw [ho.down]
  split
  · exact ho
  · refine ⟨ho.safe, ?_, ho.down, ?_, ho.fuse, ho.most, ho.size⟩
    · show _ ++ _ = _ ++ _; rw [ho.wait]
    · show r.op.seen.set k s = applyAll (d.op.wait ++ [(k, s)]) d.op.safe
      rw [applyAll_last, ho.seen]
theorem Rel.flush {d : Dsk} {r : RDsk} (h : Rel d r) : Rel d.flush r.flush := by
  have ho := h.op
  unfold Dsk.flush RDsk.flush
  rw [ho.down]
  split
  · exact ho
  · refine ⟨ho.seen, rfl, ho.down, ho.seen, ho.fuse, ho.most, ?_⟩
    show 1 ≤ (applyAll d.op.wait d.op.safe).length ∧ (applyAll d.op.wait d.op.safe).length ≤ 4096
    rw [applyAll_length]; exact ho.size
theorem Rel.crash {d : Dsk} {r : RDsk} (h : Rel d r) (ks : List Int) : Rel { d with safe := keepAll d.wait d.safe ks, wait := [], fuse := 0, down := false } (r.crash ks) := by
  refine ⟨?_, rfl, rfl, ?_, .inr ⟨rfl, fun h => absurd h (show ¬ (0 : Int) < 0 by omega)⟩, by show (0 : Int) ≤ _; omega, ?_⟩
  · show keepAll r.wait r.safe ks = _; rw [h.wait, h.safe]
  · show keepAll r.wait r.safe ks = keepAll d.wait d.safe ks; rw [h.wait, h.safe]
  · show 1 ≤ (keepAll d.wait d.safe ks).length ∧ _ ≤ _
    rw [keepAll_length]; exact h.size
theorem Rel.lit {d : Dsk} {r : RDsk} (h : Rel d r) (n : Int) (hn : n ≤ 9223372036854775807) : Rel { d with fuse := max n 0 } { r with lit := decide (0 < n), left := n } := by
  refine ⟨h.safe, h.wait, h.down, h.seen, .inr ⟨?_, fun hf => ?_⟩, ?_, h.size⟩
  · show decide (0 < n) = decide (0 < max n 0)
    rw [decide_eq_decide]; omega
  · show n = max n 0
    have : 0 < max n 0 := hf
    omega
  · show max n 0 ≤ _; omega
theorem Rel.fresh (n : Nat) (h : 1 ≤ n ∧ n ≤ 4096) : Rel (Dsk.fresh n) (RDsk.fresh n) :=
  ⟨rfl, rfl, rfl, rfl, .inr ⟨rfl, fun h => absurd h (show ¬ (0 : Int) < 0 by omega)⟩, by show (0 : Int) ≤ _; omega, by show 1 ≤ (List.replicate n z64).length ∧ (List.replicate n z64).length ≤ 4096; rw [List.length_replicate]; exact h⟩
theorem at_seen (safe : List ByteArray) (k : Nat) (hk : k < safe.length) (wait : List (Nat × ByteArray)) : (applyAll wait safe)[k]? = some ((lastW wait k).getD safe[k]) := by
  refine snoc_ind (P := fun l => (applyAll l safe)[k]? = some ((lastW l k).getD safe[k])) ?_ (fun l x ih => ?_) wait
  · show safe[k]? = some safe[k]
    exact List.getElem?_eq_getElem hk
  · obtain ⟨j, s⟩ := x
    rw [applyAll_last, lastW_snoc]
    by_cases h : j = k
    · subst h
      rw [if_pos rfl, List.getElem?_set_self (by rw [applyAll_length]; exact hk)]
      rfl
    · rw [if_neg h, List.getElem?_set_ne h]
      exact ih
theorem Rel.at {d : Dsk} {r : RDsk} (h : Rel d r) (k : Nat) (hk : k < d.safe.length) (hk' : k < r.seen.length) : r.seen[k] = d.at k hk := by
  have e := at_seen d.safe k hk d.wait
  rw [← h.seen, List.getElem?_eq_getElem hk'] at e
  exact Option.some.inj e
theorem Rel.ans {d : Dsk} {r : RDsk} (h : Rel d r) : r.ans = if d.op.down then 2 else 0 := by unfold RDsk.ans; rw [h.op.down]
end Go.Proofs.YtphhmjcobmnpeaaGreatDoor
