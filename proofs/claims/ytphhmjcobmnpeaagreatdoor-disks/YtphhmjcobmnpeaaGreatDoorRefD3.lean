/- OWN TEXT: the reference's disk: Flush, Crash. -/
import Derived.Test.YtphhmjcobmnpeaaGreatDoorRefD2
namespace Go.Proofs.YtphhmjcobmnpeaaGreatDoor
open Go.RowKit

theorem addTo_setG {α : Type} (h a : List α) (i : Nat) (hl : h.length = a.length) (hi : i < h.length) : (a.take i ++ h.drop i).set i (a[i]'(by omega)) = a.take (i + 1) ++ h.drop (i + 1) := by
  rw [List.set_append_right _ _ (by rw [List.length_take]; omega), List.length_take, Nat.min_eq_left (by omega), Nat.sub_self, List.drop_eq_getElem_cons hi, List.set_cons_zero]
  have e : a.take (i + 1) = a.take i ++ [a[i]'(by omega)] := List.take_succ_eq_append_getElem (by omega)
  rw [e, List.append_assoc]
  rfl
theorem addTo_len {α : Type} (h a : List α) (i : Nat) (hl : h.length = a.length) (hi : i ≤ h.length) : (a.take i ++ h.drop i).length = h.length := by
  rw [List.length_append, List.length_take, List.length_drop]; omega

theorem strs_set (l : List ByteArray) (i : Nat) (x : ByteArray) : (strs l).set i (.string x) = strs (l.set i x) := by simp [strs, List.map_set]
theorem RefV.setSafe {w : World} {S : Nat → Prop} {be gs cs n : Nat} {nv wv : Value} {r : RDsk} (h : RefV w S be (.slice (some ⟨gs, 0, none⟩) n cs) nv wv r) (hn : n = r.safe.length) (i : Nat) (x : ByteArray) :
    RefV (w.setCell ⟨gs, i, none⟩ (.string x)) S be (.slice (some ⟨gs, 0, none⟩) n cs) nv wv { r with safe := r.safe.set i x } := by
  subst hn
  have hd := h.d1 gs rfl
  refine ⟨?_, h.sb, ?_, ?_, ?_, h.d1, h.d2, h.d3⟩
  · rw [heap_setCell_other _ _ _ _ (by show be ≠ gs; exact fun e => hd.1 e.symm)]
    exact h.blk
  · have h1 := h.safe.set i (.string x)
    rw [strs_set] at h1
    have e : (r.safe.set i x).length = r.safe.length := List.length_set
    show OwnS _ _ _ _ _ (List.length (r.safe.set i x)) _
    rw [e]
    exact h1
  · exact ⟨own_heap h.seen.1 fun g hg => heap_setCell_other _ _ _ _ (by show g ≠ gs; rintro rfl; exact hd.2.1 hg), h.seen.2⟩
  · exact ⟨own_heap h.wait.1 fun g hg => heap_setCell_other _ _ _ _ (by show g ≠ gs; rintro rfl; exact hd.2.2 hg), h.wait.2⟩
theorem RefV.setSeen {w : World} {S : Nat → Prop} {be gn cn n : Nat} {sv wv : Value} {r : RDsk} (h : RefV w S be sv (.slice (some ⟨gn, 0, none⟩) n cn) wv r) (hn : n = r.seen.length) (i : Nat) (x : ByteArray) :
    RefV (w.setCell ⟨gn, i, none⟩ (.string x)) S be sv (.slice (some ⟨gn, 0, none⟩) n cn) wv { r with seen := r.seen.set i x } := by
  subst hn
  have hd := h.d2 gn rfl
  refine ⟨?_, h.sb, ?_, ?_, ?_, h.d1, h.d2, h.d3⟩
  · rw [heap_setCell_other _ _ _ _ (by show be ≠ gn; exact fun e => hd.1 e.symm)]
    exact h.blk
  · exact ⟨own_heap h.safe.1 fun g hg => heap_setCell_other _ _ _ _ (by show g ≠ gn; rintro rfl; exact (h.d1 g hg).2.1 rfl), h.safe.2⟩
  · have h1 := h.seen.set i (.string x)
    rw [strs_set] at h1
    have e : (r.seen.set i x).length = r.seen.length := List.length_set
    show OwnS _ _ _ _ _ (List.length (r.seen.set i x)) _
    rw [e]
    exact h1
  · exact ⟨own_heap h.wait.1 fun g hg => heap_setCell_other _ _ _ _ (by show g ≠ gn; rintro rfl; exact hd.2 hg), h.wait.2⟩
/-- No write waits. -/
theorem RefV.noWait {w : World} {S : Nat → Prop} {be : Nat} {sv nv wv : Value} {r : RDsk} (h : RefV w S be sv nv wv r) : RefV (w.setCell ⟨be, 2, none⟩ (.slice none 0 0)) S be sv nv (.slice none 0 0) { r with wait := [] } := by
  refine ⟨?_, h.sb, ?_, ?_, ?_, ?_, ?_, ?_⟩
  · rw [heap_setCell_same w be 2 _ _ _ h.blk]
    rfl
  · exact ⟨own_heap h.safe.1 fun g hg => heap_setCell_other _ _ _ _ (h.d1 g hg).1, h.safe.2⟩
  · exact ⟨own_heap h.seen.1 fun g hg => heap_setCell_other _ _ _ _ (h.d2 g hg).1, h.seen.2⟩
  · exact ⟨⟨rfl, .inl ⟨rfl, rfl⟩⟩, fun g hg => by cases hg⟩
  · exact fun g hg => ⟨(h.d1 g hg).1, (h.d1 g hg).2.1, fun e => by cases e⟩
  · exact fun g hg => ⟨(h.d2 g hg).1, fun e => by cases e⟩
  · exact fun g hg => by cases hg

/-- What a flush leaves. -/
def RDsk.flush (r : RDsk) : RDsk := if r.op.down then r.op else { r.op with safe := r.op.seen, wait := [] }

set_option maxRecDepth 100000 in
set_option maxHeartbeats 1000000 in
theorem ref_flush (be : Nat) (S : Nat → Prop) (r : RDsk) (w : World) (h : RefAt w S be r) (hn : 0 < r.safe.length) (he : r.seen.length = r.safe.length) (hb : r.safe.length ≤ 4096) :
    Calls Tryz.prog 65 #[.pointer (some ⟨be, 0, none⟩)] w fun e w' => e = .returned (.int .i64 r.ans) ∧ RefAt w' S be r.flush ∧ Same S w w' := by
  have HMM : Hid (Calls Tryz.prog 121 #[.pointer (some ⟨be, 0, none⟩)] w fun e w' => e = .returned (.bool (!r.op.down)) ∧ RefAt w' S be r.op ∧ Same S w w') := ref_may be S r w h
  have hnot : ∀ (x : Bool) (w : World), (Op.unary .not (.bool x)).run Tryz.prog w = .ok (.bool (!x)) w := fun _ _ => rfl
  clear h
  go_enter Tryz.func65, Tryz.ntmps65
  go_wp2_with fail
  refine HMM.out.mono ?_
  rintro e w1 ⟨rfl, ⟨sv, nv, wv, h1⟩, s1⟩
  have HS1 : Hid (Same S w w1) := s1
  obtain ⟨r1, hr1⟩ : ∃ r1, r1 = r.op := ⟨_, rfl⟩
  cases hd : r.op.down
  · obtain ⟨n, hn'⟩ : ∃ n, n = r1.safe.length := ⟨_, rfl⟩
    have hns : n = r1.seen.length := by rw [hn', hr1, op_safe, op_seen, he]
    rw [← hr1] at h1
    have hn0 : 0 < n := by rw [hn', hr1, op_safe]; exact hn
    have hnb : n ≤ 4096 := by rw [hn', hr1, op_safe]; exact hb
    obtain ⟨gs, cs, rfl, hgs, -, -⟩ := h1.safe.open (by omega)
    obtain ⟨gn, cn, rfl, hgn, -, -⟩ := h1.seen.open (by omega)
    rw [← hn', ← hns] at h1
    have HV0 : Hid (RefV w1 S be (.slice (some ⟨gs, 0, none⟩) n cs) (.slice (some ⟨gn, 0, none⟩) n cn) wv { r1 with safe := r1.seen.take 0 ++ r1.safe.drop 0 }) := h1
    have HR1 : Hid (r1 = r.op) := hr1
    have HN : Hid (n = r1.safe.length) := hn'
    have HNS : Hid (n = r1.seen.length) := hns
    have HD : Hid (r.op.down = false) := hd
    have HGS : Hid (S gs) := hgs
    have hnbi : (n : Int) ≤ 4096 := by omega
    clear h1 s1 hr1 hn' hns hgs hgn hn he hb hd
    go_wp2
    go_loopw [4] (fun iv_ wr => ∃ i : Nat, i ≤ n ∧ iv_ = .int .i64 (i : Int) ∧ Hid (RefV wr S be (.slice (some ⟨gs, 0, none⟩) n cs) (.slice (some ⟨gn, 0, none⟩) n cn) wv { r1 with safe := r1.seen.take i ++ r1.safe.drop i }) ∧ Hid (Same S w wr)) (fun iv_ _ => n - (intOf iv_).toNat)
    case atStart => exact ⟨0, by omega, rfl, HV0, HS1⟩
    case round =>
      clear HV0 HS1
      obtain ⟨i, hi, rfl, HV, HS⟩ := hrel
      have c0 : wr.cell? ⟨be, 0, none⟩ = some (.slice (some ⟨gs, 0, none⟩) n cs) := cell_of_row _ _ _ _ _ _ HV.out.blk
      have c1 : wr.cell? ⟨be, 1, none⟩ = some (.slice (some ⟨gn, 0, none⟩) n cn) := cell_of_row _ _ _ _ _ _ HV.out.blk
      by_cases hlt : i < n
      · have hl : (r1.seen.take i ++ r1.safe.drop i).length = n := by rw [addTo_len _ _ _ (by rw [← HN.out, ← HNS.out]) (by rw [← HN.out]; exact hi), ← HN.out]
        obtain ⟨x, hx⟩ : ∃ x, x = r1.seen[i]'(by rw [← HNS.out]; exact hlt) := ⟨_, rfl⟩
        have cx : wr.cell? ⟨gn, i, none⟩ = some (.string x) := by
          obtain ⟨g', c', e, -, hc, -⟩ := HV.out.seen.open (by show 0 < r1.seen.length; rw [← HNS.out]; exact hn0)
          cases e
          rw [hc i (by rw [strs_length]; show i < r1.seen.length; rw [← HNS.out]; exact hlt), hx]
          simp [strs]
        obtain ⟨z, cz, fz⟩ : ∃ z, wr.cell? ⟨gs, i, none⟩ = some z ∧ wr.frozen? ⟨gs, i, none⟩ = false := by
          obtain ⟨g', c', e, -, hc, hf⟩ := HV.out.safe.open (by show 0 < List.length (r1.seen.take i ++ r1.safe.drop i); omega)
          cases e
          exact ⟨_, hc i (by rw [strs_length]; show i < List.length (r1.seen.take i ++ r1.safe.drop i); omega), hf i⟩
        have HX : Hid (x = r1.seen[i]'(by rw [← HNS.out]; exact hlt)) := hx
        have HL : Hid ((r1.seen.take i ++ r1.safe.drop i).length = n) := hl
        clear hx hl
        go_wp2
        go_region
        all_goals
          go_wp2
          go_roundw
          case rel =>
            refine ⟨i + 1, by omega, by go_num, ?_, ?_⟩
            · have h1 := HV.out.setSafe HL.out.symm i x
              have e : (r1.seen.take i ++ r1.safe.drop i).set i x = r1.seen.take (i + 1) ++ r1.safe.drop (i + 1) := by
                rw [HX.out]
                exact addTo_setG _ _ i (by rw [← HN.out, ← HNS.out]) (by rw [← HN.out]; exact hlt)
              have h2 : RefV (wr.setCell ⟨gs, i, none⟩ (.string x)) S be (.slice (some ⟨gs, 0, none⟩) n cs) (.slice (some ⟨gn, 0, none⟩) n cn) wv { r1 with safe := r1.seen.take (i + 1) ++ r1.safe.drop (i + 1) } := by rw [← e]; exact h1
              exact ⟨h2.blk, h2.sb, h2.safe, h2.seen, h2.wait, h2.d1, h2.d2, h2.d3⟩
            · exact (HS.out.setCell ⟨gs, i, none⟩ HGS.out _).drew
          case measure => (simp [intOf]; try omega)
      · have hin : i = n := by omega
        obtain ⟨i1, hi1⟩ : ∃ i1, i1 = i := ⟨_, rfl⟩
        subst hi1
        have HV1 : Hid (RefV wr S be (.slice (some ⟨gs, 0, none⟩) n cs) (.slice (some ⟨gn, 0, none⟩) n cn) wv { r1 with safe := r1.seen }) := by
          have h1 := HV.out
          have e : r1.seen.take i1 ++ r1.safe.drop i1 = r1.seen := by
            rw [hin, List.take_of_length_le (by rw [← HNS.out]; exact Nat.le_refl _), List.drop_eq_nil_of_le (by rw [← HN.out]; exact Nat.le_refl _), List.append_nil]
          rw [e] at h1
          exact h1
        have c2 : wr.cell? ⟨be, 2, none⟩ = some wv := cell_of_row _ _ _ _ _ _ HV1.out.blk
        have f2 := frozen_of_row wr be 2 _ _ HV1.out.blk
        clear HV hin
        go_wp2
        go_ret
        have hans : r.ans = 0 := by unfold RDsk.ans; rw [HD.out]; rfl
        have hfl : r.flush = { r1 with safe := r1.seen, wait := [] } := by unfold RDsk.flush; rw [HD.out, HR1.out]; rfl
        refine ⟨by rw [hans]; rfl, ⟨_, _, _, by rw [hfl]; exact HV1.out.noWait⟩, HS.out.setCell ⟨be, 2, none⟩ HV1.out.sb _⟩
  · have HV : Hid (RefAt w1 S be r.op) := ⟨sv, nv, wv, h1⟩
    have HD : Hid (r.op.down = true) := hd
    clear h1 s1 hd hr1
    go_wp2
    go_ret
    have hans : r.ans = 2 := by unfold RDsk.ans; rw [HD.out]; rfl
    have hfl : r.flush = r.op := by unfold RDsk.flush; rw [HD.out]; rfl
    exact ⟨by rw [hans]; rfl, by rw [hfl]; exact HV.out, HS1.out⟩
end Go.Proofs.YtphhmjcobmnpeaaGreatDoor
