/- OWN TEXT: the law's (*World).disk: Waiting and Sectors. -/
import Derived.Test.YtphhmjcobmnpeaaGreatDoorLD3
namespace Go.Proofs.YtphhmjcobmnpeaaGreatDoor
open Go.RowKit Go.Maps

theorem own_shape {w : World} {S : Nat → Prop} {e : TypeId} {k n : Nat} {v : Value} {xs : List Value} (h : OwnS w S e k v n xs) : ∃ ao c, v = .slice ao n c := by
  obtain ⟨-, ⟨h1, h2⟩ | ⟨g, cap, cur, hv, -⟩⟩ := h.1
  · exact ⟨none, 0, by rw [h1, h2]⟩
  · exact ⟨_, _, hv⟩

set_option maxRecDepth 100000 in
set_option maxHeartbeats 1000000 in
theorem ldisk_waiting (w0 W : World) (N bw pg po bd be m : Nat) (Sd Se : Nat → Prop) (d : Dsk) (r : RDsk) (x : Stp) (hk : x.kind = 10) (H : Duo w0 W N pg po bd be m Sd Se d r) :
    Calls Tryz.prog 33 #[.pointer (some ⟨bw, 0, none⟩), .pointer (some ⟨pg, po, none⟩), stpV x] W fun e W' => e = .returned (.bool true) ∧ Duo w0 W' N pg po bd be m Sd Se d r ∧ Same Sd W W' := by
  obtain ⟨kd, xa, xb, xd, xs, xt⟩ := x
  simp only at hk
  subst hk
  obtain ⟨W1, hW1⟩ : ∃ W1, W1 = W.alloc (.cells #[.int .i64 10, .int .i64 xa, .int .i64 xb, .int .i64 xd, .string xs, .string xt] 40) := ⟨_, rfl⟩
  have s1 : Same (fun _ => False) W W1 := by rw [hW1]; exact Same.alloc0 W _
  have H1 := H.on s1 (fun _ h => h.elim) (fun _ _ h => h) (fun h => h)
  have c0 := H1.p0
  have HR : Hid (Calls Tryz.prog 70 #[.pointer (some ⟨bd, 0, none⟩)] W1 fun e w' => e = .returned (.int .i64 (d.wait.length : Int)) ∧ DskAt w' Sd bd m d ∧ Same Sd W1 w') := dsk_waiting bd m Sd d W1 H1.dsk
  have HH1 : Hid (Duo w0 W1 N pg po bd be m Sd Se d r) := H1
  have HS1 : Hid (Same Sd W W1) := s1.weak (fun _ h => h.elim)
  have hwr : r.wait.length = d.wait.length := by rw [H.rel.wait]
  have hsr := H.rel.seenLen
  clear H1 H s1
  rw [hW1] at HR c0
  go_enter Tryz.func33, Tryz.ntmps33
  go_wp2_with fail
  refine HR.out.mono ?_
  rintro e W2 ⟨rfl, D2, S2⟩
  rw [← hW1] at S2 c0
  obtain ⟨hp0, hp1, hr2, hb2⟩ := HH1.out.turnD S2
  have HF : Hid (Duo w0 W2 N pg po bd be m Sd Se d r ∧ Same Sd W W2) := by
    have h1 := HH1.out
    exact ⟨⟨hp0, hp1, D2, hr2, h1.rel, h1.dj, h1.np, hb2, h1.lo, fun g hg => Nat.lt_of_lt_of_le (h1.hi g hg) S2.size, h1.wl, h1.ml⟩, HS1.out.trans S2⟩
  have HQ : Hid (Calls Tryz.prog 42 #[.pointer (some ⟨bd, 0, none⟩)] W2 fun e w' => e = .returned (.int .i64 (d.safe.length : Int)) ∧ W2 = w') := dsk_sectors bd m Sd d W2 D2
  obtain ⟨sv, nv, wv, hv⟩ := hr2
  obtain ⟨ao, cw, rfl⟩ := own_shape hv.wait
  obtain ⟨an, cn, rfl⟩ := own_shape hv.seen
  have e2 : W2.cell? ⟨be, 2, none⟩ = some (.slice ao r.wait.length cw) := cell_of_row _ _ _ _ _ _ hv.blk
  have e1 : W2.cell? ⟨be, 1, none⟩ = some (.slice an r.seen.length cn) := cell_of_row _ _ _ _ _ _ hv.blk
  rw [hwr] at e2
  rw [hsr] at e1
  obtain ⟨nw, hnw⟩ : ∃ n, n = d.wait.length := ⟨_, rfl⟩
  obtain ⟨ns, hns⟩ : ∃ n, n = d.safe.length := ⟨_, rfl⟩
  rw [← hnw] at e2
  rw [← hns] at e1 HQ
  rw [← hnw]
  clear D2 S2 HR hb2 c0 hW1 hv hwr hsr hnw hns HH1 HS1
  go_wp2_with fail
  refine HQ.out.mono ?_
  rintro e W3 ⟨rfl, rfl⟩
  go_wp2
  go_ret
  exact ⟨rfl, HF.out⟩
end Go.Proofs.YtphhmjcobmnpeaaGreatDoor
