/- OWN TEXT: the law's (*World).disk: Read of all sectors. -/
import Derived.Test.YtphhmjcobmnpeaaGreatDoorLD5
namespace Go.Proofs.YtphhmjcobmnpeaaGreatDoor
open Go.RowKit Go.Maps

theorem Duo.tell {w0 W : World} {N pg po bd be m : Nat} {Sd Se : Nat → Prop} {d : Dsk} {r : RDsk} (h : Duo w0 W N pg po bd be m Sd Se d r) : ∃ gn cn, W.cell? ⟨be, 1, none⟩ = some (.slice (some ⟨gn, 0, none⟩) d.safe.length cn) ∧ ∀ j : Nat, j < d.safe.length → W.cell? ⟨gn, j, none⟩ = some (.string (d.rd j)) ∧ d.rcode j = 0 := by
  obtain ⟨sv, nv, wv, hv⟩ := h.ref
  have hl := h.rel.seenLen
  obtain ⟨gn, cn, rfl, -, hc, -⟩ := hv.seen.open (by rw [hl]; exact h.rel.size.1)
  refine ⟨gn, cn, ?_, fun j hj => ⟨?_, ?_⟩⟩
  · rw [cell_of_row _ _ _ _ _ _ hv.blk, ← hl]
    rfl
  · rw [hc j (by rw [strs_length, hl]; exact hj)]
    have e1 : d.rd j = d.at j hj := by unfold Dsk.rd; rw [dif_pos ⟨by omega, by omega⟩]; rfl
    rw [e1, ← h.rel.at j hj (by omega)]
    simp [strs]
  · unfold Dsk.rcode
    rw [if_pos ⟨by omega, by omega⟩]

set_option maxRecDepth 100000 in
set_option maxHeartbeats 2000000 in
theorem ldisk_image (w0 W : World) (a : Nat → Addr) (S0 : Sent w0 a) (N bw pg po bd be m : Nat) (Sd Se : Nat → Prop) (d : Dsk) (r : RDsk) (x : Stp) (left : Int) (row : Array Value) (rt : TypeId) (hk : x.kind = 11) (H : Duo w0 W N pg po bd be m Sd Se d r)
    (hb : W.heap[bw]? = some (.cells row rt (0, 0))) (hrow : row[5]? = some (.int .i64 left)) (hlo : -1000000 ≤ left) (hhi : left ≤ 1000000) (hbw : w0.heap.size ≤ bw ∧ ¬ Sd bw ∧ ¬ Se bw ∧ bw ≠ pg) :
    Calls Tryz.prog 33 #[.pointer (some ⟨bw, 0, none⟩), .pointer (some ⟨pg, po, none⟩), stpV x] W fun e W' => e = .returned (.bool true) ∧ Duo w0 W' N pg po bd be m Sd Se d r ∧ Same (fun g => Sd g ∨ g = bw) W W' ∧ W'.heap[bw]? = some (.cells (row.setIfInBounds 5 (.int .i64 (left - d.safe.length))) rt (0, 0)) := by
  obtain ⟨kd, xa, xb, xd, xs, xt⟩ := x
  simp only at hk
  subst hk
  obtain ⟨W1, hW1⟩ : ∃ W1, W1 = W.alloc (.cells #[.int .i64 11, .int .i64 xa, .int .i64 xb, .int .i64 xd, .string xs, .string xt] 40) := ⟨_, rfl⟩
  have s1 : Same (fun _ => False) W W1 := by rw [hW1]; exact Same.alloc0 W _
  have H1 := H.on s1 (fun _ h => h.elim) (fun _ _ h => h) (fun h => h)
  have hb1 : W1.heap[bw]? = some (.cells row rt (0, 0)) := by rw [s1.block bw (lt_of_heap' hb) (fun h => h)]; exact hb
  have c1 : W1.cell? ⟨pg, po + 1, none⟩ = some (.pointer (some ⟨be, 0, none⟩)) := H1.p1
  have l1 : W1.cell? ⟨bw, 5, none⟩ = some (.int .i64 left) := by rw [cell_of_row _ _ _ _ _ _ hb1]; exact hrow
  have f1 := frozen_of_row W1 bw 5 _ _ hb1
  obtain ⟨gn, cn, t1, -⟩ := H1.tell
  have hsz := H.rel.size
  obtain ⟨n, hn⟩ : ∃ n, n = d.safe.length := ⟨_, rfl⟩
  have HN : Hid (n = d.safe.length) := hn
  rw [← hn] at t1 hsz ⊢
  have hwrap : IntKind.i64.wrap (left - (n : Int)) = left - n := by rw [IntKind.wrap_i64]; omega
  have nb1 : bw ≠ pg := hbw.2.2.2
  have nb2 : bw ≠ be := by
    rintro rfl
    obtain ⟨_, _, _, hv⟩ := H.ref
    exact hbw.2.2.1 hv.sb
  have HH2 : Hid (∀ V, V = (W1.drew.setCell ⟨bw, 5, none⟩ (.int .i64 (left - n))) → Duo w0 V N pg po bd be m Sd Se d r ∧ Same (fun g => Sd g ∨ g = bw) W V ∧ V.heap[bw]? = some (.cells (row.setIfInBounds 5 (.int .i64 (left - n))) rt (0, 0))) := by
    rintro V rfl
    have hs : Same (· = bw) W1.drew (W1.drew.setCell ⟨bw, 5, none⟩ (.int .i64 (left - n))) := Same.setCell (S := (· = bw)) (Same.refl _ _) ⟨bw, 5, none⟩ rfl _
    refine ⟨H1.drew.on hs (by rintro g rfl; exact hbw.1) (by rintro g (hg | hg) rfl; exact hbw.2.1 hg; exact hbw.2.2.1 hg) (fun h => nb1 h.symm), ?_, ?_⟩
    · exact ((s1.weak (fun _ h => h.elim)).drew).trans (hs.weak (fun g h => .inr h))
    · exact heap_setCell_same W1.drew bw 5 _ _ _ hb1
  have HR : Hid (∀ V (i : Nat), Duo w0 V N pg po bd be m Sd Se d r → Calls Tryz.prog 60 #[.pointer (some ⟨bd, 0, none⟩), .int .i64 (i : Int)] V fun e w' => e = .returned (.tuple #[.string (d.rd i), .int .i64 (d.rcode i : Nat)]) ∧ DskAt w' Sd bd m d ∧ Same Sd V w') := fun V i hV =>
    plain_read w0 a S0 bd m Sd d V i hV.dsk hV.base (fun g h => hV.lo g (.inl h)) hV.rel.size.2
  have HNB : Hid (¬ Sd bw) := hbw.2.1
  clear H1 H s1 hb hb1 hrow hbw S0 hn
  go_enter Tryz.func33, Tryz.ntmps33
  go_wp2
  rw [← hW1]
  clear hW1
  have HH3 := HH2.out ((W1.setCell ⟨bw, 5, none⟩ (.int .i64 (left - n))).drew) rfl
  obtain ⟨W2, hW2⟩ : ∃ W2, W2 = (W1.setCell ⟨bw, 5, none⟩ (.int .i64 (left - n))).drew := ⟨_, rfl⟩
  rw [← hW2] at HH3
  have HD2 : Hid (Duo w0 W2 N pg po bd be m Sd Se d r) := HH3.1
  have HS2 : Hid (Same (fun g => Sd g ∨ g = bw) W W2 ∧ W2.heap[bw]? = some (.cells (row.setIfInBounds 5 (.int .i64 (left - n))) rt (0, 0))) := HH3.2
  clear HH2 HH3
  go_region
  rw [← hW2]
  have hni : (n : Int) ≤ 4096 := by omega
  clear hW2 c1 l1 f1 t1 nb1 nb2 hwrap hlo hhi
  go_wp2
  go_loopw [15] (fun iv_ wr => ∃ i : Nat, i ≤ n ∧ iv_ = .int .i64 (i : Int) ∧ Hid (Duo w0 wr N pg po bd be m Sd Se d r ∧ Same Sd W2 wr)) (fun iv_ _ => n - (intOf iv_).toNat)
  case atStart => exact ⟨0, by omega, rfl, HD2.out, Same.refl _ _⟩
  case round =>
    clear HD2
    obtain ⟨i, hi, rfl, HI⟩ := hrel
    obtain ⟨gn, cn, t1, -⟩ := HI.out.1.tell
    rw [← HN.out] at t1
    have c0 := HI.out.1.p0
    have c1 := HI.out.1.p1
    by_cases hlt : i < n
    · have hlc : (i : Int) < n := by omega
      go_wp2_with fail
      refine (HR.out wr i HI.out.1).mono ?_
      rintro e W3 ⟨rfl, D3, S3⟩
      obtain ⟨hp0, hp1, hr3, hb3⟩ := HI.out.1.turnD S3
      have hD : Duo w0 W3 N pg po bd be m Sd Se d r := by
        have h1 := HI.out.1
        exact ⟨hp0, hp1, D3, hr3, h1.rel, h1.dj, h1.np, hb3, h1.lo, fun g hg => Nat.lt_of_lt_of_le (h1.hi g hg) S3.size, h1.wl, h1.ml⟩
      obtain ⟨g3, n3, t3, ht3⟩ := hD.tell
      obtain ⟨z3, rc⟩ := ht3 i (by rw [← HN.out]; exact hlt)
      rw [← HN.out] at t3
      obtain ⟨y, hy⟩ : ∃ y, y = d.rd i := ⟨_, rfl⟩
      rw [← hy] at z3
      rw [rc, ← hy]
      have HI3 : Hid (Duo w0 W3 N pg po bd be m Sd Se d r ∧ Same Sd W2 W3) := ⟨hD, HI.out.2.trans S3⟩
      clear D3 S3 hr3 hb3 hD ht3 rc hy t1 c0 c1
      go_wp2
      go_roundw
      case rel => exact ⟨i + 1, by omega, by go_num, HI3⟩
      case measure => (simp [intOf]; try omega)
    · have hlc : ¬ (i : Int) < n := by omega
      go_wp2
      go_ret
      obtain ⟨h1, h2⟩ := HI.out
      refine ⟨rfl, h1, HS2.out.1.trans (h2.weak (fun _ h => .inl h)), ?_⟩
      rw [h2.block bw (lt_of_heap' HS2.out.2) HNB.out]
      exact HS2.out.2
end Go.Proofs.YtphhmjcobmnpeaaGreatDoor
