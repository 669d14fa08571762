/- OWN TEXT: the law's (*World).disk: Flush, Fuse, Waiting and Sectors. -/
import Derived.Test.YtphhmjcobmnpeaaGreatDoorLD2
namespace Go.Proofs.YtphhmjcobmnpeaaGreatDoor
open Go.RowKit Go.Maps

theorem flush_wait (d : Dsk) : d.flush.wait.length ≤ d.wait.length := by
  unfold Dsk.flush
  split
  · rw [dop_wait]; exact Nat.le_refl _
  · exact Nat.zero_le _

set_option maxRecDepth 100000 in
set_option maxHeartbeats 1000000 in
theorem ldisk_flush (w0 W : World) (a : Nat → Addr) (S0 : Sent w0 a) (N bw pg po bd be m : Nat) (Sd Se : Nat → Prop) (d : Dsk) (r : RDsk) (x : Stp) (hk : x.kind = 6) (H : Duo w0 W N pg po bd be m Sd Se d r) (hN : N ≤ 1000000) :
    Calls Tryz.prog 33 #[.pointer (some ⟨bw, 0, none⟩), .pointer (some ⟨pg, po, none⟩), stpV x] W fun e W' => e = .returned (.bool true) ∧ Leaves2 w0 W N pg po bd be Sd Se W' ∧ Same (fun g => Sd g ∨ Se g) W W' := by
  obtain ⟨kd, xa, xb, xd, xs, xt⟩ := x
  simp only at hk
  subst hk
  obtain ⟨W1, hW1⟩ : ∃ W1, W1 = W.alloc (.cells #[.int .i64 6, .int .i64 xa, .int .i64 xb, .int .i64 xd, .string xs, .string xt] 40) := ⟨_, rfl⟩
  have s1 : Same (fun _ => False) W W1 := by rw [hW1]; exact Same.alloc0 W _
  have H1 := H.on s1 (fun _ h => h.elim) (fun _ _ h => h) (fun h => h)
  have c0 := H1.p0
  have hwl := H.wl
  have hml := H.ml
  have HR : Hid (Calls Tryz.prog 64 #[.pointer (some ⟨bd, 0, none⟩)] W1 fun e w' => e = .returned (.int .i64 (d.fcode : Nat)) ∧ DskAt w' Sd bd m d.flush ∧ Same Sd W1 w') :=
    plain_flush w0 a S0 bd m Sd d W1 H1.dsk H1.base (fun g h => H1.lo g (.inl h)) (fun g h => H1.hi g (.inl h)) H1.rel.most (by omega) H1.rel.size.2
  have hans : r.ans = (d.fcode : Nat) := by rw [H.rel.ans]; unfold Dsk.fcode; cases d.op.down <;> rfl
  have hsl : r.safe.length = d.safe.length := by rw [H.rel.safe]
  have HQ : Hid (∀ V, RefAt V Se be r → Calls Tryz.prog 65 #[.pointer (some ⟨be, 0, none⟩)] V fun e w' => e = .returned (.int .i64 (d.fcode : Nat)) ∧ RefAt w' Se be r.flush ∧ Same Se V w') := fun V hV => by
    have h := ref_flush be Se r V hV (by rw [hsl]; exact H.rel.size.1) (by rw [hsl]; exact H.rel.seenLen) (by rw [hsl]; exact H.rel.size.2)
    rw [hans] at h
    exact h
  have HH1 : Hid (Duo w0 W1 N pg po bd be m Sd Se d r) := H1
  have HS1 : Hid (Same (fun g => Sd g ∨ Se g) W W1) := s1.weak (fun _ h => h.elim)
  have HB : Hid (d.flush.wait.length ≤ N + 1 ∧ m ≤ N + 1) := ⟨by have := flush_wait d; omega, by omega⟩
  obtain ⟨c, hc⟩ : ∃ c : Int, c = (d.fcode : Nat) := ⟨_, rfl⟩
  rw [← hc] at HR HQ
  clear H1 H s1 hc hwl hml S0 hans hsl
  rw [hW1] at HR c0
  go_enter Tryz.func33, Tryz.ntmps33
  go_wp2_with fail
  refine HR.out.mono ?_
  rintro e W2 ⟨rfl, D2, S2⟩
  rw [← hW1] at S2 c0
  obtain ⟨hp0, hp1, hr2, hb2⟩ := HH1.out.turnD S2
  have HD2 : Hid (DskAt W2 Sd bd m d.flush) := D2
  have HS2 : Hid (Same Sd W1 W2) := S2
  have HQ2 : Hid (Calls Tryz.prog 65 #[.pointer (some ⟨be, 0, none⟩)] W2 fun e w' => e = .returned (.int .i64 c) ∧ RefAt w' Se be r.flush ∧ Same Se W2 w') := HQ.out W2 hr2
  clear D2 S2 HQ HR hr2 hb2 hp0 c0 hW1
  go_wp2_with fail
  refine HQ2.out.mono ?_
  rintro e W3 ⟨rfl, R3, S3⟩
  have HR3 : Hid (RefAt W3 Se be r.flush) := R3
  have HS3 : Hid (Same Se W2 W3) := S3
  clear R3 S3
  go_wp2
  go_ret
  obtain ⟨h1, h2⟩ := HH1.out.both (W := W) HS1.out.size (HD2.out.mono (fun _ h => .inl h)) HS2.out (HR3.out.mono (fun _ h => .inl h)) HS3.out HH1.out.rel.flush HB.out.1 HB.out.2
  exact ⟨rfl, h1, HS1.out.trans h2⟩

set_option maxRecDepth 100000 in
set_option maxHeartbeats 1000000 in
theorem ldisk_fuse (w0 W : World) (N bw pg po bd be m : Nat) (Sd Se : Nat → Prop) (d : Dsk) (r : RDsk) (x : Stp) (hk : x.kind = 7) (hra : inR x.a) (H : Duo w0 W N pg po bd be m Sd Se d r) :
    Calls Tryz.prog 33 #[.pointer (some ⟨bw, 0, none⟩), .pointer (some ⟨pg, po, none⟩), stpV x] W fun e W' => e = .returned (.bool true) ∧ Leaves2 w0 W N pg po bd be Sd Se W' ∧ Same (fun g => Sd g ∨ Se g) W W' := by
  obtain ⟨kd, xa, xb, xd, xs, xt⟩ := x
  simp only at hk hra
  subst hk
  obtain ⟨W1, hW1⟩ : ∃ W1, W1 = W.alloc (.cells #[.int .i64 7, .int .i64 xa, .int .i64 xb, .int .i64 xd, .string xs, .string xt] 40) := ⟨_, rfl⟩
  have s1 : Same (fun _ => False) W W1 := by rw [hW1]; exact Same.alloc0 W _
  have H1 := H.on s1 (fun _ h => h.elim) (fun _ _ h => h) (fun h => h)
  have b1 : W1.cell? ⟨W.heap.size, 1, none⟩ = some (.int .i64 xa) := by rw [hW1]; simp
  have hnb : ¬ Sd W.heap.size := fun h => by have := H.hi _ (.inl h); omega
  have hnc : ¬ Se W.heap.size := fun h => by have := H.hi _ (.inr h); omega
  have c0 := H1.p0
  have hwl := H.wl
  have hml := H.ml
  have HR : Hid (Calls Tryz.prog 66 #[.pointer (some ⟨bd, 0, none⟩), .int .i64 xa] W1.drew fun e w' => e = .returned (.tuple #[]) ∧ DskAt w' Sd bd m { d with fuse := max xa 0 } ∧ Same Sd W1.drew w') :=
    dsk_fuse bd m Sd d xa W1.drew H1.drew.dsk
  have HQ : Hid (∀ V, RefAt V Se be r → Calls Tryz.prog 67 #[.pointer (some ⟨be, 0, none⟩), .int .i64 xa] V fun e w' => e = .returned (.tuple #[]) ∧ RefAt w' Se be { r with lit := decide (0 < xa), left := xa } ∧ Same Se V w') := fun V hV => ref_fuse be Se r xa V hV
  have HH1 : Hid (Duo w0 W1.drew N pg po bd be m Sd Se d r) := H1.drew
  have HS1 : Hid (Same (fun g => Sd g ∨ Se g) W W1.drew) := (s1.weak (fun _ h => h.elim)).drew
  have HN : Hid (¬ Sd pg ∧ ¬ Se pg) := H.np
  have HB : Hid (d.wait.length ≤ N + 1 ∧ m ≤ N + 1 ∧ xa ≤ 9223372036854775807) := ⟨by omega, by omega, hra.2⟩
  clear H1 H s1 hwl hml hra
  go_enter Tryz.func33, Tryz.ntmps33
  go_wp2
  rw [← hW1]
  clear hW1
  go_region_held3 (fun w' => w'.cell? ⟨pg, po, none⟩ = some (.pointer (some ⟨bd, 0, none⟩)) ∧ w'.cell? ⟨W.heap.size, 1, none⟩ = some (.int .i64 xa)) (((repeat' constructor) <;> first | assumption | (rw [World.cell?_drew]; assumption))) (first | (go_at_call 66; refine HR.out.mono ?_; rintro e W2 ⟨rfl, D2, S2⟩; have c02 : W2.cell? ⟨pg, po, none⟩ = some (.pointer (some ⟨bd, 0, none⟩)) := S2.cell HN.out.1 (by rw [World.cell?_drew]; exact c0); have b12 : W2.cell? ⟨W.heap.size, 1, none⟩ = some (.int .i64 xa) := S2.cell hnb (by rw [World.cell?_drew]; exact b1); have HD2 : Hid (DskAt W2 Sd bd m { d with fuse := max xa 0 }) := D2; have HS2 : Hid (Same Sd W1.drew W2) := S2; clear D2 S2))
  obtain ⟨hp0, hp1, hr2, hb2⟩ := HH1.out.turnD HS2.out
  have HQ2 : Hid (Calls Tryz.prog 67 #[.pointer (some ⟨be, 0, none⟩), .int .i64 xa] W2.drew fun e w' => e = .returned (.tuple #[]) ∧ RefAt w' Se be { r with lit := decide (0 < xa), left := xa } ∧ Same Se W2.drew w') := HQ.out W2.drew (hr2.on (Same.refl (fun _ => False) W2).drew (fun _ _ h => h))
  clear HQ HR hr2 hb2 hp0 c0 b1
  go_wp2
  go_region_held3 (fun w' => w'.cell? ⟨pg, po + 1, none⟩ = some (.pointer (some ⟨be, 0, none⟩)) ∧ w'.cell? ⟨W.heap.size, 1, none⟩ = some (.int .i64 xa)) (((repeat' constructor) <;> first | assumption | (rw [World.cell?_drew]; assumption))) (first | (go_at_call 67; refine HQ2.out.mono ?_; rintro e W3 ⟨rfl, R3, S3⟩; have c13 : W3.cell? ⟨pg, po + 1, none⟩ = some (.pointer (some ⟨be, 0, none⟩)) := S3.cell HN.out.2 (by rw [World.cell?_drew]; exact hp1); have b13 : W3.cell? ⟨W.heap.size, 1, none⟩ = some (.int .i64 xa) := S3.cell hnc (by rw [World.cell?_drew]; exact b12); have HR3 : Hid (RefAt W3 Se be { r with lit := decide (0 < xa), left := xa }) := R3; have HS3 : Hid (Same Se W2.drew W3) := S3; clear R3 S3))
  go_wp2
  go_ret
  obtain ⟨h1, h2⟩ := HH1.out.both (W := W) (W2 := W2) HS1.out.size (HD2.out.mono (fun _ h => .inl h)) HS2.out (HR3.out.mono (fun _ h => .inl h)) (show Same Se W2 W3 from ⟨HS3.out.os, HS3.out.tape, HS3.out.output, HS3.out.size, HS3.out.block⟩) (HH1.out.rel.lit xa HB.out.2.2) HB.out.1 HB.out.2.1
  exact ⟨rfl, h1, HS1.out.trans h2⟩
end Go.Proofs.YtphhmjcobmnpeaaGreatDoor
