/- OWN TEXT: the law's (*World).disk: Write, Flush, Fuse. -/
import Derived.Test.YtphhmjcobmnpeaaGreatDoorLD1
namespace Go.Proofs.YtphhmjcobmnpeaaGreatDoor
open Go.RowKit Go.Maps

/-- First the program's disk does something, then the reference's. -/
theorem Duo.both {w0 W W1 W2 W3 : World} {N pg po bd be m m' : Nat} {Sd Se : Nat → Prop} {d d' : Dsk} {r r' : RDsk} (h : Duo w0 W1 N pg po bd be m Sd Se d r) (hW : W.heap.size ≤ W1.heap.size)
    (D2 : DskAt W2 (fun g => Sd g ∨ W1.heap.size ≤ g) bd m' d') (s2 : Same Sd W1 W2) (R3 : RefAt W3 (fun g => Se g ∨ W2.heap.size ≤ g) be r') (s3 : Same Se W2 W3) (R : Rel d' r') (hw : d'.wait.length ≤ N + 1) (hm : m' ≤ N + 1) :
    Leaves2 w0 W N pg po bd be Sd Se W3 ∧ Same (fun g => Sd g ∨ Se g) W1 W3 := by
  have hz2 := s2.size
  have hz3 := s3.size
  have hpg : pg < W1.heap.size := block_lt_of_cell h.p0
  have hb2 : Below w0.heap.size w0 W2 := h.base.trans (s2.below (fun g hg => h.lo g (.inl hg)) h.base.size)
  have hse : ∀ g, (Sd g ∨ W1.heap.size ≤ g) → ¬ Se g := fun g hg he => by
    rcases hg with hg | hg
    · exact h.dj g hg he
    · have := h.hi g (.inr he); omega
  refine ⟨⟨m', fun g => (Sd g ∨ W1.heap.size ≤ g) ∧ g < W2.heap.size, fun g => (Se g ∨ W2.heap.size ≤ g) ∧ g < W3.heap.size, d', r', ?_, fun g hg => ⟨⟨fun h' => ?_, fun h' => ⟨.inl h', by omega⟩⟩, ⟨fun h' => ?_, fun h' => ⟨.inl h', by omega⟩⟩⟩⟩, ?_⟩
  · refine ⟨s3.cell h.np.2 (s2.cell h.np.1 h.p0), s3.cell h.np.2 (s2.cell h.np.1 h.p1), D2.tight.on s3 (fun g hg => hse g hg.1), R3.tight, R, ?_, ⟨?_, ?_⟩, ?_, ?_, ?_, hw, hm⟩
    · rintro g ⟨h1, h2⟩ ⟨h3 | h3, -⟩
      · exact hse g h1 h3
      · omega
    · rintro ⟨h1 | h1, -⟩
      · exact h.np.1 h1
      · omega
    · rintro ⟨h1 | h1, -⟩
      · exact h.np.2 h1
      · omega
    · exact hb2.trans (s3.below (fun g hg => h.lo g (.inr hg)) hb2.size)
    · have hbs := h.base.size
      rintro g (⟨h1 | h1, -⟩ | ⟨h1 | h1, -⟩)
      · exact h.lo g (.inl h1)
      · omega
      · exact h.lo g (.inr h1)
      · omega
    · rintro g (⟨-, h1⟩ | ⟨-, h1⟩) <;> omega
  · rcases h'.1 with h1 | h1
    · exact h1
    · omega
  · rcases h'.1 with h1 | h1
    · exact h1
    · omega
  · exact (s2.weak (fun _ h => .inl h)).trans (s3.weak (fun _ h => .inr h))

def RDsk.writeAny (r : RDsk) (at_ : Int) (s : ByteArray) : RDsk := if okW r.seen.length at_ s then r.write at_.toNat s else r
theorem ref_writeAny (be : Nat) (S : Nat → Prop) (d : Dsk) (r : RDsk) (at_ : Int) (s : ByteArray) (w : World) (h : RefAt w S be r) (R : Rel d r) (hw : r.wait.length ≤ 1000000) :
    Calls Tryz.prog 63 #[.pointer (some ⟨be, 0, none⟩), .int .i64 at_, .string s] w fun e w' => e = .returned (.int .i64 (d.wcode at_ s : Nat)) ∧ RefAt w' (fun g => S g ∨ w.heap.size ≤ g) be (r.writeAny at_ s) ∧ Same S w w' := by
  have hl := R.seenLen
  unfold Dsk.wcode RDsk.writeAny
  rw [hl]
  cases hok : okW d.safe.length at_ s
  · refine (ref_write_bad be S r at_ s w h (by rw [hl]; exact R.size.1) (by rw [hl]; exact okW_not hok)).mono ?_
    rintro e w' ⟨rfl, rfl⟩
    exact ⟨rfl, h.mono (fun _ h => .inl h), Same.refl _ _⟩
  · obtain ⟨h1, h2, h3⟩ := okW_spec hok
    obtain ⟨k, rfl⟩ : ∃ k : Nat, at_ = k := ⟨at_.toNat, by omega⟩
    refine (ref_write be S r k s w h (by omega) h3 hw).mono ?_
    rintro e w' ⟨rfl, h', s'⟩
    refine ⟨?_, h', s'⟩
    rw [R.ans]
    cases d.op.down <;> rfl
theorem Rel.writeAny {d : Dsk} {r : RDsk} (h : Rel d r) (at_ : Int) (s : ByteArray) : Rel (d.writeAny at_ s) (r.writeAny at_ s) := by
  unfold Dsk.writeAny RDsk.writeAny
  rw [h.seenLen]
  split
  · exact h.write _ _
  · exact h
theorem writeAny_wait (d : Dsk) (at_ : Int) (s : ByteArray) : (d.writeAny at_ s).wait.length ≤ d.wait.length + 1 := by
  unfold Dsk.writeAny Dsk.write
  split
  · split
    · rw [dop_wait]; omega
    · show (d.op.wait ++ _).length ≤ _
      rw [List.length_append, dop_wait]
      exact Nat.le_refl _
  · omega

set_option maxRecDepth 100000 in
set_option maxHeartbeats 1000000 in
theorem ldisk_write (w0 W : World) (a : Nat → Addr) (S0 : Sent w0 a) (N bw pg po bd be m : Nat) (Sd Se : Nat → Prop) (d : Dsk) (r : RDsk) (x : Stp) (hk : x.kind = 5) (H : Duo w0 W N pg po bd be m Sd Se d r) (hN : N ≤ 1000000) :
    Calls Tryz.prog 33 #[.pointer (some ⟨bw, 0, none⟩), .pointer (some ⟨pg, po, none⟩), stpV x] W fun e W' => e = .returned (.bool true) ∧ Leaves2 w0 W N pg po bd be Sd Se W' ∧ Same (fun g => Sd g ∨ Se g) W W' := by
  obtain ⟨kd, xa, xb, xd, xs, xt⟩ := x
  simp only at hk
  subst hk
  obtain ⟨W1, hW1⟩ : ∃ W1, W1 = W.alloc (.cells #[.int .i64 5, .int .i64 xa, .int .i64 xb, .int .i64 xd, .string xs, .string xt] 40) := ⟨_, rfl⟩
  have s1 : Same (fun _ => False) W W1 := by rw [hW1]; exact Same.alloc0 W _
  have H1 := H.on s1 (fun _ h => h.elim) (fun _ _ h => h) (fun h => h)
  have b1 : W1.cell? ⟨W.heap.size, 1, none⟩ = some (.int .i64 xa) := by rw [hW1]; simp
  have b4 : W1.cell? ⟨W.heap.size, 4, none⟩ = some (.string xs) := by rw [hW1]; simp
  have hnb : ¬ Sd W.heap.size := fun h => by have := H.hi _ (.inl h); omega
  have hnc : ¬ Se W.heap.size := fun h => by have := H.hi _ (.inr h); omega
  have c0 := H1.p0
  have hwl := H.wl
  have hml := H.ml
  have hwr := H.wlr
  have HR : Hid (Calls Tryz.prog 62 #[.pointer (some ⟨bd, 0, none⟩), .int .i64 xa, .string xs] W1.drew fun e w' => e = .returned (.int .i64 (d.wcode xa xs : Nat)) ∧ (∃ m', m' ≤ m + 1 ∧ DskAt w' (fun g => Sd g ∨ W1.drew.heap.size ≤ g) bd m' (d.writeAny xa xs)) ∧ Same Sd W1.drew w') :=
    plain_write w0 a S0 bd m Sd d W1.drew xa xs H1.drew.dsk H1.drew.base (fun g h => H1.lo g (.inl h)) (fun g h => H1.drew.hi g (.inl h)) H1.rel.most (by omega) (by omega) H1.rel.size.2
  have HQ : Hid (∀ V, RefAt V Se be r → Calls Tryz.prog 63 #[.pointer (some ⟨be, 0, none⟩), .int .i64 xa, .string xs] V fun e w' => e = .returned (.int .i64 (d.wcode xa xs : Nat)) ∧ RefAt w' (fun g => Se g ∨ V.heap.size ≤ g) be (r.writeAny xa xs) ∧ Same Se V w') := fun V hV => ref_writeAny be Se d r xa xs V hV H.rel (by omega)
  have HH1 : Hid (Duo w0 W1.drew N pg po bd be m Sd Se d r) := H1.drew
  have HS1 : Hid (Same (fun g => Sd g ∨ Se g) W W1.drew) := (s1.weak (fun _ h => h.elim)).drew
  have HN : Hid (¬ Sd pg ∧ ¬ Se pg) := H.np
  have HB : Hid ((d.writeAny xa xs).wait.length ≤ N + 1 ∧ m + 1 ≤ N + 1) := ⟨by have := writeAny_wait d xa xs; omega, by omega⟩
  obtain ⟨c, hc⟩ : ∃ c : Int, c = (d.wcode xa xs : Nat) := ⟨_, rfl⟩
  rw [← hc] at HR HQ
  clear H1 H s1 hc hwl hml hwr S0
  go_enter Tryz.func33, Tryz.ntmps33
  go_wp2
  rw [← hW1]
  clear hW1
  go_region_held3 (fun w' => w'.cell? ⟨pg, po, none⟩ = some (.pointer (some ⟨bd, 0, none⟩)) ∧ w'.cell? ⟨W.heap.size, 1, none⟩ = some (.int .i64 xa) ∧ w'.cell? ⟨W.heap.size, 4, none⟩ = some (.string xs)) (((repeat' constructor) <;> first | assumption | (rw [World.cell?_drew]; assumption))) (first | (go_at_call 62; refine HR.out.mono ?_; rintro e W2 ⟨rfl, D2, S2⟩; have c02 : W2.cell? ⟨pg, po, none⟩ = some (.pointer (some ⟨bd, 0, none⟩)) := S2.cell HN.out.1 (by rw [World.cell?_drew]; exact c0); have b12 : W2.cell? ⟨W.heap.size, 1, none⟩ = some (.int .i64 xa) := S2.cell hnb (by rw [World.cell?_drew]; exact b1); have b42 : W2.cell? ⟨W.heap.size, 4, none⟩ = some (.string xs) := S2.cell hnb (by rw [World.cell?_drew]; exact b4); have HD2 : Hid (∃ m', m' ≤ m + 1 ∧ DskAt W2 (fun g => Sd g ∨ W1.drew.heap.size ≤ g) bd m' (d.writeAny xa xs)) := D2; have HS2 : Hid (Same Sd W1.drew W2) := S2; clear D2 S2))
  obtain ⟨hp0, hp1, hr2, hb2⟩ := HH1.out.turnD HS2.out
  have HQ2 : Hid (Calls Tryz.prog 63 #[.pointer (some ⟨be, 0, none⟩), .int .i64 xa, .string xs] W2.drew fun e w' => e = .returned (.int .i64 c) ∧ RefAt w' (fun g => Se g ∨ W2.drew.heap.size ≤ g) be (r.writeAny xa xs) ∧ Same Se W2.drew w') := HQ.out W2.drew (hr2.on (Same.refl (fun _ => False) W2).drew (fun _ _ h => h))
  clear HQ HR hr2 hb2 hp0 c0 b1 b4
  go_wp2
  go_region_held3 (fun w' => w'.cell? ⟨pg, po + 1, none⟩ = some (.pointer (some ⟨be, 0, none⟩)) ∧ w'.cell? ⟨W.heap.size, 1, none⟩ = some (.int .i64 xa) ∧ w'.cell? ⟨W.heap.size, 4, none⟩ = some (.string xs)) (((repeat' constructor) <;> first | assumption | (rw [World.cell?_drew]; assumption))) (first | (go_at_call 63; refine HQ2.out.mono ?_; rintro e W3 ⟨rfl, R3, S3⟩; have c13 : W3.cell? ⟨pg, po + 1, none⟩ = some (.pointer (some ⟨be, 0, none⟩)) := S3.cell HN.out.2 (by rw [World.cell?_drew]; exact hp1); have b13 : W3.cell? ⟨W.heap.size, 1, none⟩ = some (.int .i64 xa) := S3.cell hnc (by rw [World.cell?_drew]; exact b12); have b43 : W3.cell? ⟨W.heap.size, 4, none⟩ = some (.string xs) := S3.cell hnc (by rw [World.cell?_drew]; exact b42); have HR3 : Hid (RefAt W3 (fun g => Se g ∨ W2.drew.heap.size ≤ g) be (r.writeAny xa xs)) := R3; have HS3 : Hid (Same Se W2.drew W3) := S3; clear R3 S3))
  go_wp2
  go_ret
  obtain ⟨m', hm', D2⟩ := HD2.out
  obtain ⟨h1, h2⟩ := HH1.out.both (W := W) HS1.out.size D2 HS2.out HR3.out (show Same Se W2 W3 from ⟨HS3.out.os, HS3.out.tape, HS3.out.output, HS3.out.size, HS3.out.block⟩) (HH1.out.rel.writeAny xa xs) HB.out.1 (Nat.le_trans hm' HB.out.2)
  exact ⟨rfl, h1, HS1.out.trans h2⟩
end Go.Proofs.YtphhmjcobmnpeaaGreatDoor
