/- OWN TEXT: joined of: LD1 LD2 LD3 LD4 LD5 LD6 UptoN. -/
import Derived.Deep.RegionHeld3
import Derived.Laws.Rows
import Derived.Test.YtbnokhdofkpcjaaGreatDoorJdisks12
namespace Go.Proofs.YtbnokhdofkpcjaaGreatDoor
open Go.RowKit Go.Maps

/-- A pair of disks in the law's list, at ⟨pg, po⟩. -/
structure Duo (w0 W : World) (N pg po bd be m : Nat) (Sd Se : Nat → Prop) (d : Dsk) (r : RDsk) : Prop where
  p0 : W.cell? ⟨pg, po, none⟩ = some (.pointer (some ⟨bd, 0, none⟩))
  p1 : W.cell? ⟨pg, po + 1, none⟩ = some (.pointer (some ⟨be, 0, none⟩))
  dsk : DskAt W Sd bd m d
  ref : RefAt W Se be r
  rel : Rel d r
  dj : ∀ g, Sd g → ¬ Se g
  np : ¬ Sd pg ∧ ¬ Se pg
  base : Below w0.heap.size w0 W
  lo : ∀ g, Sd g ∨ Se g → w0.heap.size ≤ g
  hi : ∀ g, Sd g ∨ Se g → g < W.heap.size
  wl : d.wait.length ≤ N
  ml : m ≤ N
theorem Duo.wlr {w0 W : World} {N pg po bd be m : Nat} {Sd Se : Nat → Prop} {d : Dsk} {r : RDsk} (h : Duo w0 W N pg po bd be m Sd Se d r) : r.wait.length ≤ N := by rw [h.rel.wait]; exact h.wl
/-- Nothing of the pair is touched. -/
theorem Duo.on {w0 W W' : World} {T : Nat → Prop} {N pg po bd be m : Nat} {Sd Se : Nat → Prop} {d : Dsk} {r : RDsk} (h : Duo w0 W N pg po bd be m Sd Se d r) (hs : Same T W W') (hT : ∀ g, T g → w0.heap.size ≤ g) (h1 : ∀ g, Sd g ∨ Se g → ¬ T g) (h2 : ¬ T pg) : Duo w0 W' N pg po bd be m Sd Se d r :=
  ⟨hs.cell h2 h.p0, hs.cell h2 h.p1, h.dsk.on hs (fun g hg => h1 g (.inl hg)), h.ref.on hs (fun g hg => h1 g (.inr hg)), h.rel, h.dj, h.np, h.base.trans (hs.below hT h.base.size), h.lo, fun g hg => Nat.lt_of_lt_of_le (h.hi g hg) hs.size, h.wl, h.ml⟩
/-- The program's disk has done something. -/
theorem Duo.turnD {w0 W W' : World} {N pg po bd be m : Nat} {Sd Se : Nat → Prop} {d : Dsk} {r : RDsk} (h : Duo w0 W N pg po bd be m Sd Se d r) (hs : Same Sd W W') : W'.cell? ⟨pg, po, none⟩ = some (.pointer (some ⟨bd, 0, none⟩)) ∧ W'.cell? ⟨pg, po + 1, none⟩ = some (.pointer (some ⟨be, 0, none⟩)) ∧ RefAt W' Se be r ∧ Below w0.heap.size w0 W' :=
  ⟨hs.cell h.np.1 h.p0, hs.cell h.np.1 h.p1, h.ref.on hs (fun g hg hd => h.dj g hd hg), h.base.trans (hs.below (fun g hg => h.lo g (.inl hg)) h.base.size)⟩

theorem Duo.drew {w0 W : World} {N pg po bd be m : Nat} {Sd Se : Nat → Prop} {d : Dsk} {r : RDsk} (h : Duo w0 W N pg po bd be m Sd Se d r) : Duo w0 W.drew N pg po bd be m Sd Se d r :=
  h.on (Same.refl (fun _ => False) W).drew (fun _ h => h.elim) (fun _ _ h => h) (fun h => h)
theorem DskAt.tight {w : World} {S : Nat → Prop} {bd m : Nat} {d : Dsk} (h : DskAt w S bd m d) : DskAt w (fun g => S g ∧ g < w.heap.size) bd m d := by
  obtain ⟨gs, bm, wv, h1, h⟩ := h
  exact ⟨gs, bm, wv, h1, h.sec, h.map, ⟨h.wait.1, fun g hg => ⟨h.wait.2 g hg, h.wait.lt hg⟩⟩, ⟨h.sb, lt_of_heap' h1⟩, ⟨h.ss, lt_of_heap' h.sec⟩, ⟨h.sm, ownsMap_lt h.map⟩, h.n1, h.n2, h.n3, h.d1, h.v1, h.v2⟩
theorem RefAt.tight {w : World} {S : Nat → Prop} {be : Nat} {r : RDsk} (h : RefAt w S be r) : RefAt w (fun g => S g ∧ g < w.heap.size) be r := by
  obtain ⟨sv, nv, wv, h⟩ := h
  exact ⟨sv, nv, wv, h.blk, ⟨h.sb, lt_of_heap' h.blk⟩, ⟨h.safe.1, fun g hg => ⟨h.safe.2 g hg, h.safe.lt hg⟩⟩, ⟨h.seen.1, fun g hg => ⟨h.seen.2 g hg, h.seen.lt hg⟩⟩, ⟨h.wait.1, fun g hg => ⟨h.wait.2 g hg, h.wait.lt hg⟩⟩, h.d1, h.d2, h.d3⟩
/-- What a step on a pair leaves: the old blocks keep their owner, whatever is new has one owner at most. -/
def Leaves2 (w0 W : World) (N pg po bd be : Nat) (Sd Se : Nat → Prop) (W' : World) : Prop :=
  ∃ m' Sd' Se' d' r', Duo w0 W' (N + 1) pg po bd be m' Sd' Se' d' r' ∧ ∀ g, g < W.heap.size → (Sd' g ↔ Sd g) ∧ (Se' g ↔ Se g)
theorem Duo.leaves {w0 W W' : World} {N pg po bd be m : Nat} {Sd Se : Nat → Prop} {d : Dsk} {r : RDsk} (h : Duo w0 W' N pg po bd be m Sd Se d r) : Leaves2 w0 W N pg po bd be Sd Se W' :=
  ⟨m, Sd, Se, d, r, ⟨h.p0, h.p1, h.dsk, h.ref, h.rel, h.dj, h.np, h.base, h.lo, h.hi, Nat.le_succ_of_le h.wl, Nat.le_succ_of_le h.ml⟩, fun _ _ => ⟨Iff.rfl, Iff.rfl⟩⟩

theorem ref_read2 (be : Nat) (S : Nat → Prop) (d : Dsk) (r : RDsk) (at_ : Int) (w : World) (h : RefAt w S be r) (R : Rel d r) (hr : inR at_) :
    Calls Tryz.prog 112 #[.pointer (some ⟨be, 0, none⟩), .int .i64 at_] w fun e w' => e = .returned (.tuple #[.string (d.rd at_), .int .i64 (d.rcode at_ : Nat)]) ∧ w = w' := by
  have hl := R.seenLen
  refine (ref_read be S r at_ w h (by rw [hl]; exact R.size.1) hr).mono ?_
  rintro e w' ⟨rfl, rfl⟩
  refine ⟨?_, rfl⟩
  by_cases hk : 0 ≤ at_ ∧ at_ < d.safe.length
  · have hk' : 0 ≤ at_ ∧ at_ < r.seen.length := by rw [hl]; exact hk
    rw [dif_pos hk']
    have e1 : d.rd at_ = d.at at_.toNat (by omega) := by unfold Dsk.rd; rw [dif_pos hk]
    have e2 : d.rcode at_ = 0 := by unfold Dsk.rcode; rw [if_pos hk]
    rw [e1, e2, R.at at_.toNat (by omega) (by omega)]
    rfl
  · have hk' : ¬ (0 ≤ at_ ∧ at_ < r.seen.length) := by rw [hl]; exact hk
    rw [dif_neg hk']
    have e1 : d.rd at_ = ⟨#[]⟩ := by unfold Dsk.rd; rw [dif_neg hk]
    have e2 : d.rcode at_ = 1 := by unfold Dsk.rcode; rw [if_neg hk]
    rw [e1, e2]
    rfl

set_option maxRecDepth 100000 in
set_option maxHeartbeats 1000000 in
theorem ldisk_read (w0 W : World) (a : Nat → Addr) (S0 : Sent w0 a) (N bw pg po bd be m : Nat) (Sd Se : Nat → Prop) (d : Dsk) (r : RDsk) (x : Stp) (hk : x.kind = 4) (hra : inR x.a) (H : Duo w0 W N pg po bd be m Sd Se d r) :
    Calls Tryz.prog 72 #[.pointer (some ⟨bw, 0, none⟩), .pointer (some ⟨pg, po, none⟩), stpV x] W fun e W' => e = .returned (.bool true) ∧ Duo w0 W' N pg po bd be m Sd Se d r ∧ Same Sd W W' := by
  obtain ⟨kd, xa, xb, xd, xs, xt⟩ := x
  simp only at hk hra
  subst hk
  obtain ⟨W1, hW1⟩ : ∃ W1, W1 = W.alloc (.cells #[.int .i64 4, .int .i64 xa, .int .i64 xb, .int .i64 xd, .string xs, .string xt] 67) := ⟨_, rfl⟩
  have s1 : Same (fun _ => False) W W1 := by rw [hW1]; exact Same.alloc0 W _
  have H1 := H.on s1 (fun _ h => h.elim) (fun _ _ h => h) (fun h => h)
  have b1 : W1.cell? ⟨W.heap.size, 1, none⟩ = some (.int .i64 xa) := by rw [hW1]; simp
  have hnb : ¬ Sd W.heap.size := fun h => by have := H.hi _ (.inl h); omega
  have c0 := H1.p0
  have HR : Hid (Calls Tryz.prog 63 #[.pointer (some ⟨bd, 0, none⟩), .int .i64 xa] W1.drew fun e w' => e = .returned (.tuple #[.string (d.rd xa), .int .i64 (d.rcode xa : Nat)]) ∧ DskAt w' Sd bd m d ∧ Same Sd W1.drew w') :=
    plain_read w0 a S0 bd m Sd d W1.drew xa (H1.dsk.on (Same.refl (fun _ => False) W1).drew (fun _ _ h => h)) H1.base.drew (fun g h => H1.lo g (.inl h)) H1.rel.size.2
  have HH1 : Hid (Duo w0 W1 N pg po bd be m Sd Se d r) := H1
  have HS1 : Hid (Same Sd W W1) := s1.weak (fun _ h => h.elim)
  have HN : Hid (¬ Sd pg) := H.np.1
  have HQ : Hid (∀ V, RefAt V Se be r → Calls Tryz.prog 112 #[.pointer (some ⟨be, 0, none⟩), .int .i64 xa] V fun e w' => e = .returned (.tuple #[.string (d.rd xa), .int .i64 (d.rcode xa : Nat)]) ∧ V = w') := fun V hV => ref_read2 be Se d r xa V hV H.rel hra
  obtain ⟨y, hy⟩ : ∃ y, y = d.rd xa := ⟨_, rfl⟩
  obtain ⟨c, hc⟩ : ∃ c : Int, c = (d.rcode xa : Nat) := ⟨_, rfl⟩
  rw [← hy, ← hc] at HR HQ
  clear H1 H s1 hy hc hra
  go_enter Tryz.func72, Tryz.ntmps72
  go_wp2
  rw [← hW1]
  clear hW1
  go_region_held3 (fun w' => w'.cell? ⟨pg, po, none⟩ = some (.pointer (some ⟨bd, 0, none⟩)) ∧ w'.cell? ⟨W.heap.size, 1, none⟩ = some (.int .i64 xa)) ((constructor <;> first | assumption | (rw [World.cell?_drew]; assumption))) (first | (go_at_call 63; refine HR.out.mono ?_; rintro e W2 ⟨rfl, D2, S2⟩; have c02 : W2.cell? ⟨pg, po, none⟩ = some (.pointer (some ⟨bd, 0, none⟩)) := S2.cell HN.out (by rw [World.cell?_drew]; exact c0); have b12 : W2.cell? ⟨W.heap.size, 1, none⟩ = some (.int .i64 xa) := S2.cell hnb (by rw [World.cell?_drew]; exact b1); have HD2 : Hid (DskAt W2 Sd bd m d) := D2; have HS2 : Hid (Same Sd W1.drew W2) := S2; clear D2 S2))
  obtain ⟨hp0, hp1, hr2, hb2⟩ := HH1.out.turnD (W' := W2) ⟨HS2.out.os, HS2.out.tape, HS2.out.output, HS2.out.size, HS2.out.block⟩
  have HQ2 : Hid (Calls Tryz.prog 112 #[.pointer (some ⟨be, 0, none⟩), .int .i64 xa] W2.drew fun e w' => e = .returned (.tuple #[.string y, .int .i64 c]) ∧ W2.drew = w') := HQ.out W2.drew (hr2.on (Same.refl (fun _ => False) W2).drew (fun _ _ h => h))
  have HF : Hid (Duo w0 W2.drew N pg po bd be m Sd Se d r ∧ Same Sd W W2.drew) := by
    have h1 := HH1.out
    have hs := HS2.out
    refine ⟨⟨by rw [World.cell?_drew]; exact hp0, by rw [World.cell?_drew]; exact hp1, HD2.out.on (Same.refl (fun _ => False) W2).drew (fun _ _ h => h), hr2.on (Same.refl (fun _ => False) W2).drew (fun _ _ h => h), h1.rel, h1.dj, h1.np, hb2.drew, h1.lo, fun g hg => Nat.lt_of_lt_of_le (h1.hi g hg) hs.size, h1.wl, h1.ml⟩, ?_⟩
    exact (HS1.out.drew.trans hs).drew
  clear HQ HR hr2 hb2 hp0 c0 b1 HD2 HS2 HH1 HS1 HN
  go_wp2
  go_region_held3 (fun w' => w'.cell? ⟨pg, po + 1, none⟩ = some (.pointer (some ⟨be, 0, none⟩)) ∧ w'.cell? ⟨W.heap.size, 1, none⟩ = some (.int .i64 xa)) ((constructor <;> first | assumption | (rw [World.cell?_drew]; assumption))) (first | (go_at_call 112; refine HQ2.out.mono ?_; rintro e W3 ⟨rfl, rfl⟩))
  go_wp2
  go_ret
  exact ⟨rfl, HF.out⟩
end Go.Proofs.YtbnokhdofkpcjaaGreatDoor
namespace Go.Proofs.YtbnokhdofkpcjaaGreatDoor
open Go.RowKit Go.Maps

/-- First the program's disk does something, then the reference's. -/
theorem Duo.both {w0 W W1 W2 W3 : World} {N pg po bd be m m' : Nat} {Sd Se : Nat → Prop} {d d' : Dsk} {r r' : RDsk} (h : Duo w0 W1 N pg po bd be m Sd Se d r) (hW : W.heap.size ≤ W1.heap.size)
    (D2 : DskAt W2 (fun g => Sd g ∨ W1.heap.size ≤ g) bd m' d') (s2 : Same Sd W1 W2) (R3 : RefAt W3 (fun g => Se g ∨ W2.heap.size ≤ g) be r') (s3 : Same Se W2 W3) (R : Rel d' r') (hw : d'.wait.length ≤ N + 1) (hm : m' ≤ N + 1) :
    Leaves2 w0 W N pg po bd be Sd Se W3 ∧ Same (fun g => Sd g ∨ Se g) W1 W3 := by
  have hz2 := s2.size
  have hz3 := s3.size
  have hpg : pg < W1.heap.size := block_lt_of_cell h.p0
  have hb2 : Below w0.heap.size w0 W2 := h.base.trans (s2.below (fun g hg => h.lo g (.inl hg)) h.base.size)
  have hse : ∀ g, (Sd g ∨ W1.heap.size ≤ g) → ¬ Se g := fun g hg he => by
    rcases hg with hg | hg
    · exact h.dj g hg he
    · have := h.hi g (.inr he); omega
  refine ⟨⟨m', fun g => (Sd g ∨ W1.heap.size ≤ g) ∧ g < W2.heap.size, fun g => (Se g ∨ W2.heap.size ≤ g) ∧ g < W3.heap.size, d', r', ?_, fun g hg => ⟨⟨fun h' => ?_, fun h' => ⟨.inl h', by omega⟩⟩, ⟨fun h' => ?_, fun h' => ⟨.inl h', by omega⟩⟩⟩⟩, ?_⟩
  · refine ⟨s3.cell h.np.2 (s2.cell h.np.1 h.p0), s3.cell h.np.2 (s2.cell h.np.1 h.p1), D2.tight.on s3 (fun g hg => hse g hg.1), R3.tight, R, ?_, ⟨?_, ?_⟩, ?_, ?_, ?_, hw, hm⟩
    · rintro g ⟨h1, h2⟩ ⟨h3 | h3, -⟩
      · exact hse g h1 h3
      · omega
    · rintro ⟨h1 | h1, -⟩
      · exact h.np.1 h1
      · omega
    · rintro ⟨h1 | h1, -⟩
      · exact h.np.2 h1
      · omega
    · exact hb2.trans (s3.below (fun g hg => h.lo g (.inr hg)) hb2.size)
    · have hbs := h.base.size
      rintro g (⟨h1 | h1, -⟩ | ⟨h1 | h1, -⟩)
      · exact h.lo g (.inl h1)
      · omega
      · exact h.lo g (.inr h1)
      · omega
    · rintro g (⟨-, h1⟩ | ⟨-, h1⟩) <;> omega
  · rcases h'.1 with h1 | h1
    · exact h1
    · omega
  · rcases h'.1 with h1 | h1
    · exact h1
    · omega
  · exact (s2.weak (fun _ h => .inl h)).trans (s3.weak (fun _ h => .inr h))

def RDsk.writeAny (r : RDsk) (at_ : Int) (s : ByteArray) : RDsk := if okW r.seen.length at_ s then r.write at_.toNat s else r
theorem ref_writeAny (be : Nat) (S : Nat → Prop) (d : Dsk) (r : RDsk) (at_ : Int) (s : ByteArray) (w : World) (h : RefAt w S be r) (R : Rel d r) (hw : r.wait.length ≤ 1000000) :
    Calls Tryz.prog 114 #[.pointer (some ⟨be, 0, none⟩), .int .i64 at_, .string s] w fun e w' => e = .returned (.int .i64 (d.wcode at_ s : Nat)) ∧ RefAt w' (fun g => S g ∨ w.heap.size ≤ g) be (r.writeAny at_ s) ∧ Same S w w' := by
  have hl := R.seenLen
  unfold Dsk.wcode RDsk.writeAny
  rw [hl]
  cases hok : okW d.safe.length at_ s
  · refine (ref_write_bad be S r at_ s w h (by rw [hl]; exact R.size.1) (by rw [hl]; exact okW_not hok)).mono ?_
    rintro e w' ⟨rfl, rfl⟩
    exact ⟨rfl, h.mono (fun _ h => .inl h), Same.refl _ _⟩
  · obtain ⟨h1, h2, h3⟩ := okW_spec hok
    obtain ⟨k, rfl⟩ : ∃ k : Nat, at_ = k := ⟨at_.toNat, by omega⟩
    refine (ref_write be S r k s w h (by omega) h3 hw).mono ?_
    rintro e w' ⟨rfl, h', s'⟩
    refine ⟨?_, h', s'⟩
    rw [R.ans]
    cases d.op.down <;> rfl
theorem Rel.writeAny {d : Dsk} {r : RDsk} (h : Rel d r) (at_ : Int) (s : ByteArray) : Rel (d.writeAny at_ s) (r.writeAny at_ s) := by
  unfold Dsk.writeAny RDsk.writeAny
  rw [h.seenLen]
  split
  · exact h.write _ _
  · exact h
theorem writeAny_wait (d : Dsk) (at_ : Int) (s : ByteArray) : (d.writeAny at_ s).wait.length ≤ d.wait.length + 1 := by
  unfold Dsk.writeAny Dsk.write
  split
  · split
    · rw [dop_wait]; omega
    · show (d.op.wait ++ _).length ≤ _
      rw [List.length_append, dop_wait]
      exact Nat.le_refl _
  · omega

set_option maxRecDepth 100000 in
set_option maxHeartbeats 1000000 in
theorem ldisk_write (w0 W : World) (a : Nat → Addr) (S0 : Sent w0 a) (N bw pg po bd be m : Nat) (Sd Se : Nat → Prop) (d : Dsk) (r : RDsk) (x : Stp) (hk : x.kind = 5) (H : Duo w0 W N pg po bd be m Sd Se d r) (hN : N ≤ 1000000) :
    Calls Tryz.prog 72 #[.pointer (some ⟨bw, 0, none⟩), .pointer (some ⟨pg, po, none⟩), stpV x] W fun e W' => e = .returned (.bool true) ∧ Leaves2 w0 W N pg po bd be Sd Se W' ∧ Same (fun g => Sd g ∨ Se g) W W' := by
  obtain ⟨kd, xa, xb, xd, xs, xt⟩ := x
  simp only at hk
  subst hk
  obtain ⟨W1, hW1⟩ : ∃ W1, W1 = W.alloc (.cells #[.int .i64 5, .int .i64 xa, .int .i64 xb, .int .i64 xd, .string xs, .string xt] 67) := ⟨_, rfl⟩
  have s1 : Same (fun _ => False) W W1 := by rw [hW1]; exact Same.alloc0 W _
  have H1 := H.on s1 (fun _ h => h.elim) (fun _ _ h => h) (fun h => h)
  have b1 : W1.cell? ⟨W.heap.size, 1, none⟩ = some (.int .i64 xa) := by rw [hW1]; simp
  have b4 : W1.cell? ⟨W.heap.size, 4, none⟩ = some (.string xs) := by rw [hW1]; simp
  have hnb : ¬ Sd W.heap.size := fun h => by have := H.hi _ (.inl h); omega
  have hnc : ¬ Se W.heap.size := fun h => by have := H.hi _ (.inr h); omega
  have c0 := H1.p0
  have hwl := H.wl
  have hml := H.ml
  have hwr := H.wlr
  have HR : Hid (Calls Tryz.prog 113 #[.pointer (some ⟨bd, 0, none⟩), .int .i64 xa, .string xs] W1.drew fun e w' => e = .returned (.int .i64 (d.wcode xa xs : Nat)) ∧ (∃ m', m' ≤ m + 1 ∧ DskAt w' (fun g => Sd g ∨ W1.drew.heap.size ≤ g) bd m' (d.writeAny xa xs)) ∧ Same Sd W1.drew w') :=
    plain_write w0 a S0 bd m Sd d W1.drew xa xs H1.drew.dsk H1.drew.base (fun g h => H1.lo g (.inl h)) (fun g h => H1.drew.hi g (.inl h)) H1.rel.most (by omega) (by omega) H1.rel.size.2
  have HQ : Hid (∀ V, RefAt V Se be r → Calls Tryz.prog 114 #[.pointer (some ⟨be, 0, none⟩), .int .i64 xa, .string xs] V fun e w' => e = .returned (.int .i64 (d.wcode xa xs : Nat)) ∧ RefAt w' (fun g => Se g ∨ V.heap.size ≤ g) be (r.writeAny xa xs) ∧ Same Se V w') := fun V hV => ref_writeAny be Se d r xa xs V hV H.rel (by omega)
  have HH1 : Hid (Duo w0 W1.drew N pg po bd be m Sd Se d r) := H1.drew
  have HS1 : Hid (Same (fun g => Sd g ∨ Se g) W W1.drew) := (s1.weak (fun _ h => h.elim)).drew
  have HN : Hid (¬ Sd pg ∧ ¬ Se pg) := H.np
  have HB : Hid ((d.writeAny xa xs).wait.length ≤ N + 1 ∧ m + 1 ≤ N + 1) := ⟨by have := writeAny_wait d xa xs; omega, by omega⟩
  obtain ⟨c, hc⟩ : ∃ c : Int, c = (d.wcode xa xs : Nat) := ⟨_, rfl⟩
  rw [← hc] at HR HQ
  clear H1 H s1 hc hwl hml hwr S0
  go_enter Tryz.func72, Tryz.ntmps72
  go_wp2
  rw [← hW1]
  clear hW1
  go_region_held3 (fun w' => w'.cell? ⟨pg, po, none⟩ = some (.pointer (some ⟨bd, 0, none⟩)) ∧ w'.cell? ⟨W.heap.size, 1, none⟩ = some (.int .i64 xa) ∧ w'.cell? ⟨W.heap.size, 4, none⟩ = some (.string xs)) (((repeat' constructor) <;> first | assumption | (rw [World.cell?_drew]; assumption))) (first | (go_at_call 113; refine HR.out.mono ?_; rintro e W2 ⟨rfl, D2, S2⟩; have c02 : W2.cell? ⟨pg, po, none⟩ = some (.pointer (some ⟨bd, 0, none⟩)) := S2.cell HN.out.1 (by rw [World.cell?_drew]; exact c0); have b12 : W2.cell? ⟨W.heap.size, 1, none⟩ = some (.int .i64 xa) := S2.cell hnb (by rw [World.cell?_drew]; exact b1); have b42 : W2.cell? ⟨W.heap.size, 4, none⟩ = some (.string xs) := S2.cell hnb (by rw [World.cell?_drew]; exact b4); have HD2 : Hid (∃ m', m' ≤ m + 1 ∧ DskAt W2 (fun g => Sd g ∨ W1.drew.heap.size ≤ g) bd m' (d.writeAny xa xs)) := D2; have HS2 : Hid (Same Sd W1.drew W2) := S2; clear D2 S2))
  obtain ⟨hp0, hp1, hr2, hb2⟩ := HH1.out.turnD HS2.out
  have HQ2 : Hid (Calls Tryz.prog 114 #[.pointer (some ⟨be, 0, none⟩), .int .i64 xa, .string xs] W2.drew fun e w' => e = .returned (.int .i64 c) ∧ RefAt w' (fun g => Se g ∨ W2.drew.heap.size ≤ g) be (r.writeAny xa xs) ∧ Same Se W2.drew w') := HQ.out W2.drew (hr2.on (Same.refl (fun _ => False) W2).drew (fun _ _ h => h))
  clear HQ HR hr2 hb2 hp0 c0 b1 b4
  go_wp2
  go_region_held3 (fun w' => w'.cell? ⟨pg, po + 1, none⟩ = some (.pointer (some ⟨be, 0, none⟩)) ∧ w'.cell? ⟨W.heap.size, 1, none⟩ = some (.int .i64 xa) ∧ w'.cell? ⟨W.heap.size, 4, none⟩ = some (.string xs)) (((repeat' constructor) <;> first | assumption | (rw [World.cell?_drew]; assumption))) (first | (go_at_call 114; refine HQ2.out.mono ?_; rintro e W3 ⟨rfl, R3, S3⟩; have c13 : W3.cell? ⟨pg, po + 1, none⟩ = some (.pointer (some ⟨be, 0, none⟩)) := S3.cell HN.out.2 (by rw [World.cell?_drew]; exact hp1); have b13 : W3.cell? ⟨W.heap.size, 1, none⟩ = some (.int .i64 xa) := S3.cell hnc (by rw [World.cell?_drew]; exact b12); have b43 : W3.cell? ⟨W.heap.size, 4, none⟩ = some (.string xs) := S3.cell hnc (by rw [World.cell?_drew]; exact b42); have HR3 : Hid (RefAt W3 (fun g => Se g ∨ W2.drew.heap.size ≤ g) be (r.writeAny xa xs)) := R3; have HS3 : Hid (Same Se W2.drew W3) := S3; clear R3 S3))
  go_wp2
  go_ret
  obtain ⟨m', hm', D2⟩ := HD2.out
  obtain ⟨h1, h2⟩ := HH1.out.both (W := W) HS1.out.size D2 HS2.out HR3.out (show Same Se W2 W3 from ⟨HS3.out.os, HS3.out.tape, HS3.out.output, HS3.out.size, HS3.out.block⟩) (HH1.out.rel.writeAny xa xs) HB.out.1 (Nat.le_trans hm' HB.out.2)
  exact ⟨rfl, h1, HS1.out.trans h2⟩
end Go.Proofs.YtbnokhdofkpcjaaGreatDoor
namespace Go.Proofs.YtbnokhdofkpcjaaGreatDoor
open Go.RowKit Go.Maps

theorem flush_wait (d : Dsk) : d.flush.wait.length ≤ d.wait.length := by
  unfold Dsk.flush
  split
  · rw [dop_wait]; exact Nat.le_refl _
  · exact Nat.zero_le _

set_option maxRecDepth 100000 in
set_option maxHeartbeats 1000000 in
theorem ldisk_flush (w0 W : World) (a : Nat → Addr) (S0 : Sent w0 a) (N bw pg po bd be m : Nat) (Sd Se : Nat → Prop) (d : Dsk) (r : RDsk) (x : Stp) (hk : x.kind = 6) (H : Duo w0 W N pg po bd be m Sd Se d r) (hN : N ≤ 1000000) :
    Calls Tryz.prog 72 #[.pointer (some ⟨bw, 0, none⟩), .pointer (some ⟨pg, po, none⟩), stpV x] W fun e W' => e = .returned (.bool true) ∧ Leaves2 w0 W N pg po bd be Sd Se W' ∧ Same (fun g => Sd g ∨ Se g) W W' := by
  obtain ⟨kd, xa, xb, xd, xs, xt⟩ := x
  simp only at hk
  subst hk
  obtain ⟨W1, hW1⟩ : ∃ W1, W1 = W.alloc (.cells #[.int .i64 6, .int .i64 xa, .int .i64 xb, .int .i64 xd, .string xs, .string xt] 67) := ⟨_, rfl⟩
  have s1 : Same (fun _ => False) W W1 := by rw [hW1]; exact Same.alloc0 W _
  have H1 := H.on s1 (fun _ h => h.elim) (fun _ _ h => h) (fun h => h)
  have c0 := H1.p0
  have hwl := H.wl
  have hml := H.ml
  have HR : Hid (Calls Tryz.prog 115 #[.pointer (some ⟨bd, 0, none⟩)] W1 fun e w' => e = .returned (.int .i64 (d.fcode : Nat)) ∧ DskAt w' Sd bd m d.flush ∧ Same Sd W1 w') :=
    plain_flush w0 a S0 bd m Sd d W1 H1.dsk H1.base (fun g h => H1.lo g (.inl h)) (fun g h => H1.hi g (.inl h)) H1.rel.most (by omega) H1.rel.size.2
  have hans : r.ans = (d.fcode : Nat) := by rw [H.rel.ans]; unfold Dsk.fcode; cases d.op.down <;> rfl
  have hsl : r.safe.length = d.safe.length := by rw [H.rel.safe]
  have HQ : Hid (∀ V, RefAt V Se be r → Calls Tryz.prog 116 #[.pointer (some ⟨be, 0, none⟩)] V fun e w' => e = .returned (.int .i64 (d.fcode : Nat)) ∧ RefAt w' Se be r.flush ∧ Same Se V w') := fun V hV => by
    have h := ref_flush be Se r V hV (by rw [hsl]; exact H.rel.size.1) (by rw [hsl]; exact H.rel.seenLen) (by rw [hsl]; exact H.rel.size.2)
    rw [hans] at h
    exact h
  have HH1 : Hid (Duo w0 W1 N pg po bd be m Sd Se d r) := H1
  have HS1 : Hid (Same (fun g => Sd g ∨ Se g) W W1) := s1.weak (fun _ h => h.elim)
  have HB : Hid (d.flush.wait.length ≤ N + 1 ∧ m ≤ N + 1) := ⟨by have := flush_wait d; omega, by omega⟩
  obtain ⟨c, hc⟩ : ∃ c : Int, c = (d.fcode : Nat) := ⟨_, rfl⟩
  rw [← hc] at HR HQ
  clear H1 H s1 hc hwl hml S0 hans hsl
  rw [hW1] at HR c0
  go_enter Tryz.func72, Tryz.ntmps72
  go_wp2_with fail
  refine HR.out.mono ?_
  rintro e W2 ⟨rfl, D2, S2⟩
  rw [← hW1] at S2 c0
  obtain ⟨hp0, hp1, hr2, hb2⟩ := HH1.out.turnD S2
  have HD2 : Hid (DskAt W2 Sd bd m d.flush) := D2
  have HS2 : Hid (Same Sd W1 W2) := S2
  have HQ2 : Hid (Calls Tryz.prog 116 #[.pointer (some ⟨be, 0, none⟩)] W2 fun e w' => e = .returned (.int .i64 c) ∧ RefAt w' Se be r.flush ∧ Same Se W2 w') := HQ.out W2 hr2
  clear D2 S2 HQ HR hr2 hb2 hp0 c0 hW1
  go_wp2_with fail
  refine HQ2.out.mono ?_
  rintro e W3 ⟨rfl, R3, S3⟩
  have HR3 : Hid (RefAt W3 Se be r.flush) := R3
  have HS3 : Hid (Same Se W2 W3) := S3
  clear R3 S3
  go_wp2
  go_ret
  obtain ⟨h1, h2⟩ := HH1.out.both (W := W) HS1.out.size (HD2.out.mono (fun _ h => .inl h)) HS2.out (HR3.out.mono (fun _ h => .inl h)) HS3.out HH1.out.rel.flush HB.out.1 HB.out.2
  exact ⟨rfl, h1, HS1.out.trans h2⟩

set_option maxRecDepth 100000 in
set_option maxHeartbeats 1000000 in
theorem ldisk_fuse (w0 W : World) (N bw pg po bd be m : Nat) (Sd Se : Nat → Prop) (d : Dsk) (r : RDsk) (x : Stp) (hk : x.kind = 7) (hra : inR x.a) (H : Duo w0 W N pg po bd be m Sd Se d r) :
    Calls Tryz.prog 72 #[.pointer (some ⟨bw, 0, none⟩), .pointer (some ⟨pg, po, none⟩), stpV x] W fun e W' => e = .returned (.bool true) ∧ Leaves2 w0 W N pg po bd be Sd Se W' ∧ Same (fun g => Sd g ∨ Se g) W W' := by
  obtain ⟨kd, xa, xb, xd, xs, xt⟩ := x
  simp only at hk hra
  subst hk
  obtain ⟨W1, hW1⟩ : ∃ W1, W1 = W.alloc (.cells #[.int .i64 7, .int .i64 xa, .int .i64 xb, .int .i64 xd, .string xs, .string xt] 67) := ⟨_, rfl⟩
  have s1 : Same (fun _ => False) W W1 := by rw [hW1]; exact Same.alloc0 W _
  have H1 := H.on s1 (fun _ h => h.elim) (fun _ _ h => h) (fun h => h)
  have b1 : W1.cell? ⟨W.heap.size, 1, none⟩ = some (.int .i64 xa) := by rw [hW1]; simp
  have hnb : ¬ Sd W.heap.size := fun h => by have := H.hi _ (.inl h); omega
  have hnc : ¬ Se W.heap.size := fun h => by have := H.hi _ (.inr h); omega
  have c0 := H1.p0
  have hwl := H.wl
  have hml := H.ml
  have HR : Hid (Calls Tryz.prog 32 #[.pointer (some ⟨bd, 0, none⟩), .int .i64 xa] W1.drew fun e w' => e = .returned (.tuple #[]) ∧ DskAt w' Sd bd m { d with fuse := max xa 0 } ∧ Same Sd W1.drew w') :=
    dsk_fuse bd m Sd d xa W1.drew H1.drew.dsk
  have HQ : Hid (∀ V, RefAt V Se be r → Calls Tryz.prog 117 #[.pointer (some ⟨be, 0, none⟩), .int .i64 xa] V fun e w' => e = .returned (.tuple #[]) ∧ RefAt w' Se be { r with lit := decide (0 < xa), left := xa } ∧ Same Se V w') := fun V hV => ref_fuse be Se r xa V hV
  have HH1 : Hid (Duo w0 W1.drew N pg po bd be m Sd Se d r) := H1.drew
  have HS1 : Hid (Same (fun g => Sd g ∨ Se g) W W1.drew) := (s1.weak (fun _ h => h.elim)).drew
  have HN : Hid (¬ Sd pg ∧ ¬ Se pg) := H.np
  have HB : Hid (d.wait.length ≤ N + 1 ∧ m ≤ N + 1 ∧ xa ≤ 9223372036854775807) := ⟨by omega, by omega, hra.2⟩
  clear H1 H s1 hwl hml hra
  go_enter Tryz.func72, Tryz.ntmps72
  go_wp2
  rw [← hW1]
  clear hW1
  go_region_held3 (fun w' => w'.cell? ⟨pg, po, none⟩ = some (.pointer (some ⟨bd, 0, none⟩)) ∧ w'.cell? ⟨W.heap.size, 1, none⟩ = some (.int .i64 xa)) (((repeat' constructor) <;> first | assumption | (rw [World.cell?_drew]; assumption))) (first | (go_at_call 32; refine HR.out.mono ?_; rintro e W2 ⟨rfl, D2, S2⟩; have c02 : W2.cell? ⟨pg, po, none⟩ = some (.pointer (some ⟨bd, 0, none⟩)) := S2.cell HN.out.1 (by rw [World.cell?_drew]; exact c0); have b12 : W2.cell? ⟨W.heap.size, 1, none⟩ = some (.int .i64 xa) := S2.cell hnb (by rw [World.cell?_drew]; exact b1); have HD2 : Hid (DskAt W2 Sd bd m { d with fuse := max xa 0 }) := D2; have HS2 : Hid (Same Sd W1.drew W2) := S2; clear D2 S2))
  obtain ⟨hp0, hp1, hr2, hb2⟩ := HH1.out.turnD HS2.out
  have HQ2 : Hid (Calls Tryz.prog 117 #[.pointer (some ⟨be, 0, none⟩), .int .i64 xa] W2.drew fun e w' => e = .returned (.tuple #[]) ∧ RefAt w' Se be { r with lit := decide (0 < xa), left := xa } ∧ Same Se W2.drew w') := HQ.out W2.drew (hr2.on (Same.refl (fun _ => False) W2).drew (fun _ _ h => h))
  clear HQ HR hr2 hb2 hp0 c0 b1
  go_wp2
  go_region_held3 (fun w' => w'.cell? ⟨pg, po + 1, none⟩ = some (.pointer (some ⟨be, 0, none⟩)) ∧ w'.cell? ⟨W.heap.size, 1, none⟩ = some (.int .i64 xa)) (((repeat' constructor) <;> first | assumption | (rw [World.cell?_drew]; assumption))) (first | (go_at_call 117; refine HQ2.out.mono ?_; rintro e W3 ⟨rfl, R3, S3⟩; have c13 : W3.cell? ⟨pg, po + 1, none⟩ = some (.pointer (some ⟨be, 0, none⟩)) := S3.cell HN.out.2 (by rw [World.cell?_drew]; exact hp1); have b13 : W3.cell? ⟨W.heap.size, 1, none⟩ = some (.int .i64 xa) := S3.cell hnc (by rw [World.cell?_drew]; exact b12); have HR3 : Hid (RefAt W3 Se be { r with lit := decide (0 < xa), left := xa }) := R3; have HS3 : Hid (Same Se W2.drew W3) := S3; clear R3 S3))
  go_wp2
  go_ret
  obtain ⟨h1, h2⟩ := HH1.out.both (W := W) (W2 := W2) HS1.out.size (HD2.out.mono (fun _ h => .inl h)) HS2.out (HR3.out.mono (fun _ h => .inl h)) (show Same Se W2 W3 from ⟨HS3.out.os, HS3.out.tape, HS3.out.output, HS3.out.size, HS3.out.block⟩) (HH1.out.rel.lit xa HB.out.2.2) HB.out.1 HB.out.2.1
  exact ⟨rfl, h1, HS1.out.trans h2⟩
end Go.Proofs.YtbnokhdofkpcjaaGreatDoor
namespace Go.Proofs.YtbnokhdofkpcjaaGreatDoor
open Go.RowKit Go.Maps

theorem own_shape {w : World} {S : Nat → Prop} {e : TypeId} {k n : Nat} {v : Value} {xs : List Value} (h : OwnS w S e k v n xs) : ∃ ao c, v = .slice ao n c := by
  obtain ⟨-, ⟨h1, h2⟩ | ⟨g, cap, cur, hv, -⟩⟩ := h.1
  · exact ⟨none, 0, by rw [h1, h2]⟩
  · exact ⟨_, _, hv⟩

set_option maxRecDepth 100000 in
set_option maxHeartbeats 1000000 in
theorem ldisk_waiting (w0 W : World) (N bw pg po bd be m : Nat) (Sd Se : Nat → Prop) (d : Dsk) (r : RDsk) (x : Stp) (hk : x.kind = 10) (H : Duo w0 W N pg po bd be m Sd Se d r) :
    Calls Tryz.prog 72 #[.pointer (some ⟨bw, 0, none⟩), .pointer (some ⟨pg, po, none⟩), stpV x] W fun e W' => e = .returned (.bool true) ∧ Duo w0 W' N pg po bd be m Sd Se d r ∧ Same Sd W W' := by
  obtain ⟨kd, xa, xb, xd, xs, xt⟩ := x
  simp only at hk
  subst hk
  obtain ⟨W1, hW1⟩ : ∃ W1, W1 = W.alloc (.cells #[.int .i64 10, .int .i64 xa, .int .i64 xb, .int .i64 xd, .string xs, .string xt] 67) := ⟨_, rfl⟩
  have s1 : Same (fun _ => False) W W1 := by rw [hW1]; exact Same.alloc0 W _
  have H1 := H.on s1 (fun _ h => h.elim) (fun _ _ h => h) (fun h => h)
  have c0 := H1.p0
  have HR : Hid (Calls Tryz.prog 53 #[.pointer (some ⟨bd, 0, none⟩)] W1 fun e w' => e = .returned (.int .i64 (d.wait.length : Int)) ∧ DskAt w' Sd bd m d ∧ Same Sd W1 w') := dsk_waiting bd m Sd d W1 H1.dsk
  have HH1 : Hid (Duo w0 W1 N pg po bd be m Sd Se d r) := H1
  have HS1 : Hid (Same Sd W W1) := s1.weak (fun _ h => h.elim)
  have hwr : r.wait.length = d.wait.length := by rw [H.rel.wait]
  have hsr := H.rel.seenLen
  clear H1 H s1
  rw [hW1] at HR c0
  go_enter Tryz.func72, Tryz.ntmps72
  go_wp2_with fail
  refine HR.out.mono ?_
  rintro e W2 ⟨rfl, D2, S2⟩
  rw [← hW1] at S2 c0
  obtain ⟨hp0, hp1, hr2, hb2⟩ := HH1.out.turnD S2
  have HF : Hid (Duo w0 W2 N pg po bd be m Sd Se d r ∧ Same Sd W W2) := by
    have h1 := HH1.out
    exact ⟨⟨hp0, hp1, D2, hr2, h1.rel, h1.dj, h1.np, hb2, h1.lo, fun g hg => Nat.lt_of_lt_of_le (h1.hi g hg) S2.size, h1.wl, h1.ml⟩, HS1.out.trans S2⟩
  have HQ : Hid (Calls Tryz.prog 62 #[.pointer (some ⟨bd, 0, none⟩)] W2 fun e w' => e = .returned (.int .i64 (d.safe.length : Int)) ∧ W2 = w') := dsk_sectors bd m Sd d W2 D2
  obtain ⟨sv, nv, wv, hv⟩ := hr2
  obtain ⟨ao, cw, rfl⟩ := own_shape hv.wait
  obtain ⟨an, cn, rfl⟩ := own_shape hv.seen
  have e2 : W2.cell? ⟨be, 2, none⟩ = some (.slice ao r.wait.length cw) := cell_of_row _ _ _ _ _ _ hv.blk
  have e1 : W2.cell? ⟨be, 1, none⟩ = some (.slice an r.seen.length cn) := cell_of_row _ _ _ _ _ _ hv.blk
  rw [hwr] at e2
  rw [hsr] at e1
  obtain ⟨nw, hnw⟩ : ∃ n, n = d.wait.length := ⟨_, rfl⟩
  obtain ⟨ns, hns⟩ : ∃ n, n = d.safe.length := ⟨_, rfl⟩
  rw [← hnw] at e2
  rw [← hns] at e1 HQ
  rw [← hnw]
  clear D2 S2 HR hb2 c0 hW1 hv hwr hsr hnw hns HH1 HS1
  go_wp2_with fail
  refine HQ.out.mono ?_
  rintro e W3 ⟨rfl, rfl⟩
  go_wp2
  go_ret
  exact ⟨rfl, HF.out⟩
end Go.Proofs.YtbnokhdofkpcjaaGreatDoor
namespace Go.Proofs.YtbnokhdofkpcjaaGreatDoor
open Go.RowKit Go.Maps

def kints (ks : List Int) : List Value := ks.map (Value.int .i64)
theorem keep_shape {w : World} {kv : Value} {ks : List Int} (h : w.ownsRow 0 3 1 kv ks.length (kints ks)) : ∃ ao c, kv = .slice ao ks.length c ∧ (0 < ks.length → ∃ g, ao = some ⟨g, 0, none⟩ ∧ ∀ j (h : j < ks.length), w.cell? ⟨g, j, none⟩ = some (.int .i64 ks[j])) := by
  have hc := fun g (hg : kv.ownBlock = some g) => World.ownsRow.cells h hg
  obtain ⟨-, ⟨h1, h2⟩ | ⟨g, cap, cur, hv, -, hh, hle, -, -, htk⟩⟩ := h
  · exact ⟨none, 0, by rw [h1, h2], fun h => by omega⟩
  · refine ⟨some ⟨g, 0, none⟩, cap, hv, fun _ => ⟨g, rfl, fun j hj => ?_⟩⟩
    have h := hc g (by rw [hv]; rfl) j (.int .i64 ks[j]) (by simp [kints, hj])
    have e1 : (⟨g, 0, none⟩ : Addr).add j = ⟨g, j, none⟩ := by unfold Addr.add; split <;> simp_all
    rw [e1] at h
    exact h
theorem keepAt_of {w : World} {S : Nat → Prop} {kv : Value} {ks : List Int} (h : w.ownsRow 0 3 1 kv ks.length (kints ks)) (hS : ∀ g, kv.ownBlock = some g → ¬ S g) : KeepAt w S kv ks := by
  obtain ⟨ao, c, rfl, h2⟩ := keep_shape h
  by_cases hp : 0 < ks.length
  · obtain ⟨g, rfl, hg⟩ := h2 hp
    exact .inr ⟨g, c, rfl, hp, hS g rfl, hg⟩
  · have : ks = [] := List.eq_nil_of_length_eq_zero (by omega)
    subst this
    exact .inl ⟨ao, c, rfl, rfl⟩

/-- append([]int{}, keep...). -/
theorem run_append_keep (w : World) (g0 : Nat) (ty : TypeId) (kv : Value) (ks : List Int) (hg0 : g0 < w.heap.size) (h : w.ownsRow 0 3 1 kv ks.length (kints ks)) (hl : ks.length ≤ 1000000) :
    ∃ v' w', (Builtin.append_ #[34, 34] ty #[.slice (some ⟨g0, 0, none⟩) 0 0, kv]).run Tryz.prog w = .ok v' w' ∧ Below w.heap.size w w' ∧ KeepAt w' (fun g => g < g0) v' ks := by
  obtain ⟨i, hi, hz0, hz1, hz2⟩ := info_parts infoInt
  obtain ⟨ao, c, rfl, h2⟩ := keep_shape h
  by_cases hp : 0 < ks.length
  · obtain ⟨g, rfl, hg⟩ := h2 hp
    have hr := run_append_grow (P := Tryz.prog) w 34 ty 3 i (.int .i64 0) Tryz.underlying34 hi hz0 ⟨g0, 0, none⟩ 0 0 [] (by simp) (by intro j v hv; cases hv) ⟨g, 0, none⟩ ks.length c (kints ks) (by rw [hz1]; simp [kints]) (fun j v hv => by
      have e1 : (⟨g, 0, none⟩ : Addr).add j = ⟨g, j, none⟩ := by unfold Addr.add; split <;> simp_all
      rw [e1]
      have hj : j < ks.length := by
        rcases Nat.lt_or_ge j ks.length with h | h
        · exact h
        · rw [List.getElem?_eq_none (by simpa [kints] using h)] at hv; cases hv
      rw [hg j hj]
      simp [kints, hj] at hv
      rw [hv]) (by omega) (by omega) (growslice_fits (by omega) (by rw [hz2]; omega))
    refine ⟨_, _, hr, ?_, .inr ⟨w.heap.size, _, by rw [Nat.zero_add], hp, by show ¬ w.heap.size < g0; omega, fun j hj => ?_⟩⟩
    · exact ((Below.refl w.heap.size w).drew).alloc (Nat.le_refl _) _
    · have hn := heap_alloc_new w.drew (.cells ([].toArray ++ (kints ks).toArray ++ Builtin.zeroCells (Value.int IntKind.i64 0).cells (grownCap w (0 + ks.length) 0 3 - (0 + ks.length))) 3)
      show World.cell? _ ⟨w.drew.heap.size, j, none⟩ = _
      rw [cell_of_row _ _ _ _ _ _ hn]
      have hsz : (kints ks).length = ks.length := by simp [kints]
      rw [Array.getElem?_append_left (by simp [hsz, hj])]
      simp [kints, hj]
  · have hk : ks = [] := List.eq_nil_of_length_eq_zero (by omega)
    subst hk
    refine ⟨.slice (some ⟨g0, 0, none⟩) 0 0, w, ?_, Below.refl _ _, .inl ⟨_, _, rfl, rfl⟩⟩
    cases ao <;> simp [Builtin.append_, run_underlying Tryz.underlying34, sizeOf, typeInfo, hi, Builtin.lenOf, Builtin.firstCells, loadCells, loadCellsFrom] <;> rfl

theorem step_append_keep {w : World} {ops : Array Oper} {o : Oper} {a : Act} {K : Act → World → Prop} {Q : Exit → Act → World → Prop} {E : Prop} (hgd : o.guard = none) (s x : Operand)
    (ho : o.op = .call { callee := .builtin .append, args := #[s, x], argTypes := #[34, 34] }) (g0 : Nat) (kv : Value) (ks : List Int) (hs : a.eval s = .slice (some ⟨g0, 0, none⟩) 0 0) (hx : a.eval x = kv) (hg0 : g0 < w.heap.size)
    (hown : w.ownsRow 0 3 1 kv ks.length (kints ks)) (hl : ks.length ≤ 1000000)
    (h : ∀ v' w', Below w.heap.size w w' → KeepAt w' (fun g => g < g0) v' ks → K (a.put o.dst v') w') : if Region.wanted o (yielded ops a.tmps) = true then Oper.wp Tryz.prog o a w K Q else E := by
  have hw : Region.wanted o (yielded ops a.tmps) = true := by simp [Region.wanted, hgd]
  rw [if_pos hw]
  obtain ⟨v', w', hr, h1, h2⟩ := run_append_keep w g0 o.type kv ks hg0 hown hl
  unfold Oper.wp execOp
  simp only [ho, resolve, invoke, builtin, Sem.run_bind, Sem.run_pure, Result.andThen_ok, List.map_toArray, List.map_cons, List.map_nil, hs, hx, hr]
  exact h v' w' h1 h2
theorem Leaves2.on {w0 W W' W'' : World} {T : Nat → Prop} {N pg po bd be : Nat} {Sd Se : Nat → Prop} (h : Leaves2 w0 W N pg po bd be Sd Se W') (hs : Same T W' W'') (hT : ∀ g, T g → w0.heap.size ≤ g ∧ g < W.heap.size ∧ ¬ Sd g ∧ ¬ Se g ∧ g ≠ pg) : Leaves2 w0 W N pg po bd be Sd Se W'' := by
  obtain ⟨m', Sd', Se', d', r', h1, h2⟩ := h
  refine ⟨m', Sd', Se', d', r', h1.on hs (fun g hg => (hT g hg).1) (fun g hg ht => ?_) (fun ht => (hT pg ht).2.2.2.2 rfl), h2⟩
  obtain ⟨-, t1, t2, t3, -⟩ := hT g ht
  rcases hg with hg | hg
  · exact t2 ((h2 g t1).1.1 hg)
  · exact t3 ((h2 g t1).2.1 hg)

set_option maxRecDepth 100000 in
set_option maxHeartbeats 1000000 in
theorem ldisk_crash (w0 W : World) (N bw pg po bd be m : Nat) (Sd Se : Nat → Prop) (d : Dsk) (r : RDsk) (x : Stp) (kv : Value) (ks : List Int) (row : Array Value) (rt : TypeId) (hk : x.kind = 9) (H : Duo w0 W N pg po bd be m Sd Se d r) (hN : N ≤ 1000000)
    (hb : W.heap[bw]? = some (.cells row rt (0, 0))) (hrow : row[1]? = some kv) (hkv : W.ownsRow 0 3 1 kv ks.length (kints ks)) (hks : ks.length ≤ 1000000) (hkd : ∀ g, kv.ownBlock = some g → ¬ Sd g ∧ ¬ Se g) (hbw : w0.heap.size ≤ bw ∧ ¬ Sd bw ∧ ¬ Se bw ∧ bw ≠ pg) :
    Calls Tryz.prog 72 #[.pointer (some ⟨bw, 0, none⟩), .pointer (some ⟨pg, po, none⟩), stpV x] W fun e W' => e = .returned (.bool true) ∧ Leaves2 w0 W N pg po bd be Sd Se W' ∧ Same (fun g => Sd g ∨ Se g ∨ g = bw) W W' ∧ W'.heap[bw]? = some (.cells (row.setIfInBounds 1 (.slice none 0 0)) rt (0, 0)) := by
  obtain ⟨kd, xa, xb, xd, xs, xt⟩ := x
  simp only at hk
  subst hk
  obtain ⟨W1, hW1⟩ : ∃ W1, W1 = W.alloc (.cells #[.int .i64 9, .int .i64 xa, .int .i64 xb, .int .i64 xd, .string xs, .string xt] 67) := ⟨_, rfl⟩
  have s1 : Same (fun _ => False) W W1 := by rw [hW1]; exact Same.alloc0 W _
  have H1 := H.on s1 (fun _ h => h.elim) (fun _ _ h => h) (fun h => h)
  have c0 : W1.cell? ⟨pg, po, none⟩ = some (.pointer (some ⟨bd, 0, none⟩)) := H1.p0
  have k0 : W.cell? ⟨bw, 1, none⟩ = some kv := by rw [cell_of_row _ _ _ _ _ _ hb]; exact hrow
  have k1 : W1.cell? ⟨bw, 1, none⟩ = some kv := s1.cell (fun h => h) k0
  have hwl := H.wl
  have hml := H.ml
  have HH1 : Hid (Duo w0 W1 N pg po bd be m Sd Se d r) := H1
  have HS1 : Hid (Same (fun g => Sd g ∨ Se g) W W1) := s1.weak (fun _ h => h.elim)
  have HN : Hid ((¬ Sd pg ∧ ¬ Se pg) ∧ ¬ Sd bw ∧ ¬ Se bw) := ⟨H.np, hbw.2.1, hbw.2.2.1⟩
  have HLT : Hid (pg < W1.heap.size ∧ bw < W1.heap.size ∧ W.heap.size < W1.heap.size) := ⟨block_lt_of_cell H1.p0, block_lt_of_cell k1, by rw [hW1]; simp⟩
  have HKV : Hid (W1.ownsRow 0 3 1 kv ks.length (kints ks)) := own_heap hkv (fun g hg => s1.block g (OwnS.lt (S := fun _ => True) ⟨hkv, fun _ _ => trivial⟩ hg) (fun h => h))
  have HKS : Hid (ks.length ≤ 1000000) := hks
  have HKL : Hid (∀ V, Same Sd W1 V → V.ownsRow 0 3 1 kv ks.length (kints ks)) := fun V s => own_heap HKV.out (fun g hg => s.block g (OwnS.lt (S := fun _ => True) ⟨HKV.out, fun _ _ => trivial⟩ hg) (hkd g hg).1)
  have HR : Hid (∀ V kv2, Below W1.heap.size W1 V → KeepAt V (fun g => g < W1.heap.size) kv2 ks → Calls Tryz.prog 34 #[.pointer (some ⟨bd, 0, none⟩), kv2] V fun e w' => e = .returned (.tuple #[]) ∧ DskAt w' Sd bd m { d with safe := keepAll d.wait d.safe ks, wait := [], fuse := 0, down := false } ∧ Same Sd V w') := fun V kv2 hV hK => by
    refine plain_crash bd m Sd d V kv2 ks (HH1.out.dsk.on (below_same (fun _ => False) hV) (fun _ _ h => h)) ?_ (by omega) HH1.out.rel.size.2 hks
    rcases hK with h | ⟨gk, cap, e1, e2, e3, e4⟩
    · exact .inl h
    · exact .inr ⟨gk, cap, e1, e2, fun h => e3 (HH1.out.hi gk (.inl h)), e4⟩
  have hsl : r.safe.length = d.safe.length := by rw [H.rel.safe]
  have hv2 : ∀ x ∈ r.wait, x.1 < r.safe.length := by
    obtain ⟨gs, bm, wv, hd⟩ := H.dsk
    rw [H.rel.wait, hsl]
    exact fun x hx => (hd.rest.v2 x hx).1
  have HQ : Hid (∀ V, RefAt V Se be r → V.ownsRow 0 3 1 kv ks.length (kints ks) → Calls Tryz.prog 118 #[.pointer (some ⟨be, 0, none⟩), kv] V fun e w' => e = .returned (.tuple #[]) ∧ RefAt w' Se be (r.crash ks) ∧ Same Se V w') := fun V hV hK => by
    refine ref_crash be Se r kv ks V hV (keepAt_of hK (fun g hg => (hkd g hg).2)) (by rw [hsl]; exact H.rel.size.1) (by rw [hsl]; exact H.rel.seenLen) (by rw [hsl]; exact H.rel.size.2) hv2 ?_ hks
    have := H.wlr
    omega
  have HB : Hid (0 ≤ N + 1 ∧ m ≤ N + 1) := ⟨by omega, by omega⟩
  have HBW : Hid (W.heap[bw]? = some (.cells row rt (0, 0)) ∧ w0.heap.size ≤ bw ∧ bw ≠ pg) := ⟨hb, hbw.1, hbw.2.2.2⟩
  have hbi : ∀ w, (Instr.buildSlice 34 0 #[]).run Tryz.prog w = .ok (.slice (some ⟨w.heap.size, 0, none⟩) 0 0) (w.alloc (.cells #[] 3)) := fun w => by
    obtain ⟨i, hi, hz0, hz1, hz2⟩ := info_parts infoInt
    simp [Instr.buildSlice, run_underlying Tryz.underlying34, sizeOf, typeInfo, hi, newRow, Instr.fill, Array.range_zero']
  clear H1 H s1 hwl hml hkv hks hkd hb hrow k0 hbw hsl hv2
  go_enter Tryz.func72, Tryz.ntmps72
  go_wp2
  rw [← hW1]
  clear hW1
  go_region_held3 (fun w' => w'.cell? ⟨pg, po, none⟩ = some (.pointer (some ⟨bd, 0, none⟩)) ∧ w'.cell? ⟨bw, 1, none⟩ = some kv) (((repeat' constructor) <;> first | assumption | (rw [World.cell?_drew]; assumption) | (rw [World.cell?_drew, World.cell?_alloc_some _ _ _ (by simp [*])]; assumption))) (first
    | (refine step_append_keep rfl _ _ rfl W1.heap.size kv ks rfl rfl (by simp) (World.ownsRow.alloc (w := W1) HKV.out _) HKS.out ?_; intro v' W2 hB2 hK2; have HK2 : Hid (KeepAt W2 (fun g => g < W1.heap.size) v' ks) := hK2; have HBB : Hid (Below W1.heap.size W1 W2) := (((Below.refl W1.heap.size W1).alloc (Nat.le_refl _) _).drew).trans (hB2.mono (by simp)); have c02 : W2.cell? ⟨pg, po, none⟩ = some (.pointer (some ⟨bd, 0, none⟩)) := (HBB.out.cell HLT.out.1).trans c0; have k02 : W2.cell? ⟨bw, 1, none⟩ = some kv := (HBB.out.cell HLT.out.2.1).trans k1; clear hB2 hK2)
    | (go_at_call 34; refine (HR.out W2 v' HBB.out HK2.out).mono ?_; rintro e W3 ⟨rfl, D3, S3⟩; have c03 : W3.cell? ⟨pg, po, none⟩ = some (.pointer (some ⟨bd, 0, none⟩)) := S3.cell HN.out.1.1 c02; have k03 : W3.cell? ⟨bw, 1, none⟩ = some kv := S3.cell HN.out.2.1 k02; have HD3 : Hid (DskAt W3 Sd bd m { d with safe := keepAll d.wait d.safe ks, wait := [], fuse := 0, down := false }) := D3; have HS3 : Hid (Same Sd W1 W3) := (below_same Sd HBB.out).trans S3; clear D3 S3))
  obtain ⟨hp0, hp1, hr3, hb3⟩ := HH1.out.turnD HS3.out
  have HQ2 : Hid (Calls Tryz.prog 118 #[.pointer (some ⟨be, 0, none⟩), kv] W3.drew fun e w' => e = .returned (.tuple #[]) ∧ RefAt w' Se be (r.crash ks) ∧ Same Se W3.drew w') := HQ.out W3.drew (hr3.on (Same.refl (fun _ => False) W3).drew (fun _ _ h => h)) (HKL.out W3 HS3.out)
  clear HQ HR hr3 hb3 hp0 c0 k1 HKV HKL HK2 HBB c02 k02
  go_wp2
  go_region_held3 (fun w' => w'.cell? ⟨pg, po + 1, none⟩ = some (.pointer (some ⟨be, 0, none⟩)) ∧ w'.cell? ⟨bw, 1, none⟩ = some kv) (((repeat' constructor) <;> first | assumption | (rw [World.cell?_drew]; assumption))) (first
    | (go_at_call 118; refine HQ2.out.mono ?_; rintro e W4 ⟨rfl, R4, S4⟩; have c14 : W4.cell? ⟨pg, po + 1, none⟩ = some (.pointer (some ⟨be, 0, none⟩)) := S4.cell HN.out.1.2 (by rw [World.cell?_drew]; exact hp1); have k04 : W4.cell? ⟨bw, 1, none⟩ = some kv := S4.cell HN.out.2.2 (by rw [World.cell?_drew]; exact k03); have HR4 : Hid (RefAt W4 Se be (r.crash ks)) := R4; have HS4 : Hid (Same Se W3 W4) := ⟨S4.os, S4.tape, S4.output, S4.size, S4.block⟩; clear R4 S4))
  obtain ⟨h1, h2⟩ := HH1.out.both (W := W) HS1.out.size (HD3.out.mono (fun _ h => .inl h)) HS3.out (HR4.out.mono (fun _ h => .inl h)) HS4.out (HH1.out.rel.crash ks) HB.out.1 HB.out.2
  have hs := HS1.out.trans h2
  have hb4 : W4.heap[bw]? = some (.cells row rt (0, 0)) := by
    rw [hs.block bw (lt_of_heap' HBW.out.1) (by rintro (h | h); exact HN.out.2.1 h; exact HN.out.2.2 h)]
    exact HBW.out.1
  have f4 := frozen_of_row W4 bw 1 _ _ hb4
  have HF : Hid (Leaves2 w0 W N pg po bd be Sd Se (W4.setCell ⟨bw, 1, none⟩ (.slice none 0 0)) ∧ Same (fun g => Sd g ∨ Se g ∨ g = bw) W (W4.setCell ⟨bw, 1, none⟩ (.slice none 0 0)) ∧ (W4.setCell ⟨bw, 1, none⟩ (.slice none 0 0)).heap[bw]? = some (.cells (row.setIfInBounds 1 (.slice none 0 0)) rt (0, 0))) := by
    have hs5 : Same (· = bw) W4 (W4.setCell ⟨bw, 1, none⟩ (.slice none 0 0)) := Same.setCell (S := (· = bw)) (Same.refl _ _) ⟨bw, 1, none⟩ rfl _
    refine ⟨h1.on hs5 ?_, ?_, ?_⟩
    · rintro g rfl
      exact ⟨HBW.out.2.1, lt_of_heap' HBW.out.1, HN.out.2.1, HN.out.2.2, HBW.out.2.2⟩
    · exact (hs.weak (fun g h => h.elim .inl (fun h => .inr (.inl h)))).trans (hs5.weak (fun g h => .inr (.inr h)))
    · rw [heap_setCell_same W4 bw 1 _ _ _ hb4]
  clear h1 h2 hs hb4 HD3 HS3 HR4 HS4 HH1 HS1 HB HBW HN HLT
  go_wp2
  go_ret
  exact ⟨rfl, HF.out⟩
end Go.Proofs.YtbnokhdofkpcjaaGreatDoor
namespace Go.Proofs.YtbnokhdofkpcjaaGreatDoor
open Go.RowKit Go.Maps

theorem Duo.tell {w0 W : World} {N pg po bd be m : Nat} {Sd Se : Nat → Prop} {d : Dsk} {r : RDsk} (h : Duo w0 W N pg po bd be m Sd Se d r) : ∃ gn cn, W.cell? ⟨be, 1, none⟩ = some (.slice (some ⟨gn, 0, none⟩) d.safe.length cn) ∧ ∀ j : Nat, j < d.safe.length → W.cell? ⟨gn, j, none⟩ = some (.string (d.rd j)) ∧ d.rcode j = 0 := by
  obtain ⟨sv, nv, wv, hv⟩ := h.ref
  have hl := h.rel.seenLen
  obtain ⟨gn, cn, rfl, -, hc, -⟩ := hv.seen.open (by rw [hl]; exact h.rel.size.1)
  refine ⟨gn, cn, ?_, fun j hj => ⟨?_, ?_⟩⟩
  · rw [cell_of_row _ _ _ _ _ _ hv.blk, ← hl]
    rfl
  · rw [hc j (by rw [strs_length, hl]; exact hj)]
    have e1 : d.rd j = d.at j hj := by unfold Dsk.rd; rw [dif_pos ⟨by omega, by omega⟩]; rfl
    rw [e1, ← h.rel.at j hj (by omega)]
    simp [strs]
  · unfold Dsk.rcode
    rw [if_pos ⟨by omega, by omega⟩]

set_option maxRecDepth 100000 in
set_option maxHeartbeats 2000000 in
theorem ldisk_image (w0 W : World) (a : Nat → Addr) (S0 : Sent w0 a) (N bw pg po bd be m : Nat) (Sd Se : Nat → Prop) (d : Dsk) (r : RDsk) (x : Stp) (left : Int) (row : Array Value) (rt : TypeId) (hk : x.kind = 11) (H : Duo w0 W N pg po bd be m Sd Se d r)
    (hb : W.heap[bw]? = some (.cells row rt (0, 0))) (hrow : row[5]? = some (.int .i64 left)) (hlo : -1000000 ≤ left) (hhi : left ≤ 1000000) (hbw : w0.heap.size ≤ bw ∧ ¬ Sd bw ∧ ¬ Se bw ∧ bw ≠ pg) :
    Calls Tryz.prog 72 #[.pointer (some ⟨bw, 0, none⟩), .pointer (some ⟨pg, po, none⟩), stpV x] W fun e W' => e = .returned (.bool true) ∧ Duo w0 W' N pg po bd be m Sd Se d r ∧ Same (fun g => Sd g ∨ g = bw) W W' ∧ W'.heap[bw]? = some (.cells (row.setIfInBounds 5 (.int .i64 (left - d.safe.length))) rt (0, 0)) := by
  obtain ⟨kd, xa, xb, xd, xs, xt⟩ := x
  simp only at hk
  subst hk
  obtain ⟨W1, hW1⟩ : ∃ W1, W1 = W.alloc (.cells #[.int .i64 11, .int .i64 xa, .int .i64 xb, .int .i64 xd, .string xs, .string xt] 67) := ⟨_, rfl⟩
  have s1 : Same (fun _ => False) W W1 := by rw [hW1]; exact Same.alloc0 W _
  have H1 := H.on s1 (fun _ h => h.elim) (fun _ _ h => h) (fun h => h)
  have hb1 : W1.heap[bw]? = some (.cells row rt (0, 0)) := by rw [s1.block bw (lt_of_heap' hb) (fun h => h)]; exact hb
  have c1 : W1.cell? ⟨pg, po + 1, none⟩ = some (.pointer (some ⟨be, 0, none⟩)) := H1.p1
  have l1 : W1.cell? ⟨bw, 5, none⟩ = some (.int .i64 left) := by rw [cell_of_row _ _ _ _ _ _ hb1]; exact hrow
  have f1 := frozen_of_row W1 bw 5 _ _ hb1
  obtain ⟨gn, cn, t1, -⟩ := H1.tell
  have hsz := H.rel.size
  obtain ⟨n, hn⟩ : ∃ n, n = d.safe.length := ⟨_, rfl⟩
  have HN : Hid (n = d.safe.length) := hn
  rw [← hn] at t1 hsz ⊢
  have hwrap : IntKind.i64.wrap (left - (n : Int)) = left - n := by rw [IntKind.wrap_i64]; omega
  have nb1 : bw ≠ pg := hbw.2.2.2
  have nb2 : bw ≠ be := by
    rintro rfl
    obtain ⟨_, _, _, hv⟩ := H.ref
    exact hbw.2.2.1 hv.sb
  have HH2 : Hid (∀ V, V = (W1.drew.setCell ⟨bw, 5, none⟩ (.int .i64 (left - n))) → Duo w0 V N pg po bd be m Sd Se d r ∧ Same (fun g => Sd g ∨ g = bw) W V ∧ V.heap[bw]? = some (.cells (row.setIfInBounds 5 (.int .i64 (left - n))) rt (0, 0))) := by
    rintro V rfl
    have hs : Same (· = bw) W1.drew (W1.drew.setCell ⟨bw, 5, none⟩ (.int .i64 (left - n))) := Same.setCell (S := (· = bw)) (Same.refl _ _) ⟨bw, 5, none⟩ rfl _
    refine ⟨H1.drew.on hs (by rintro g rfl; exact hbw.1) (by rintro g (hg | hg) rfl; exact hbw.2.1 hg; exact hbw.2.2.1 hg) (fun h => nb1 h.symm), ?_, ?_⟩
    · exact ((s1.weak (fun _ h => h.elim)).drew).trans (hs.weak (fun g h => .inr h))
    · exact heap_setCell_same W1.drew bw 5 _ _ _ hb1
  have HR : Hid (∀ V (i : Nat), Duo w0 V N pg po bd be m Sd Se d r → Calls Tryz.prog 63 #[.pointer (some ⟨bd, 0, none⟩), .int .i64 (i : Int)] V fun e w' => e = .returned (.tuple #[.string (d.rd i), .int .i64 (d.rcode i : Nat)]) ∧ DskAt w' Sd bd m d ∧ Same Sd V w') := fun V i hV =>
    plain_read w0 a S0 bd m Sd d V i hV.dsk hV.base (fun g h => hV.lo g (.inl h)) hV.rel.size.2
  have HNB : Hid (¬ Sd bw) := hbw.2.1
  clear H1 H s1 hb hb1 hrow hbw S0 hn
  go_enter Tryz.func72, Tryz.ntmps72
  go_wp2
  rw [← hW1]
  clear hW1
  have HH3 := HH2.out ((W1.setCell ⟨bw, 5, none⟩ (.int .i64 (left - n))).drew) rfl
  obtain ⟨W2, hW2⟩ : ∃ W2, W2 = (W1.setCell ⟨bw, 5, none⟩ (.int .i64 (left - n))).drew := ⟨_, rfl⟩
  rw [← hW2] at HH3
  have HD2 : Hid (Duo w0 W2 N pg po bd be m Sd Se d r) := HH3.1
  have HS2 : Hid (Same (fun g => Sd g ∨ g = bw) W W2 ∧ W2.heap[bw]? = some (.cells (row.setIfInBounds 5 (.int .i64 (left - n))) rt (0, 0))) := HH3.2
  clear HH2 HH3
  go_region
  rw [← hW2]
  have hni : (n : Int) ≤ 4096 := by omega
  clear hW2 c1 l1 f1 t1 nb1 nb2 hwrap hlo hhi
  go_wp2
  go_loopw [15] (fun iv_ wr => ∃ i : Nat, i ≤ n ∧ iv_ = .int .i64 (i : Int) ∧ Hid (Duo w0 wr N pg po bd be m Sd Se d r ∧ Same Sd W2 wr)) (fun iv_ _ => n - (intOf iv_).toNat)
  case atStart => exact ⟨0, by omega, rfl, HD2.out, Same.refl _ _⟩
  case round =>
    clear HD2
    obtain ⟨i, hi, rfl, HI⟩ := hrel
    obtain ⟨gn, cn, t1, -⟩ := HI.out.1.tell
    rw [← HN.out] at t1
    have c0 := HI.out.1.p0
    have c1 := HI.out.1.p1
    by_cases hlt : i < n
    · have hlc : (i : Int) < n := by omega
      go_wp2_with fail
      refine (HR.out wr i HI.out.1).mono ?_
      rintro e W3 ⟨rfl, D3, S3⟩
      obtain ⟨hp0, hp1, hr3, hb3⟩ := HI.out.1.turnD S3
      have hD : Duo w0 W3 N pg po bd be m Sd Se d r := by
        have h1 := HI.out.1
        exact ⟨hp0, hp1, D3, hr3, h1.rel, h1.dj, h1.np, hb3, h1.lo, fun g hg => Nat.lt_of_lt_of_le (h1.hi g hg) S3.size, h1.wl, h1.ml⟩
      obtain ⟨g3, n3, t3, ht3⟩ := hD.tell
      obtain ⟨z3, rc⟩ := ht3 i (by rw [← HN.out]; exact hlt)
      rw [← HN.out] at t3
      obtain ⟨y, hy⟩ : ∃ y, y = d.rd i := ⟨_, rfl⟩
      rw [← hy] at z3
      rw [rc, ← hy]
      have HI3 : Hid (Duo w0 W3 N pg po bd be m Sd Se d r ∧ Same Sd W2 W3) := ⟨hD, HI.out.2.trans S3⟩
      clear D3 S3 hr3 hb3 hD ht3 rc hy t1 c0 c1
      go_wp2
      go_roundw
      case rel => exact ⟨i + 1, by omega, by go_num, HI3⟩
      case measure => (simp [intOf]; try omega)
    · have hlc : ¬ (i : Int) < n := by omega
      go_wp2
      go_ret
      obtain ⟨h1, h2⟩ := HI.out
      refine ⟨rfl, h1, HS2.out.1.trans (h2.weak (fun _ h => .inl h)), ?_⟩
      rw [h2.block bw (lt_of_heap' HS2.out.2) HNB.out]
      exact HS2.out.2
end Go.Proofs.YtbnokhdofkpcjaaGreatDoor
namespace Go.Proofs.YtbnokhdofkpcjaaGreatDoor
open Go.RowKit

/-- What is asked of a law's steps, by their number: Inv 0 holds at the start, and every step that is made answers true and leads from Inv i to Inv (i + 1). -/
structure StepsN (w : World) (made : Int) (l : List Stp) (Inv : Nat → World → Prop) (D : Stp → Bool) : Prop where
  below : ∀ i W, Inv i W → Below w.heap.size w W
  left : ∀ i W, Inv i W → ∃ n : Int, W.cell? ⟨w.heap.size, 5, none⟩ = some (.int .i64 n)
  mono : ∀ i W W', Inv i W → Below W.heap.size W W' → Inv i W'
  succ : ∀ i W, Inv i W → Inv (i + 1) W
  init : ∀ w1 b kv hv, Made (w.alloc (.cells freshW 73)) w1 b kv hv → Inv 0 (w1.setCell ⟨w.heap.size, 0, none⟩ (.pointer (some ⟨b, 0, none⟩)))
  does : ∀ x ∈ l, 1 ≤ x.kind → x.kind ≤ 22 → ∀ W, Calls Tryz.prog 40 #[stpV x, .int .i64 made] W fun e W' => e = .returned (.bool (D x)) ∧ Below W.heap.size W W'
  step : ∀ i x, i < l.length → x ∈ l → 1 ≤ x.kind → x.kind ≤ 22 → D x = true → ∀ W, Inv i W → (∃ n : Int, 0 < n ∧ W.cell? ⟨w.heap.size, 5, none⟩ = some (.int .i64 n)) → inR x.a → inR x.d → Calls Tryz.prog 41 #[.pointer (some ⟨w.heap.size, 0, none⟩), stpV x] W fun e W' => e = .returned (.bool true) ∧ Inv (i + 1) W'
  looks : ∀ i W, Inv i W → Calls Tryz.prog 42 #[.pointer (some ⟨w.heap.size, 0, none⟩)] W fun e W' => e = .returned (.bool true) ∧ Inv i W'

set_option maxRecDepth 100000 in
set_option maxHeartbeats 2000000 in
theorem upto_ofN (made held : Int) (lists : Bool) (v : Value) (l : List Stp) (w : World) (Inv : Nat → World → Prop) (D : Stp → Bool) (hs : Scr w v l) (hl : l.length ≤ 262144) (St : StepsN w made l Inv D) :
    Calls Tryz.prog 23 #[v, .int .i64 made, .int .i64 held, .bool lists] w fun e w' => UptoPost w e w' := by
  rcases hs with ⟨ao, cap, rfl, rfl⟩ | ⟨bl, off, cap, rfl, hpos, hlen, hcell⟩
  · go_enter Tryz.func23, Tryz.ntmps23
    go_wp2_with fail
    refine (maker_any _).mono ?_
    rintro e w1 ⟨b, kv, hv, rfl, h1, h2, h3, h4, h5, h6, h7, h8⟩
    have HI : Hid (Inv 0 (w1.setCell ⟨w.heap.size, 0, none⟩ (.pointer (some ⟨b, 0, none⟩)))) := St.init w1 b kv hv ⟨h1, h2, h3, h4, h5, h6, h7, h8⟩
    have c0 : w1.cell? ⟨w.heap.size, 0, none⟩ = some (.pointer none) := by
      rw [h8.cell (by simp)]; simp
    have f0 : w1.frozen? ⟨w.heap.size, 0, none⟩ = false := by
      rw [h8.frozen (by simp)]; simp
    clear h1 h2 h3 h4 h5 h6 h7 h8
    go_wp2
    go_loop [10] (fun i => i = .int .i64 0) (fun _ => 0)
    case atStart => rfl
    case round =>
      obtain rfl := hrel
      go_wp2
      go_ret
      exact ⟨rfl, St.below _ _ HI.out⟩
  · obtain ⟨n, hn⟩ : ∃ n, n = l.length := ⟨_, rfl⟩
    have HN : Hid (n = l.length) := hn
    have HC : Hid (∀ i (h : i < l.length), StpAt w bl (off + i * 6) l[i]) := hcell
    have hbi : (n : Int) ≤ 262144 := by omega
    have hbl : bl < w.heap.size := by
      have h0 := (hcell 0 hpos).c0
      rcases Nat.lt_or_ge bl w.heap.size with h' | h'
      · exact h'
      · simp [World.cell?, Array.getElem?_eq_none h'] at h0
    rw [← hn]
    clear hn hcell hlen hpos hl
    go_enter Tryz.func23, Tryz.ntmps23
    go_wp2_with fail
    refine (maker_any _).mono ?_
    rintro e w1 ⟨b, kv, hv, rfl, h1, h2, h3, h4, h5, h6, h7, h8⟩
    have HI : Hid (Inv 0 (w1.setCell ⟨w.heap.size, 0, none⟩ (.pointer (some ⟨b, 0, none⟩)))) := St.init w1 b kv hv ⟨h1, h2, h3, h4, h5, h6, h7, h8⟩
    have c0 : w1.cell? ⟨w.heap.size, 0, none⟩ = some (.pointer none) := by
      rw [h8.cell (by simp)]; simp
    have f0 : w1.frozen? ⟨w.heap.size, 0, none⟩ = false := by
      rw [h8.frozen (by simp)]; simp
    clear h1 h2 h3 h4 h5 h6 h7 h8
    go_wp2
    clear c0 f0
    go_loopw [10] (fun iv_ wr => ∃ i : Nat, i ≤ n ∧ iv_ = .int .i64 i ∧ Hid (Inv i wr)) (fun i _ => n - (intOf i).toNat)
    case atStart => exact ⟨0, by omega, rfl, HI⟩
    case round =>
      clear HI
      obtain ⟨i, hi, rfl, HI⟩ := hrel
      obtain ⟨left, hleft⟩ := St.left _ _ HI.out
      by_cases hlt : i < n
      · have hil : i < l.length := by have := HN.out; omega
        obtain ⟨x, hx⟩ : ∃ x, x = l[i] := ⟨_, rfl⟩
        have hs0 := HC.out i hil
        have hmem : l[i] ∈ l := List.getElem_mem _
        rw [← hx] at hs0 hmem
        have HS : Hid (StpAt w bl (off + i * 6) x) := hs0
        have hat := hs0.on (St.below _ _ HI.out) hbl
        clear hx hs0
        by_cases hl0 : 0 < left
        · have c0 := hat.c0
          have c1 := hat.c1
          have c2 := hat.c2
          have c3 := hat.c3
          have c4 := hat.c4
          have c5 := hat.c5
          have HM : Hid (x ∈ l) := hmem
          clear hat hmem
          by_cases hk1 : x.kind < 1
          · go_wp2
            go_roundw
            case rel => exact ⟨i + 1, by omega, by go_num, St.succ _ _ HI.out⟩
            case measure => (simp [intOf]; try omega)
          · by_cases hk2 : 22 < x.kind
            · go_wp2
              go_roundw
              case rel => exact ⟨i + 1, by omega, by go_num, St.succ _ _ HI.out⟩
              case measure => (simp [intOf]; try omega)
            · go_wp2_with fail
              refine (St.does x HM.out (by omega) (by omega) _).mono ?_
              rintro e w2 ⟨rfl, hw2⟩
              have HI2 : Hid (Inv i w2) := St.mono _ _ _ HI.out hw2
              have HLF : Hid (∃ n : Int, 0 < n ∧ w2.cell? ⟨w.heap.size, 5, none⟩ = some (.int .i64 n)) := ⟨left, hl0, by rw [hw2.cell (block_lt_of_cell hleft)]; exact hleft⟩
              clear hw2 HI c0 c1 c2 c3 c4 c5 hleft
              cases hd : D x
              · clear hd
                go_wp2
                go_roundw
                case rel => exact ⟨i + 1, by omega, by go_num, St.succ _ _ HI2.out⟩
                case measure => (simp [intOf]; try omega)
              · have HD : Hid (D x = true) := hd
                have hat := HS.out.on (St.below _ _ HI2.out) hbl
                have c0 := hat.c0
                have c1 := hat.c1
                have c2 := hat.c2
                have c3 := hat.c3
                have c4 := hat.c4
                have c5 := hat.c5
                clear hd hat
                go_wp2_with fail
                refine (St.step i x (by have := HN.out; omega) HM.out (by omega) (by omega) HD.out _ HI2.out HLF.out HS.out.ra HS.out.rd).mono ?_
                rintro e w3 ⟨rfl, hw3⟩
                have HI3 : Hid (Inv (i + 1) w3) := hw3
                clear hw3 HI2 c0 c1 c2 c3 c4 c5
                go_wp2_with fail
                refine (St.looks _ _ HI3.out).mono ?_
                rintro e w4 ⟨rfl, hw4⟩
                have HI4 : Hid (Inv (i + 1) w4) := hw4
                clear hw4 HI3
                go_wp2
                go_roundw
                case rel => exact ⟨i + 1, by omega, by go_num, HI4⟩
                case measure => (simp [intOf]; try omega)
        · clear hat hmem
          go_wp2
          go_ret
          exact ⟨rfl, St.below _ _ HI.out⟩
      · go_wp2
        go_ret
        exact ⟨rfl, St.below _ _ HI.out⟩

/-- 'plays', where the steps stand in whatever world 'small' leaves. -/
theorem plays_ofN (made held : Int) (lists : Bool) (v : Value) (l : List Stp) (w : World) (hs : Scr w v l)
    (St : ∀ w1, Below w.heap.size w w1 → l.length + bulk l ≤ 262144 → ∃ Inv D, StepsN w1 made l Inv D) :
    Calls Tryz.prog 13 #[v, .int .i64 made, .int .i64 held, .bool lists] w fun e w' => PlaysPost w e w' := by
  have hv : ∃ ao n cap, v = .slice ao n cap := by
    rcases hs with ⟨ao, cap, rfl, _⟩ | ⟨bl, off, cap, rfl, _⟩
    · exact ⟨_, _, _, rfl⟩
    · exact ⟨_, _, _, rfl⟩
  obtain ⟨ao, n, cap, rfl⟩ := hv
  have HS : Hid (Scr w (.slice ao n cap) l) := hs
  have HST : Hid (∀ w1, Below w.heap.size w w1 → l.length + bulk l ≤ 262144 → ∃ Inv D, StepsN w1 made l Inv D) := St
  clear hs St
  go_enter Tryz.func13, Tryz.ntmps13
  go_wp2_with fail
  refine (small_any _ l _ HS.out).mono ?_
  rintro e w1 ⟨r, rfl, hr, hb⟩
  have HB : Hid (Below w.heap.size w w1) := hb
  cases r
  · clear hr hb
    go_wp2
    go_ret
    exact ⟨rfl, HB.out⟩
  · have HR : Hid (l.length + bulk l ≤ 262144) := hr rfl
    clear hr hb
    go_wp2_with fail
    obtain ⟨Inv, D, S⟩ := HST.out w1 HB.out HR.out
    refine (upto_ofN made held lists _ l w1 Inv D (Scr.on HS.out HB.out) (by have := HR.out; omega) S).mono ?_
    rintro e w2 ⟨rfl, hb2⟩
    have HB2 : Hid (Below w.heap.size w w2) := HB.out.trans (hb2.mono HB.out.size)
    clear hb2 S
    go_wp2
    go_ret
    exact ⟨rfl, HB2.out⟩
end Go.Proofs.YtbnokhdofkpcjaaGreatDoor
