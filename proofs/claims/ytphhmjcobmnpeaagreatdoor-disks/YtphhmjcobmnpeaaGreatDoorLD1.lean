/- OWN TEXT: the law's (*World).disk: what is held of a pair; Read. -/
import Derived.Test.YtphhmjcobmnpeaaGreatDoorDPl
import Derived.Test.YtphhmjcobmnpeaaGreatDoorSumsStep
import Derived.Deep.RegionHeld3
namespace Go.Proofs.YtphhmjcobmnpeaaGreatDoor
open Go.RowKit Go.Maps

/-- A pair of disks in the law's list, at ⟨pg, po⟩. -/
structure Duo (w0 W : World) (N pg po bd be m : Nat) (Sd Se : Nat → Prop) (d : Dsk) (r : RDsk) : Prop where
  p0 : W.cell? ⟨pg, po, none⟩ = some (.pointer (some ⟨bd, 0, none⟩))
  p1 : W.cell? ⟨pg, po + 1, none⟩ = some (.pointer (some ⟨be, 0, none⟩))
  dsk : DskAt W Sd bd m d
  ref : RefAt W Se be r
  rel : Rel d r
  dj : ∀ g, Sd g → ¬ Se g
  np : ¬ Sd pg ∧ ¬ Se pg
  base : Below w0.heap.size w0 W
  lo : ∀ g, Sd g ∨ Se g → w0.heap.size ≤ g
  hi : ∀ g, Sd g ∨ Se g → g < W.heap.size
  wl : d.wait.length ≤ N
  ml : m ≤ N
theorem Duo.wlr {w0 W : World} {N pg po bd be m : Nat} {Sd Se : Nat → Prop} {d : Dsk} {r : RDsk} (h : Duo w0 W N pg po bd be m Sd Se d r) : r.wait.length ≤ N := by rw [h.rel.wait]; exact h.wl
/-- Nothing of the pair is touched. -/
theorem Duo.on {w0 W W' : World} {T : Nat → Prop} {N pg po bd be m : Nat} {Sd Se : Nat → Prop} {d : Dsk} {r : RDsk} (h : Duo w0 W N pg po bd be m Sd Se d r) (hs : Same T W W') (hT : ∀ g, T g → w0.heap.size ≤ g) (h1 : ∀ g, Sd g ∨ Se g → ¬ T g) (h2 : ¬ T pg) : Duo w0 W' N pg po bd be m Sd Se d r :=
  ⟨hs.cell h2 h.p0, hs.cell h2 h.p1, h.dsk.on hs (fun g hg => h1 g (.inl hg)), h.ref.on hs (fun g hg => h1 g (.inr hg)), h.rel, h.dj, h.np, h.base.trans (hs.below hT h.base.size), h.lo, fun g hg => Nat.lt_of_lt_of_le (h.hi g hg) hs.size, h.wl, h.ml⟩
/-- The program's disk has done something. -/
theorem Duo.turnD {w0 W W' : World} {N pg po bd be m : Nat} {Sd Se : Nat → Prop} {d : Dsk} {r : RDsk} (h : Duo w0 W N pg po bd be m Sd Se d r) (hs : Same Sd W W') : W'.cell? ⟨pg, po, none⟩ = some (.pointer (some ⟨bd, 0, none⟩)) ∧ W'.cell? ⟨pg, po + 1, none⟩ = some (.pointer (some ⟨be, 0, none⟩)) ∧ RefAt W' Se be r ∧ Below w0.heap.size w0 W' :=
  ⟨hs.cell h.np.1 h.p0, hs.cell h.np.1 h.p1, h.ref.on hs (fun g hg hd => h.dj g hd hg), h.base.trans (hs.below (fun g hg => h.lo g (.inl hg)) h.base.size)⟩

theorem Duo.drew {w0 W : World} {N pg po bd be m : Nat} {Sd Se : Nat → Prop} {d : Dsk} {r : RDsk} (h : Duo w0 W N pg po bd be m Sd Se d r) : Duo w0 W.drew N pg po bd be m Sd Se d r :=
  h.on (Same.refl (fun _ => False) W).drew (fun _ h => h.elim) (fun _ _ h => h) (fun h => h)
theorem DskAt.tight {w : World} {S : Nat → Prop} {bd m : Nat} {d : Dsk} (h : DskAt w S bd m d) : DskAt w (fun g => S g ∧ g < w.heap.size) bd m d := by
  obtain ⟨gs, bm, wv, h1, h⟩ := h
  exact ⟨gs, bm, wv, h1, h.sec, h.map, ⟨h.wait.1, fun g hg => ⟨h.wait.2 g hg, h.wait.lt hg⟩⟩, ⟨h.sb, lt_of_heap' h1⟩, ⟨h.ss, lt_of_heap' h.sec⟩, ⟨h.sm, ownsMap_lt h.map⟩, h.n1, h.n2, h.n3, h.d1, h.v1, h.v2⟩
theorem RefAt.tight {w : World} {S : Nat → Prop} {be : Nat} {r : RDsk} (h : RefAt w S be r) : RefAt w (fun g => S g ∧ g < w.heap.size) be r := by
  obtain ⟨sv, nv, wv, h⟩ := h
  exact ⟨sv, nv, wv, h.blk, ⟨h.sb, lt_of_heap' h.blk⟩, ⟨h.safe.1, fun g hg => ⟨h.safe.2 g hg, h.safe.lt hg⟩⟩, ⟨h.seen.1, fun g hg => ⟨h.seen.2 g hg, h.seen.lt hg⟩⟩, ⟨h.wait.1, fun g hg => ⟨h.wait.2 g hg, h.wait.lt hg⟩⟩, h.d1, h.d2, h.d3⟩
/-- What a step on a pair leaves: the old blocks keep their owner, whatever is new has one owner at most. -/
def Leaves2 (w0 W : World) (N pg po bd be : Nat) (Sd Se : Nat → Prop) (W' : World) : Prop :=
  ∃ m' Sd' Se' d' r', Duo w0 W' (N + 1) pg po bd be m' Sd' Se' d' r' ∧ ∀ g, g < W.heap.size → (Sd' g ↔ Sd g) ∧ (Se' g ↔ Se g)
theorem Duo.leaves {w0 W W' : World} {N pg po bd be m : Nat} {Sd Se : Nat → Prop} {d : Dsk} {r : RDsk} (h : Duo w0 W' N pg po bd be m Sd Se d r) : Leaves2 w0 W N pg po bd be Sd Se W' :=
  ⟨m, Sd, Se, d, r, ⟨h.p0, h.p1, h.dsk, h.ref, h.rel, h.dj, h.np, h.base, h.lo, h.hi, Nat.le_succ_of_le h.wl, Nat.le_succ_of_le h.ml⟩, fun _ _ => ⟨Iff.rfl, Iff.rfl⟩⟩

theorem ref_read2 (be : Nat) (S : Nat → Prop) (d : Dsk) (r : RDsk) (at_ : Int) (w : World) (h : RefAt w S be r) (R : Rel d r) (hr : inR at_) :
    Calls Tryz.prog 61 #[.pointer (some ⟨be, 0, none⟩), .int .i64 at_] w fun e w' => e = .returned (.tuple #[.string (d.rd at_), .int .i64 (d.rcode at_ : Nat)]) ∧ w = w' := by
  have hl := R.seenLen
  refine (ref_read be S r at_ w h (by rw [hl]; exact R.size.1) hr).mono ?_
  rintro e w' ⟨rfl, rfl⟩
  refine ⟨?_, rfl⟩
  by_cases hk : 0 ≤ at_ ∧ at_ < d.safe.length
  · have hk' : 0 ≤ at_ ∧ at_ < r.seen.length := by rw [hl]; exact hk
    rw [dif_pos hk']
    have e1 : d.rd at_ = d.at at_.toNat (by omega) := by unfold Dsk.rd; rw [dif_pos hk]
    have e2 : d.rcode at_ = 0 := by unfold Dsk.rcode; rw [if_pos hk]
    rw [e1, e2, R.at at_.toNat (by omega) (by omega)]
    rfl
  · have hk' : ¬ (0 ≤ at_ ∧ at_ < r.seen.length) := by rw [hl]; exact hk
    rw [dif_neg hk']
    have e1 : d.rd at_ = ⟨#[]⟩ := by unfold Dsk.rd; rw [dif_neg hk]
    have e2 : d.rcode at_ = 1 := by unfold Dsk.rcode; rw [if_neg hk]
    rw [e1, e2]
    rfl

set_option maxRecDepth 100000 in
set_option maxHeartbeats 1000000 in
theorem ldisk_read (w0 W : World) (a : Nat → Addr) (S0 : Sent w0 a) (N bw pg po bd be m : Nat) (Sd Se : Nat → Prop) (d : Dsk) (r : RDsk) (x : Stp) (hk : x.kind = 4) (hra : inR x.a) (H : Duo w0 W N pg po bd be m Sd Se d r) :
    Calls Tryz.prog 33 #[.pointer (some ⟨bw, 0, none⟩), .pointer (some ⟨pg, po, none⟩), stpV x] W fun e W' => e = .returned (.bool true) ∧ Duo w0 W' N pg po bd be m Sd Se d r ∧ Same Sd W W' := by
  obtain ⟨kd, xa, xb, xd, xs, xt⟩ := x
  simp only at hk hra
  subst hk
  obtain ⟨W1, hW1⟩ : ∃ W1, W1 = W.alloc (.cells #[.int .i64 4, .int .i64 xa, .int .i64 xb, .int .i64 xd, .string xs, .string xt] 40) := ⟨_, rfl⟩
  have s1 : Same (fun _ => False) W W1 := by rw [hW1]; exact Same.alloc0 W _
  have H1 := H.on s1 (fun _ h => h.elim) (fun _ _ h => h) (fun h => h)
  have b1 : W1.cell? ⟨W.heap.size, 1, none⟩ = some (.int .i64 xa) := by rw [hW1]; simp
  have hnb : ¬ Sd W.heap.size := fun h => by have := H.hi _ (.inl h); omega
  have c0 := H1.p0
  have HR : Hid (Calls Tryz.prog 60 #[.pointer (some ⟨bd, 0, none⟩), .int .i64 xa] W1.drew fun e w' => e = .returned (.tuple #[.string (d.rd xa), .int .i64 (d.rcode xa : Nat)]) ∧ DskAt w' Sd bd m d ∧ Same Sd W1.drew w') :=
    plain_read w0 a S0 bd m Sd d W1.drew xa (H1.dsk.on (Same.refl (fun _ => False) W1).drew (fun _ _ h => h)) H1.base.drew (fun g h => H1.lo g (.inl h)) H1.rel.size.2
  have HH1 : Hid (Duo w0 W1 N pg po bd be m Sd Se d r) := H1
  have HS1 : Hid (Same Sd W W1) := s1.weak (fun _ h => h.elim)
  have HN : Hid (¬ Sd pg) := H.np.1
  have HQ : Hid (∀ V, RefAt V Se be r → Calls Tryz.prog 61 #[.pointer (some ⟨be, 0, none⟩), .int .i64 xa] V fun e w' => e = .returned (.tuple #[.string (d.rd xa), .int .i64 (d.rcode xa : Nat)]) ∧ V = w') := fun V hV => ref_read2 be Se d r xa V hV H.rel hra
  obtain ⟨y, hy⟩ : ∃ y, y = d.rd xa := ⟨_, rfl⟩
  obtain ⟨c, hc⟩ : ∃ c : Int, c = (d.rcode xa : Nat) := ⟨_, rfl⟩
  rw [← hy, ← hc] at HR HQ
  clear H1 H s1 hy hc hra
  go_enter Tryz.func33, Tryz.ntmps33
  go_wp2
  rw [← hW1]
  clear hW1
  go_region_held3 (fun w' => w'.cell? ⟨pg, po, none⟩ = some (.pointer (some ⟨bd, 0, none⟩)) ∧ w'.cell? ⟨W.heap.size, 1, none⟩ = some (.int .i64 xa)) ((constructor <;> first | assumption | (rw [World.cell?_drew]; assumption))) (first | (go_at_call 60; refine HR.out.mono ?_; rintro e W2 ⟨rfl, D2, S2⟩; have c02 : W2.cell? ⟨pg, po, none⟩ = some (.pointer (some ⟨bd, 0, none⟩)) := S2.cell HN.out (by rw [World.cell?_drew]; exact c0); have b12 : W2.cell? ⟨W.heap.size, 1, none⟩ = some (.int .i64 xa) := S2.cell hnb (by rw [World.cell?_drew]; exact b1); have HD2 : Hid (DskAt W2 Sd bd m d) := D2; have HS2 : Hid (Same Sd W1.drew W2) := S2; clear D2 S2))
  obtain ⟨hp0, hp1, hr2, hb2⟩ := HH1.out.turnD (W' := W2) ⟨HS2.out.os, HS2.out.tape, HS2.out.output, HS2.out.size, HS2.out.block⟩
  have HQ2 : Hid (Calls Tryz.prog 61 #[.pointer (some ⟨be, 0, none⟩), .int .i64 xa] W2.drew fun e w' => e = .returned (.tuple #[.string y, .int .i64 c]) ∧ W2.drew = w') := HQ.out W2.drew (hr2.on (Same.refl (fun _ => False) W2).drew (fun _ _ h => h))
  have HF : Hid (Duo w0 W2.drew N pg po bd be m Sd Se d r ∧ Same Sd W W2.drew) := by
    have h1 := HH1.out
    have hs := HS2.out
    refine ⟨⟨by rw [World.cell?_drew]; exact hp0, by rw [World.cell?_drew]; exact hp1, HD2.out.on (Same.refl (fun _ => False) W2).drew (fun _ _ h => h), hr2.on (Same.refl (fun _ => False) W2).drew (fun _ _ h => h), h1.rel, h1.dj, h1.np, hb2.drew, h1.lo, fun g hg => Nat.lt_of_lt_of_le (h1.hi g hg) hs.size, h1.wl, h1.ml⟩, ?_⟩
    exact (HS1.out.drew.trans hs).drew
  clear HQ HR hr2 hb2 hp0 c0 b1 HD2 HS2 HH1 HS1 HN
  go_wp2
  go_region_held3 (fun w' => w'.cell? ⟨pg, po + 1, none⟩ = some (.pointer (some ⟨be, 0, none⟩)) ∧ w'.cell? ⟨W.heap.size, 1, none⟩ = some (.int .i64 xa)) ((constructor <;> first | assumption | (rw [World.cell?_drew]; assumption))) (first | (go_at_call 61; refine HQ2.out.mono ?_; rintro e W3 ⟨rfl, rfl⟩))
  go_wp2
  go_ret
  exact ⟨rfl, HF.out⟩
end Go.Proofs.YtphhmjcobmnpeaaGreatDoor
