/- OWN TEXT: joined of: DPl LD1 LD2 LD3 LD4 LD5 LD6 UptoN LS1 LS2 LS3 LS4. -/
import Derived.Deep.RegionHeld3
import Derived.Laws.Rows
import Derived.Deep.AppendLies
import Derived.Deep.RegionLaw
import Derived.Test.YtapijhhmjjplmaaGreatDoorJdisks6
namespace Go.Proofs.YtapijhhmjjplmaaGreatDoor
open Go.RowKit Go.Maps

theorem number_nil (w : World) : Calls Tryz.prog 43 #[.nilIface] w fun e w' => e = .returned (.tuple #[.int .i64 0, .int .i64 (-1)]) ∧ w = w' := by
  go_enter Tryz.func43, Tryz.ntmps43
  go_wp2
  go_ret2
  exact ⟨rfl, rfl⟩

/-- The number of what a disk's operation tells. -/
def errV (a : Nat → Addr) (n : Nat) : Value := if n = 0 then .nilIface else rv (a (n - 1))
theorem number_of (n : Nat) (hn : n ≤ 12) (a : Nat → Addr) (w : World) (S : Sent w a) :
    Calls Tryz.prog 43 #[errV a n] w fun e w' => e = .returned (.tuple #[.int .i64 (n : Int), .int .i64 (-1)]) ∧ Below w.heap.size w w' := by
  unfold errV
  split
  · subst n
    refine (number_nil w).mono ?_
    rintro e w' ⟨rfl, rfl⟩
    exact ⟨rfl, Below.refl _ _⟩
  · have h := number_bare (n - 1) (by omega) a w S
    have e : ((n - 1 : Nat) : Int) + 1 = (n : Int) := by omega
    rw [e] at h
    exact h
/-- What may be written. -/
def okW (n : Nat) (at_ : Int) (s : ByteArray) : Bool := decide (0 ≤ at_ ∧ at_ < n ∧ s.size = 64)
def Dsk.wcode (d : Dsk) (at_ : Int) (s : ByteArray) : Nat := if okW d.safe.length at_ s then (if d.op.down then 2 else 0) else 1
def Dsk.writeAny (d : Dsk) (at_ : Int) (s : ByteArray) : Dsk := if okW d.safe.length at_ s then d.write at_.toNat s else d
def Dsk.fcode (d : Dsk) : Nat := if d.op.down then 2 else 0
theorem okW_spec {n : Nat} {at_ : Int} {s : ByteArray} (h : okW n at_ s = true) : 0 ≤ at_ ∧ at_ < n ∧ s.size = 64 := of_decide_eq_true h
theorem okW_not {n : Nat} {at_ : Int} {s : ByteArray} (h : okW n at_ s = false) : ¬ (0 ≤ at_ ∧ at_ < n ∧ s.size = 64) := of_decide_eq_false h

theorem dsk_read_bad2 (bd m : Nat) (S : Nat → Prop) (d : Dsk) (at_ : Int) (ev : Value) (w : World) (h : DskAt w S bd m d) (hE : w.cell? ⟨0, 0, none⟩ = some ev) (hbad : ¬ (0 ≤ at_ ∧ at_ < d.safe.length)) :
    Calls Tryz.prog 104 #[.pointer (some ⟨bd, 0, none⟩), .int .i64 at_] w fun e w' => e = .returned (.tuple #[.string ⟨#[]⟩, ev]) ∧ Same (fun _ => False) w w' := by
  have HH : Hid (Calls Tryz.prog 179 #[.pointer (some ⟨bd, 0, none⟩), .int .i64 at_] w fun e w' => e = .returned (.bool false) ∧ w = w') := by
    have h1 := dsk_has bd m S d at_ w h
    have e : (decide (0 ≤ at_) && decide (at_ < d.safe.length)) = false := by
      rw [Bool.and_eq_false_iff, decide_eq_false_iff_not, decide_eq_false_iff_not]
      omega
    rw [e] at h1
    exact h1
  have hnot : ∀ (x : Bool) (w : World), (Op.unary .not (.bool x)).run Tryz.prog w = .ok (.bool (!x)) w := fun _ _ => rfl
  clear h hbad
  go_enter_defers Tryz.func104, Tryz.ntmps104
  go_wp2_with fail
  refine HH.out.mono ?_
  rintro e w' ⟨rfl, rfl⟩
  go_wp2
  go_region
  all_goals
    go_wp2
    refine ⟨_, results_tmp2 rfl _ _ _, rfl, (Same.refl (fun _ => False) w).drew⟩


section
variable (w0 : World) (a : Nat → Addr) (S0 : Sent w0 a) (bd m : Nat) (S : Nat → Prop) (d : Dsk) (w : World)

theorem wrote (w0 : World) (a : Nat → Addr) (S0 : Sent w0 a) (bd m : Nat) (S : Nat → Prop) (d : Dsk) (w : World) (at_ : Int) (s : ByteArray) (h : DskAt w S bd m d) (hb : Below w0.heap.size w0 w) (hS : ∀ g, S g → w0.heap.size ≤ g) (hSl : ∀ g, S g → g < w.heap.size) (hf : d.fuse ≤ 9223372036854775807) (hwl : d.wait.length ≤ 1000000) (hm : m ≤ 1000000) (hn : d.safe.length ≤ 4096) :
    Calls Tryz.prog 140 #[.pointer (some ⟨bd, 0, none⟩), .int .i64 at_, .string s] w fun e w' => e = .returned (errV a (d.wcode at_ s)) ∧ (∃ m', m' ≤ m + 1 ∧ DskAt w' (fun g => S g ∨ w.heap.size ≤ g) bd m' (d.writeAny at_ s)) ∧ Same S w w' := by
  have Sw := S0.on hb
  have hG : ¬ S 1 := fun h => by
    have h1 := hS _ h
    have h2 := cell_lt S0.v1
    exact absurd h2 (by show ¬ 1 < _; omega)
  unfold Dsk.wcode Dsk.writeAny
  cases hok : okW d.safe.length at_ s
  · refine (dsk_write_bad bd m S d at_ s _ w h Sw.v0 (okW_not hok)).mono ?_
    rintro e w' ⟨rfl, h', s'⟩
    exact ⟨rfl, ⟨m, Nat.le_succ _, h'.mono (fun _ h => .inl h)⟩, s'⟩
  · obtain ⟨h1, h2, h3⟩ := okW_spec hok
    obtain ⟨k, rfl⟩ : ∃ k : Nat, at_ = k := ⟨at_.toNat, by omega⟩
    refine (dsk_write bd m S d k s _ w h Sw.v1 hG hf (by omega) h3 hwl hm hn hSl).mono ?_
    rintro e w' ⟨rfl, h', s'⟩
    refine ⟨?_, h', s'⟩
    cases d.op.down <;> rfl

/-- What a call of the disk leaves, behind number too. -/
theorem after {S T : Nat → Prop} {w w1 w2 : World} {bd m : Nat} {d : Dsk} (h : DskAt w1 T bd m d) (s : Same S w w1) (hb : Below w1.heap.size w1 w2) : DskAt w2 T bd m d ∧ Same S w w2 :=
  ⟨h.on (below_same (fun _ => False) hb) (fun _ _ h => h), s.trans (below_same S hb)⟩

theorem plain_write (w0 : World) (a : Nat → Addr) (S0 : Sent w0 a) (bd m : Nat) (S : Nat → Prop) (d : Dsk) (w : World) (at_ : Int) (s : ByteArray) (h : DskAt w S bd m d) (hb : Below w0.heap.size w0 w) (hS : ∀ g, S g → w0.heap.size ≤ g) (hSl : ∀ g, S g → g < w.heap.size) (hf : d.fuse ≤ 9223372036854775807) (hwl : d.wait.length ≤ 1000000) (hm : m ≤ 1000000) (hn : d.safe.length ≤ 4096) :
    Calls Tryz.prog 113 #[.pointer (some ⟨bd, 0, none⟩), .int .i64 at_, .string s] w fun e w' => e = .returned (.int .i64 (d.wcode at_ s : Nat)) ∧ (∃ m', m' ≤ m + 1 ∧ DskAt w' (fun g => S g ∨ w.heap.size ≤ g) bd m' (d.writeAny at_ s)) ∧ Same S w w' := by
  have HW : Hid (Calls Tryz.prog 140 #[.pointer (some ⟨bd, 0, none⟩), .int .i64 at_, .string s] w fun e w' => e = .returned (errV a (d.wcode at_ s)) ∧ (∃ m', m' ≤ m + 1 ∧ DskAt w' (fun g => S g ∨ w.heap.size ≤ g) bd m' (d.writeAny at_ s)) ∧ Same S w w') := wrote w0 a S0 bd m S d w at_ s h hb hS hSl hf hwl hm hn
  obtain ⟨c, hc⟩ : ∃ c, c = d.wcode at_ s := ⟨_, rfl⟩
  have hc12 : c ≤ 12 := by rw [hc]; unfold Dsk.wcode; split; split <;> omega; omega
  rw [← hc] at HW ⊢
  obtain ⟨v, hv⟩ : ∃ v, v = errV a c := ⟨_, rfl⟩
  rw [← hv] at HW
  have HN : Hid (∀ w', Same S w w' → Calls Tryz.prog 43 #[v] w' fun e w2 => e = .returned (.tuple #[.int .i64 (c : Int), .int .i64 (-1)]) ∧ Below w'.heap.size w' w2) := fun w' s' => by
    rw [hv]
    exact number_of c hc12 a w' (S0.on (hb.trans (s'.below hS hb.size)))
  clear hc hv h hf hwl hm hn hc12
  go_enter Tryz.func113, Tryz.ntmps113
  go_wp2_with (first | (go_at_call 140; refine HW.out.mono ?_; rintro e w1 ⟨rfl, H1, S1⟩; have HH1 : Hid (∃ m', m' ≤ m + 1 ∧ DskAt w1 (fun g => S g ∨ w.heap.size ≤ g) bd m' (d.writeAny at_ s)) := H1; have HS1 : Hid (Same S w w1) := S1; clear H1 S1) | (go_at_call 43; refine (HN.out w1 HS1.out).mono ?_; rintro e w2 ⟨rfl, B2⟩; have HB2 : Hid (Below w1.heap.size w1 w2) := B2; clear B2))
  go_ret
  obtain ⟨m', hm', h'⟩ := HH1.out
  obtain ⟨h2, s2⟩ := after h' HS1.out HB2.out
  exact ⟨rfl, ⟨m', hm', h2⟩, s2⟩

theorem plain_flush (w0 : World) (a : Nat → Addr) (S0 : Sent w0 a) (bd m : Nat) (S : Nat → Prop) (d : Dsk) (w : World) (h : DskAt w S bd m d) (hb : Below w0.heap.size w0 w) (hS : ∀ g, S g → w0.heap.size ≤ g) (hSl : ∀ g, S g → g < w.heap.size) (hf : d.fuse ≤ 9223372036854775807) (hwl : d.wait.length ≤ 1000000) (hn : d.safe.length ≤ 4096) :
    Calls Tryz.prog 115 #[.pointer (some ⟨bd, 0, none⟩)] w fun e w' => e = .returned (.int .i64 (d.fcode : Nat)) ∧ DskAt w' S bd m d.flush ∧ Same S w w' := by
  have hG : ¬ S 1 := fun h => by
    have h1 := hS _ h
    have h2 := cell_lt S0.v1
    exact absurd h2 (by show ¬ 1 < _; omega)
  have hF := dsk_flush bd m S d _ w h (S0.on hb).v1 hG hf hwl hn hSl
  have e : (if d.op.down then rv (a 1) else Value.nilIface) = errV a d.fcode := by unfold Dsk.fcode; cases d.op.down <;> rfl
  rw [e] at hF
  obtain ⟨c, hc⟩ : ∃ c, c = d.fcode := ⟨_, rfl⟩
  have hc12 : c ≤ 12 := by rw [hc]; unfold Dsk.fcode; split <;> omega
  rw [← hc] at hF ⊢
  obtain ⟨v, hv⟩ : ∃ v, v = errV a c := ⟨_, rfl⟩
  rw [← hv] at hF
  have HW : Hid (Calls Tryz.prog 141 #[.pointer (some ⟨bd, 0, none⟩)] w fun e w' => e = .returned v ∧ DskAt w' S bd m d.flush ∧ Same S w w') := hF
  have HN : Hid (∀ w', Same S w w' → Calls Tryz.prog 43 #[v] w' fun e w2 => e = .returned (.tuple #[.int .i64 (c : Int), .int .i64 (-1)]) ∧ Below w'.heap.size w' w2) := fun w' s' => by
    rw [hv]
    exact number_of c hc12 a w' (S0.on (hb.trans (s'.below hS hb.size)))
  clear hc hv h hf hwl hn hc12 hF e
  go_enter Tryz.func115, Tryz.ntmps115
  go_wp2_with (first | (go_at_call 141; refine HW.out.mono ?_; rintro e w1 ⟨rfl, H1, S1⟩; have HH1 : Hid (DskAt w1 S bd m d.flush) := H1; have HS1 : Hid (Same S w w1) := S1; clear H1 S1) | (go_at_call 43; refine (HN.out w1 HS1.out).mono ?_; rintro e w2 ⟨rfl, B2⟩; have HB2 : Hid (Below w1.heap.size w1 w2) := B2; clear B2))
  go_ret
  obtain ⟨h2, s2⟩ := after HH1.out HS1.out HB2.out
  exact ⟨rfl, h2, s2⟩

def Dsk.rd (d : Dsk) (at_ : Int) : ByteArray := if h : 0 ≤ at_ ∧ at_ < d.safe.length then d.at at_.toNat (by omega) else ⟨#[]⟩
def Dsk.rcode (d : Dsk) (at_ : Int) : Nat := if 0 ≤ at_ ∧ at_ < d.safe.length then 0 else 1
theorem plain_read (w0 : World) (a : Nat → Addr) (S0 : Sent w0 a) (bd m : Nat) (S : Nat → Prop) (d : Dsk) (w : World) (at_ : Int) (h : DskAt w S bd m d) (hb : Below w0.heap.size w0 w) (hS : ∀ g, S g → w0.heap.size ≤ g) (hn : d.safe.length ≤ 4096) :
    Calls Tryz.prog 63 #[.pointer (some ⟨bd, 0, none⟩), .int .i64 at_] w fun e w' => e = .returned (.tuple #[.string (d.rd at_), .int .i64 (d.rcode at_ : Nat)]) ∧ DskAt w' S bd m d ∧ Same S w w' := by
  have hF : Calls Tryz.prog 104 #[.pointer (some ⟨bd, 0, none⟩), .int .i64 at_] w fun e w' => e = .returned (.tuple #[.string (d.rd at_), errV a (d.rcode at_)]) ∧ DskAt w' S bd m d ∧ Same S w w' := by
    by_cases hk : 0 ≤ at_ ∧ at_ < d.safe.length
    · have e1 : d.rd at_ = d.at at_.toNat (by omega) := by unfold Dsk.rd; rw [dif_pos hk]
      have e2 : d.rcode at_ = 0 := by unfold Dsk.rcode; rw [if_pos hk]
      rw [e1, e2]
      have h1 := dsk_read bd m S d at_.toNat w h (by omega) hn
      rw [show ((at_.toNat : Nat) : Int) = at_ by omega] at h1
      exact h1
    · have e1 : d.rd at_ = ⟨#[]⟩ := by unfold Dsk.rd; rw [dif_neg hk]
      have e2 : d.rcode at_ = 1 := by unfold Dsk.rcode; rw [if_neg hk]
      rw [e1, e2]
      refine (dsk_read_bad2 bd m S d at_ _ w h (S0.on hb).v0 hk).mono ?_
      rintro e w' ⟨rfl, s'⟩
      exact ⟨rfl, h.on s' (fun _ _ h => h), s'.weak (fun _ h => h.elim)⟩
  obtain ⟨c, hc⟩ : ∃ c, c = d.rcode at_ := ⟨_, rfl⟩
  have hc12 : c ≤ 12 := by rw [hc]; unfold Dsk.rcode; split <;> omega
  rw [← hc] at hF ⊢
  obtain ⟨v, hv⟩ : ∃ v, v = errV a c := ⟨_, rfl⟩
  obtain ⟨x, hx⟩ : ∃ x, x = d.rd at_ := ⟨_, rfl⟩
  rw [← hv, ← hx] at hF
  rw [← hx]
  have HW : Hid (Calls Tryz.prog 104 #[.pointer (some ⟨bd, 0, none⟩), .int .i64 at_] w fun e w' => e = .returned (.tuple #[.string x, v]) ∧ DskAt w' S bd m d ∧ Same S w w') := hF
  have HN : Hid (∀ w', Same S w w' → Calls Tryz.prog 43 #[v] w' fun e w2 => e = .returned (.tuple #[.int .i64 (c : Int), .int .i64 (-1)]) ∧ Below w'.heap.size w' w2) := fun w' s' => by
    rw [hv]
    exact number_of c hc12 a w' (S0.on (hb.trans (s'.below hS hb.size)))
  clear hc hv h hn hc12 hF hx
  go_enter Tryz.func63, Tryz.ntmps63
  go_wp2_with (first | (go_at_call 104; refine HW.out.mono ?_; rintro e w1 ⟨rfl, H1, S1⟩; have HH1 : Hid (DskAt w1 S bd m d) := H1; have HS1 : Hid (Same S w w1) := S1; clear H1 S1) | (go_at_call 43; refine (HN.out w1 HS1.out).mono ?_; rintro e w2 ⟨rfl, B2⟩; have HB2 : Hid (Below w1.heap.size w1 w2) := B2; clear B2))
  go_ret2
  obtain ⟨h2, s2⟩ := after HH1.out HS1.out HB2.out
  exact ⟨rfl, h2, s2⟩

theorem plain_crash (kv : Value) (ks : List Int) (h : DskAt w S bd m d) (hK : KeepAt w S kv ks) (hwl : d.wait.length ≤ 1000000) (hn : d.safe.length ≤ 4096) (hkl : ks.length ≤ 1000000) :
    Calls Tryz.prog 34 #[.pointer (some ⟨bd, 0, none⟩), kv] w fun e w' => e = .returned (.tuple #[]) ∧ DskAt w' S bd m { d with safe := keepAll d.wait d.safe ks, wait := [], fuse := 0, down := false } ∧ Same S w w' := by
  have HW : Hid (Calls Tryz.prog 59 #[.pointer (some ⟨bd, 0, none⟩), kv] w fun e w' => e = .returned (.tuple #[]) ∧ DskAt w' S bd m { d with safe := keepAll d.wait d.safe ks, wait := [], fuse := 0, down := false } ∧ Same S w w') := dsk_crash bd m S d kv ks w h hK hwl hn hkl
  clear h hK
  go_enter Tryz.func34, Tryz.ntmps34
  go_wp2_with (go_at_call 59; refine HW.out.mono ?_; rintro e w1 ⟨rfl, H1, S1⟩)
  go_end0
  exact ⟨rfl, H1, S1⟩
end
end Go.Proofs.YtapijhhmjjplmaaGreatDoor
namespace Go.Proofs.YtapijhhmjjplmaaGreatDoor
open Go.RowKit Go.Maps

/-- A pair of disks in the law's list, at ⟨pg, po⟩. -/
structure Duo (w0 W : World) (N pg po bd be m : Nat) (Sd Se : Nat → Prop) (d : Dsk) (r : RDsk) : Prop where
  p0 : W.cell? ⟨pg, po, none⟩ = some (.pointer (some ⟨bd, 0, none⟩))
  p1 : W.cell? ⟨pg, po + 1, none⟩ = some (.pointer (some ⟨be, 0, none⟩))
  dsk : DskAt W Sd bd m d
  ref : RefAt W Se be r
  rel : Rel d r
  dj : ∀ g, Sd g → ¬ Se g
  np : ¬ Sd pg ∧ ¬ Se pg
  base : Below w0.heap.size w0 W
  lo : ∀ g, Sd g ∨ Se g → w0.heap.size ≤ g
  hi : ∀ g, Sd g ∨ Se g → g < W.heap.size
  wl : d.wait.length ≤ N
  ml : m ≤ N
theorem Duo.wlr {w0 W : World} {N pg po bd be m : Nat} {Sd Se : Nat → Prop} {d : Dsk} {r : RDsk} (h : Duo w0 W N pg po bd be m Sd Se d r) : r.wait.length ≤ N := by rw [h.rel.wait]; exact h.wl
/-- Nothing of the pair is touched. -/
theorem Duo.on {w0 W W' : World} {T : Nat → Prop} {N pg po bd be m : Nat} {Sd Se : Nat → Prop} {d : Dsk} {r : RDsk} (h : Duo w0 W N pg po bd be m Sd Se d r) (hs : Same T W W') (hT : ∀ g, T g → w0.heap.size ≤ g) (h1 : ∀ g, Sd g ∨ Se g → ¬ T g) (h2 : ¬ T pg) : Duo w0 W' N pg po bd be m Sd Se d r :=
  ⟨hs.cell h2 h.p0, hs.cell h2 h.p1, h.dsk.on hs (fun g hg => h1 g (.inl hg)), h.ref.on hs (fun g hg => h1 g (.inr hg)), h.rel, h.dj, h.np, h.base.trans (hs.below hT h.base.size), h.lo, fun g hg => Nat.lt_of_lt_of_le (h.hi g hg) hs.size, h.wl, h.ml⟩
/-- The program's disk has done something. -/
theorem Duo.turnD {w0 W W' : World} {N pg po bd be m : Nat} {Sd Se : Nat → Prop} {d : Dsk} {r : RDsk} (h : Duo w0 W N pg po bd be m Sd Se d r) (hs : Same Sd W W') : W'.cell? ⟨pg, po, none⟩ = some (.pointer (some ⟨bd, 0, none⟩)) ∧ W'.cell? ⟨pg, po + 1, none⟩ = some (.pointer (some ⟨be, 0, none⟩)) ∧ RefAt W' Se be r ∧ Below w0.heap.size w0 W' :=
  ⟨hs.cell h.np.1 h.p0, hs.cell h.np.1 h.p1, h.ref.on hs (fun g hg hd => h.dj g hd hg), h.base.trans (hs.below (fun g hg => h.lo g (.inl hg)) h.base.size)⟩

theorem Duo.drew {w0 W : World} {N pg po bd be m : Nat} {Sd Se : Nat → Prop} {d : Dsk} {r : RDsk} (h : Duo w0 W N pg po bd be m Sd Se d r) : Duo w0 W.drew N pg po bd be m Sd Se d r :=
  h.on (Same.refl (fun _ => False) W).drew (fun _ h => h.elim) (fun _ _ h => h) (fun h => h)
theorem DskAt.tight {w : World} {S : Nat → Prop} {bd m : Nat} {d : Dsk} (h : DskAt w S bd m d) : DskAt w (fun g => S g ∧ g < w.heap.size) bd m d := by
  obtain ⟨gs, bm, wv, h1, h⟩ := h
  exact ⟨gs, bm, wv, h1, h.sec, h.map, ⟨h.wait.1, fun g hg => ⟨h.wait.2 g hg, h.wait.lt hg⟩⟩, ⟨h.sb, lt_of_heap' h1⟩, ⟨h.ss, lt_of_heap' h.sec⟩, ⟨h.sm, ownsMap_lt h.map⟩, h.n1, h.n2, h.n3, h.d1, h.v1, h.v2⟩
theorem RefAt.tight {w : World} {S : Nat → Prop} {be : Nat} {r : RDsk} (h : RefAt w S be r) : RefAt w (fun g => S g ∧ g < w.heap.size) be r := by
  obtain ⟨sv, nv, wv, h⟩ := h
  exact ⟨sv, nv, wv, h.blk, ⟨h.sb, lt_of_heap' h.blk⟩, ⟨h.safe.1, fun g hg => ⟨h.safe.2 g hg, h.safe.lt hg⟩⟩, ⟨h.seen.1, fun g hg => ⟨h.seen.2 g hg, h.seen.lt hg⟩⟩, ⟨h.wait.1, fun g hg => ⟨h.wait.2 g hg, h.wait.lt hg⟩⟩, h.d1, h.d2, h.d3⟩
/-- What a step on a pair leaves: the old blocks keep their owner, whatever is new has one owner at most. -/
def Leaves2 (w0 W : World) (N pg po bd be : Nat) (Sd Se : Nat → Prop) (W' : World) : Prop :=
  ∃ m' Sd' Se' d' r', Duo w0 W' (N + 1) pg po bd be m' Sd' Se' d' r' ∧ ∀ g, g < W.heap.size → (Sd' g ↔ Sd g) ∧ (Se' g ↔ Se g)
theorem Duo.leaves {w0 W W' : World} {N pg po bd be m : Nat} {Sd Se : Nat → Prop} {d : Dsk} {r : RDsk} (h : Duo w0 W' N pg po bd be m Sd Se d r) : Leaves2 w0 W N pg po bd be Sd Se W' :=
  ⟨m, Sd, Se, d, r, ⟨h.p0, h.p1, h.dsk, h.ref, h.rel, h.dj, h.np, h.base, h.lo, h.hi, Nat.le_succ_of_le h.wl, Nat.le_succ_of_le h.ml⟩, fun _ _ => ⟨Iff.rfl, Iff.rfl⟩⟩

theorem ref_read2 (be : Nat) (S : Nat → Prop) (d : Dsk) (r : RDsk) (at_ : Int) (w : World) (h : RefAt w S be r) (R : Rel d r) (hr : inR at_) :
    Calls Tryz.prog 112 #[.pointer (some ⟨be, 0, none⟩), .int .i64 at_] w fun e w' => e = .returned (.tuple #[.string (d.rd at_), .int .i64 (d.rcode at_ : Nat)]) ∧ w = w' := by
  have hl := R.seenLen
  refine (ref_read be S r at_ w h (by rw [hl]; exact R.size.1) hr).mono ?_
  rintro e w' ⟨rfl, rfl⟩
  refine ⟨?_, rfl⟩
  by_cases hk : 0 ≤ at_ ∧ at_ < d.safe.length
  · have hk' : 0 ≤ at_ ∧ at_ < r.seen.length := by rw [hl]; exact hk
    rw [dif_pos hk']
    have e1 : d.rd at_ = d.at at_.toNat (by omega) := by unfold Dsk.rd; rw [dif_pos hk]
    have e2 : d.rcode at_ = 0 := by unfold Dsk.rcode; rw [if_pos hk]
    rw [e1, e2, R.at at_.toNat (by omega) (by omega)]
    rfl
  · have hk' : ¬ (0 ≤ at_ ∧ at_ < r.seen.length) := by rw [hl]; exact hk
    rw [dif_neg hk']
    have e1 : d.rd at_ = ⟨#[]⟩ := by unfold Dsk.rd; rw [dif_neg hk]
    have e2 : d.rcode at_ = 1 := by unfold Dsk.rcode; rw [if_neg hk]
    rw [e1, e2]
    rfl

set_option maxRecDepth 100000 in
set_option maxHeartbeats 1000000 in
theorem ldisk_read (w0 W : World) (a : Nat → Addr) (S0 : Sent w0 a) (N bw pg po bd be m : Nat) (Sd Se : Nat → Prop) (d : Dsk) (r : RDsk) (x : Stp) (hk : x.kind = 4) (hra : inR x.a) (H : Duo w0 W N pg po bd be m Sd Se d r) :
    Calls Tryz.prog 72 #[.pointer (some ⟨bw, 0, none⟩), .pointer (some ⟨pg, po, none⟩), stpV x] W fun e W' => e = .returned (.bool true) ∧ Duo w0 W' N pg po bd be m Sd Se d r ∧ Same Sd W W' := by
  obtain ⟨kd, xa, xb, xd, xs, xt⟩ := x
  simp only at hk hra
  subst hk
  obtain ⟨W1, hW1⟩ : ∃ W1, W1 = W.alloc (.cells #[.int .i64 4, .int .i64 xa, .int .i64 xb, .int .i64 xd, .string xs, .string xt] 67) := ⟨_, rfl⟩
  have s1 : Same (fun _ => False) W W1 := by rw [hW1]; exact Same.alloc0 W _
  have H1 := H.on s1 (fun _ h => h.elim) (fun _ _ h => h) (fun h => h)
  have b1 : W1.cell? ⟨W.heap.size, 1, none⟩ = some (.int .i64 xa) := by rw [hW1]; simp
  have hnb : ¬ Sd W.heap.size := fun h => by have := H.hi _ (.inl h); omega
  have c0 := H1.p0
  have HR : Hid (Calls Tryz.prog 63 #[.pointer (some ⟨bd, 0, none⟩), .int .i64 xa] W1.drew fun e w' => e = .returned (.tuple #[.string (d.rd xa), .int .i64 (d.rcode xa : Nat)]) ∧ DskAt w' Sd bd m d ∧ Same Sd W1.drew w') :=
    plain_read w0 a S0 bd m Sd d W1.drew xa (H1.dsk.on (Same.refl (fun _ => False) W1).drew (fun _ _ h => h)) H1.base.drew (fun g h => H1.lo g (.inl h)) H1.rel.size.2
  have HH1 : Hid (Duo w0 W1 N pg po bd be m Sd Se d r) := H1
  have HS1 : Hid (Same Sd W W1) := s1.weak (fun _ h => h.elim)
  have HN : Hid (¬ Sd pg) := H.np.1
  have HQ : Hid (∀ V, RefAt V Se be r → Calls Tryz.prog 112 #[.pointer (some ⟨be, 0, none⟩), .int .i64 xa] V fun e w' => e = .returned (.tuple #[.string (d.rd xa), .int .i64 (d.rcode xa : Nat)]) ∧ V = w') := fun V hV => ref_read2 be Se d r xa V hV H.rel hra
  obtain ⟨y, hy⟩ : ∃ y, y = d.rd xa := ⟨_, rfl⟩
  obtain ⟨c, hc⟩ : ∃ c : Int, c = (d.rcode xa : Nat) := ⟨_, rfl⟩
  rw [← hy, ← hc] at HR HQ
  clear H1 H s1 hy hc hra
  go_enter Tryz.func72, Tryz.ntmps72
  go_wp2
  rw [← hW1]
  clear hW1
  go_region_held3 (fun w' => w'.cell? ⟨pg, po, none⟩ = some (.pointer (some ⟨bd, 0, none⟩)) ∧ w'.cell? ⟨W.heap.size, 1, none⟩ = some (.int .i64 xa)) ((constructor <;> first | assumption | (rw [World.cell?_drew]; assumption))) (first | (go_at_call 63; refine HR.out.mono ?_; rintro e W2 ⟨rfl, D2, S2⟩; have c02 : W2.cell? ⟨pg, po, none⟩ = some (.pointer (some ⟨bd, 0, none⟩)) := S2.cell HN.out (by rw [World.cell?_drew]; exact c0); have b12 : W2.cell? ⟨W.heap.size, 1, none⟩ = some (.int .i64 xa) := S2.cell hnb (by rw [World.cell?_drew]; exact b1); have HD2 : Hid (DskAt W2 Sd bd m d) := D2; have HS2 : Hid (Same Sd W1.drew W2) := S2; clear D2 S2))
  obtain ⟨hp0, hp1, hr2, hb2⟩ := HH1.out.turnD (W' := W2) ⟨HS2.out.os, HS2.out.tape, HS2.out.output, HS2.out.size, HS2.out.block⟩
  have HQ2 : Hid (Calls Tryz.prog 112 #[.pointer (some ⟨be, 0, none⟩), .int .i64 xa] W2.drew fun e w' => e = .returned (.tuple #[.string y, .int .i64 c]) ∧ W2.drew = w') := HQ.out W2.drew (hr2.on (Same.refl (fun _ => False) W2).drew (fun _ _ h => h))
  have HF : Hid (Duo w0 W2.drew N pg po bd be m Sd Se d r ∧ Same Sd W W2.drew) := by
    have h1 := HH1.out
    have hs := HS2.out
    refine ⟨⟨by rw [World.cell?_drew]; exact hp0, by rw [World.cell?_drew]; exact hp1, HD2.out.on (Same.refl (fun _ => False) W2).drew (fun _ _ h => h), hr2.on (Same.refl (fun _ => False) W2).drew (fun _ _ h => h), h1.rel, h1.dj, h1.np, hb2.drew, h1.lo, fun g hg => Nat.lt_of_lt_of_le (h1.hi g hg) hs.size, h1.wl, h1.ml⟩, ?_⟩
    exact (HS1.out.drew.trans hs).drew
  clear HQ HR hr2 hb2 hp0 c0 b1 HD2 HS2 HH1 HS1 HN
  go_wp2
  go_region_held3 (fun w' => w'.cell? ⟨pg, po + 1, none⟩ = some (.pointer (some ⟨be, 0, none⟩)) ∧ w'.cell? ⟨W.heap.size, 1, none⟩ = some (.int .i64 xa)) ((constructor <;> first | assumption | (rw [World.cell?_drew]; assumption))) (first | (go_at_call 112; refine HQ2.out.mono ?_; rintro e W3 ⟨rfl, rfl⟩))
  go_wp2
  go_ret
  exact ⟨rfl, HF.out⟩
end Go.Proofs.YtapijhhmjjplmaaGreatDoor
namespace Go.Proofs.YtapijhhmjjplmaaGreatDoor
open Go.RowKit Go.Maps

/-- First the program's disk does something, then the reference's. -/
theorem Duo.both {w0 W W1 W2 W3 : World} {N pg po bd be m m' : Nat} {Sd Se : Nat → Prop} {d d' : Dsk} {r r' : RDsk} (h : Duo w0 W1 N pg po bd be m Sd Se d r) (hW : W.heap.size ≤ W1.heap.size)
    (D2 : DskAt W2 (fun g => Sd g ∨ W1.heap.size ≤ g) bd m' d') (s2 : Same Sd W1 W2) (R3 : RefAt W3 (fun g => Se g ∨ W2.heap.size ≤ g) be r') (s3 : Same Se W2 W3) (R : Rel d' r') (hw : d'.wait.length ≤ N + 1) (hm : m' ≤ N + 1) :
    Leaves2 w0 W N pg po bd be Sd Se W3 ∧ Same (fun g => Sd g ∨ Se g) W1 W3 := by
  have hz2 := s2.size
  have hz3 := s3.size
  have hpg : pg < W1.heap.size := block_lt_of_cell h.p0
  have hb2 : Below w0.heap.size w0 W2 := h.base.trans (s2.below (fun g hg => h.lo g (.inl hg)) h.base.size)
  have hse : ∀ g, (Sd g ∨ W1.heap.size ≤ g) → ¬ Se g := fun g hg he => by
    rcases hg with hg | hg
    · exact h.dj g hg he
    · have := h.hi g (.inr he); omega
  refine ⟨⟨m', fun g => (Sd g ∨ W1.heap.size ≤ g) ∧ g < W2.heap.size, fun g => (Se g ∨ W2.heap.size ≤ g) ∧ g < W3.heap.size, d', r', ?_, fun g hg => ⟨⟨fun h' => ?_, fun h' => ⟨.inl h', by omega⟩⟩, ⟨fun h' => ?_, fun h' => ⟨.inl h', by omega⟩⟩⟩⟩, ?_⟩
  · refine ⟨s3.cell h.np.2 (s2.cell h.np.1 h.p0), s3.cell h.np.2 (s2.cell h.np.1 h.p1), D2.tight.on s3 (fun g hg => hse g hg.1), R3.tight, R, ?_, ⟨?_, ?_⟩, ?_, ?_, ?_, hw, hm⟩
    · rintro g ⟨h1, h2⟩ ⟨h3 | h3, -⟩
      · exact hse g h1 h3
      · omega
    · rintro ⟨h1 | h1, -⟩
      · exact h.np.1 h1
      · omega
    · rintro ⟨h1 | h1, -⟩
      · exact h.np.2 h1
      · omega
    · exact hb2.trans (s3.below (fun g hg => h.lo g (.inr hg)) hb2.size)
    · have hbs := h.base.size
      rintro g (⟨h1 | h1, -⟩ | ⟨h1 | h1, -⟩)
      · exact h.lo g (.inl h1)
      · omega
      · exact h.lo g (.inr h1)
      · omega
    · rintro g (⟨-, h1⟩ | ⟨-, h1⟩) <;> omega
  · rcases h'.1 with h1 | h1
    · exact h1
    · omega
  · rcases h'.1 with h1 | h1
    · exact h1
    · omega
  · exact (s2.weak (fun _ h => .inl h)).trans (s3.weak (fun _ h => .inr h))

def RDsk.writeAny (r : RDsk) (at_ : Int) (s : ByteArray) : RDsk := if okW r.seen.length at_ s then r.write at_.toNat s else r
theorem ref_writeAny (be : Nat) (S : Nat → Prop) (d : Dsk) (r : RDsk) (at_ : Int) (s : ByteArray) (w : World) (h : RefAt w S be r) (R : Rel d r) (hw : r.wait.length ≤ 1000000) :
    Calls Tryz.prog 114 #[.pointer (some ⟨be, 0, none⟩), .int .i64 at_, .string s] w fun e w' => e = .returned (.int .i64 (d.wcode at_ s : Nat)) ∧ RefAt w' (fun g => S g ∨ w.heap.size ≤ g) be (r.writeAny at_ s) ∧ Same S w w' := by
  have hl := R.seenLen
  unfold Dsk.wcode RDsk.writeAny
  rw [hl]
  cases hok : okW d.safe.length at_ s
  · refine (ref_write_bad be S r at_ s w h (by rw [hl]; exact R.size.1) (by rw [hl]; exact okW_not hok)).mono ?_
    rintro e w' ⟨rfl, rfl⟩
    exact ⟨rfl, h.mono (fun _ h => .inl h), Same.refl _ _⟩
  · obtain ⟨h1, h2, h3⟩ := okW_spec hok
    obtain ⟨k, rfl⟩ : ∃ k : Nat, at_ = k := ⟨at_.toNat, by omega⟩
    refine (ref_write be S r k s w h (by omega) h3 hw).mono ?_
    rintro e w' ⟨rfl, h', s'⟩
    refine ⟨?_, h', s'⟩
    rw [R.ans]
    cases d.op.down <;> rfl
theorem Rel.writeAny {d : Dsk} {r : RDsk} (h : Rel d r) (at_ : Int) (s : ByteArray) : Rel (d.writeAny at_ s) (r.writeAny at_ s) := by
  unfold Dsk.writeAny RDsk.writeAny
  rw [h.seenLen]
  split
  · exact h.write _ _
  · exact h
theorem writeAny_wait (d : Dsk) (at_ : Int) (s : ByteArray) : (d.writeAny at_ s).wait.length ≤ d.wait.length + 1 := by
  unfold Dsk.writeAny Dsk.write
  split
  · split
    · rw [dop_wait]; omega
    · show (d.op.wait ++ _).length ≤ _
      rw [List.length_append, dop_wait]
      exact Nat.le_refl _
  · omega

set_option maxRecDepth 100000 in
set_option maxHeartbeats 1000000 in
theorem ldisk_write (w0 W : World) (a : Nat → Addr) (S0 : Sent w0 a) (N bw pg po bd be m : Nat) (Sd Se : Nat → Prop) (d : Dsk) (r : RDsk) (x : Stp) (hk : x.kind = 5) (H : Duo w0 W N pg po bd be m Sd Se d r) (hN : N ≤ 1000000) :
    Calls Tryz.prog 72 #[.pointer (some ⟨bw, 0, none⟩), .pointer (some ⟨pg, po, none⟩), stpV x] W fun e W' => e = .returned (.bool true) ∧ Leaves2 w0 W N pg po bd be Sd Se W' ∧ Same (fun g => Sd g ∨ Se g) W W' := by
  obtain ⟨kd, xa, xb, xd, xs, xt⟩ := x
  simp only at hk
  subst hk
  obtain ⟨W1, hW1⟩ : ∃ W1, W1 = W.alloc (.cells #[.int .i64 5, .int .i64 xa, .int .i64 xb, .int .i64 xd, .string xs, .string xt] 67) := ⟨_, rfl⟩
  have s1 : Same (fun _ => False) W W1 := by rw [hW1]; exact Same.alloc0 W _
  have H1 := H.on s1 (fun _ h => h.elim) (fun _ _ h => h) (fun h => h)
  have b1 : W1.cell? ⟨W.heap.size, 1, none⟩ = some (.int .i64 xa) := by rw [hW1]; simp
  have b4 : W1.cell? ⟨W.heap.size, 4, none⟩ = some (.string xs) := by rw [hW1]; simp
  have hnb : ¬ Sd W.heap.size := fun h => by have := H.hi _ (.inl h); omega
  have hnc : ¬ Se W.heap.size := fun h => by have := H.hi _ (.inr h); omega
  have c0 := H1.p0
  have hwl := H.wl
  have hml := H.ml
  have hwr := H.wlr
  have HR : Hid (Calls Tryz.prog 113 #[.pointer (some ⟨bd, 0, none⟩), .int .i64 xa, .string xs] W1.drew fun e w' => e = .returned (.int .i64 (d.wcode xa xs : Nat)) ∧ (∃ m', m' ≤ m + 1 ∧ DskAt w' (fun g => Sd g ∨ W1.drew.heap.size ≤ g) bd m' (d.writeAny xa xs)) ∧ Same Sd W1.drew w') :=
    plain_write w0 a S0 bd m Sd d W1.drew xa xs H1.drew.dsk H1.drew.base (fun g h => H1.lo g (.inl h)) (fun g h => H1.drew.hi g (.inl h)) H1.rel.most (by omega) (by omega) H1.rel.size.2
  have HQ : Hid (∀ V, RefAt V Se be r → Calls Tryz.prog 114 #[.pointer (some ⟨be, 0, none⟩), .int .i64 xa, .string xs] V fun e w' => e = .returned (.int .i64 (d.wcode xa xs : Nat)) ∧ RefAt w' (fun g => Se g ∨ V.heap.size ≤ g) be (r.writeAny xa xs) ∧ Same Se V w') := fun V hV => ref_writeAny be Se d r xa xs V hV H.rel (by omega)
  have HH1 : Hid (Duo w0 W1.drew N pg po bd be m Sd Se d r) := H1.drew
  have HS1 : Hid (Same (fun g => Sd g ∨ Se g) W W1.drew) := (s1.weak (fun _ h => h.elim)).drew
  have HN : Hid (¬ Sd pg ∧ ¬ Se pg) := H.np
  have HB : Hid ((d.writeAny xa xs).wait.length ≤ N + 1 ∧ m + 1 ≤ N + 1) := ⟨by have := writeAny_wait d xa xs; omega, by omega⟩
  obtain ⟨c, hc⟩ : ∃ c : Int, c = (d.wcode xa xs : Nat) := ⟨_, rfl⟩
  rw [← hc] at HR HQ
  clear H1 H s1 hc hwl hml hwr S0
  go_enter Tryz.func72, Tryz.ntmps72
  go_wp2
  rw [← hW1]
  clear hW1
  go_region_held3 (fun w' => w'.cell? ⟨pg, po, none⟩ = some (.pointer (some ⟨bd, 0, none⟩)) ∧ w'.cell? ⟨W.heap.size, 1, none⟩ = some (.int .i64 xa) ∧ w'.cell? ⟨W.heap.size, 4, none⟩ = some (.string xs)) (((repeat' constructor) <;> first | assumption | (rw [World.cell?_drew]; assumption))) (first | (go_at_call 113; refine HR.out.mono ?_; rintro e W2 ⟨rfl, D2, S2⟩; have c02 : W2.cell? ⟨pg, po, none⟩ = some (.pointer (some ⟨bd, 0, none⟩)) := S2.cell HN.out.1 (by rw [World.cell?_drew]; exact c0); have b12 : W2.cell? ⟨W.heap.size, 1, none⟩ = some (.int .i64 xa) := S2.cell hnb (by rw [World.cell?_drew]; exact b1); have b42 : W2.cell? ⟨W.heap.size, 4, none⟩ = some (.string xs) := S2.cell hnb (by rw [World.cell?_drew]; exact b4); have HD2 : Hid (∃ m', m' ≤ m + 1 ∧ DskAt W2 (fun g => Sd g ∨ W1.drew.heap.size ≤ g) bd m' (d.writeAny xa xs)) := D2; have HS2 : Hid (Same Sd W1.drew W2) := S2; clear D2 S2))
  obtain ⟨hp0, hp1, hr2, hb2⟩ := HH1.out.turnD HS2.out
  have HQ2 : Hid (Calls Tryz.prog 114 #[.pointer (some ⟨be, 0, none⟩), .int .i64 xa, .string xs] W2.drew fun e w' => e = .returned (.int .i64 c) ∧ RefAt w' (fun g => Se g ∨ W2.drew.heap.size ≤ g) be (r.writeAny xa xs) ∧ Same Se W2.drew w') := HQ.out W2.drew (hr2.on (Same.refl (fun _ => False) W2).drew (fun _ _ h => h))
  clear HQ HR hr2 hb2 hp0 c0 b1 b4
  go_wp2
  go_region_held3 (fun w' => w'.cell? ⟨pg, po + 1, none⟩ = some (.pointer (some ⟨be, 0, none⟩)) ∧ w'.cell? ⟨W.heap.size, 1, none⟩ = some (.int .i64 xa) ∧ w'.cell? ⟨W.heap.size, 4, none⟩ = some (.string xs)) (((repeat' constructor) <;> first | assumption | (rw [World.cell?_drew]; assumption))) (first | (go_at_call 114; refine HQ2.out.mono ?_; rintro e W3 ⟨rfl, R3, S3⟩; have c13 : W3.cell? ⟨pg, po + 1, none⟩ = some (.pointer (some ⟨be, 0, none⟩)) := S3.cell HN.out.2 (by rw [World.cell?_drew]; exact hp1); have b13 : W3.cell? ⟨W.heap.size, 1, none⟩ = some (.int .i64 xa) := S3.cell hnc (by rw [World.cell?_drew]; exact b12); have b43 : W3.cell? ⟨W.heap.size, 4, none⟩ = some (.string xs) := S3.cell hnc (by rw [World.cell?_drew]; exact b42); have HR3 : Hid (RefAt W3 (fun g => Se g ∨ W2.drew.heap.size ≤ g) be (r.writeAny xa xs)) := R3; have HS3 : Hid (Same Se W2.drew W3) := S3; clear R3 S3))
  go_wp2
  go_ret
  obtain ⟨m', hm', D2⟩ := HD2.out
  obtain ⟨h1, h2⟩ := HH1.out.both (W := W) HS1.out.size D2 HS2.out HR3.out (show Same Se W2 W3 from ⟨HS3.out.os, HS3.out.tape, HS3.out.output, HS3.out.size, HS3.out.block⟩) (HH1.out.rel.writeAny xa xs) HB.out.1 (Nat.le_trans hm' HB.out.2)
  exact ⟨rfl, h1, HS1.out.trans h2⟩
end Go.Proofs.YtapijhhmjjplmaaGreatDoor
namespace Go.Proofs.YtapijhhmjjplmaaGreatDoor
open Go.RowKit Go.Maps

theorem flush_wait (d : Dsk) : d.flush.wait.length ≤ d.wait.length := by
  unfold Dsk.flush
  split
  · rw [dop_wait]; exact Nat.le_refl _
  · exact Nat.zero_le _

set_option maxRecDepth 100000 in
set_option maxHeartbeats 1000000 in
theorem ldisk_flush (w0 W : World) (a : Nat → Addr) (S0 : Sent w0 a) (N bw pg po bd be m : Nat) (Sd Se : Nat → Prop) (d : Dsk) (r : RDsk) (x : Stp) (hk : x.kind = 6) (H : Duo w0 W N pg po bd be m Sd Se d r) (hN : N ≤ 1000000) :
    Calls Tryz.prog 72 #[.pointer (some ⟨bw, 0, none⟩), .pointer (some ⟨pg, po, none⟩), stpV x] W fun e W' => e = .returned (.bool true) ∧ Leaves2 w0 W N pg po bd be Sd Se W' ∧ Same (fun g => Sd g ∨ Se g) W W' := by
  obtain ⟨kd, xa, xb, xd, xs, xt⟩ := x
  simp only at hk
  subst hk
  obtain ⟨W1, hW1⟩ : ∃ W1, W1 = W.alloc (.cells #[.int .i64 6, .int .i64 xa, .int .i64 xb, .int .i64 xd, .string xs, .string xt] 67) := ⟨_, rfl⟩
  have s1 : Same (fun _ => False) W W1 := by rw [hW1]; exact Same.alloc0 W _
  have H1 := H.on s1 (fun _ h => h.elim) (fun _ _ h => h) (fun h => h)
  have c0 := H1.p0
  have hwl := H.wl
  have hml := H.ml
  have HR : Hid (Calls Tryz.prog 115 #[.pointer (some ⟨bd, 0, none⟩)] W1 fun e w' => e = .returned (.int .i64 (d.fcode : Nat)) ∧ DskAt w' Sd bd m d.flush ∧ Same Sd W1 w') :=
    plain_flush w0 a S0 bd m Sd d W1 H1.dsk H1.base (fun g h => H1.lo g (.inl h)) (fun g h => H1.hi g (.inl h)) H1.rel.most (by omega) H1.rel.size.2
  have hans : r.ans = (d.fcode : Nat) := by rw [H.rel.ans]; unfold Dsk.fcode; cases d.op.down <;> rfl
  have hsl : r.safe.length = d.safe.length := by rw [H.rel.safe]
  have HQ : Hid (∀ V, RefAt V Se be r → Calls Tryz.prog 116 #[.pointer (some ⟨be, 0, none⟩)] V fun e w' => e = .returned (.int .i64 (d.fcode : Nat)) ∧ RefAt w' Se be r.flush ∧ Same Se V w') := fun V hV => by
    have h := ref_flush be Se r V hV (by rw [hsl]; exact H.rel.size.1) (by rw [hsl]; exact H.rel.seenLen) (by rw [hsl]; exact H.rel.size.2)
    rw [hans] at h
    exact h
  have HH1 : Hid (Duo w0 W1 N pg po bd be m Sd Se d r) := H1
  have HS1 : Hid (Same (fun g => Sd g ∨ Se g) W W1) := s1.weak (fun _ h => h.elim)
  have HB : Hid (d.flush.wait.length ≤ N + 1 ∧ m ≤ N + 1) := ⟨by have := flush_wait d; omega, by omega⟩
  obtain ⟨c, hc⟩ : ∃ c : Int, c = (d.fcode : Nat) := ⟨_, rfl⟩
  rw [← hc] at HR HQ
  clear H1 H s1 hc hwl hml S0 hans hsl
  rw [hW1] at HR c0
  go_enter Tryz.func72, Tryz.ntmps72
  go_wp2_with fail
  refine HR.out.mono ?_
  rintro e W2 ⟨rfl, D2, S2⟩
  rw [← hW1] at S2 c0
  obtain ⟨hp0, hp1, hr2, hb2⟩ := HH1.out.turnD S2
  have HD2 : Hid (DskAt W2 Sd bd m d.flush) := D2
  have HS2 : Hid (Same Sd W1 W2) := S2
  have HQ2 : Hid (Calls Tryz.prog 116 #[.pointer (some ⟨be, 0, none⟩)] W2 fun e w' => e = .returned (.int .i64 c) ∧ RefAt w' Se be r.flush ∧ Same Se W2 w') := HQ.out W2 hr2
  clear D2 S2 HQ HR hr2 hb2 hp0 c0 hW1
  go_wp2_with fail
  refine HQ2.out.mono ?_
  rintro e W3 ⟨rfl, R3, S3⟩
  have HR3 : Hid (RefAt W3 Se be r.flush) := R3
  have HS3 : Hid (Same Se W2 W3) := S3
  clear R3 S3
  go_wp2
  go_ret
  obtain ⟨h1, h2⟩ := HH1.out.both (W := W) HS1.out.size (HD2.out.mono (fun _ h => .inl h)) HS2.out (HR3.out.mono (fun _ h => .inl h)) HS3.out HH1.out.rel.flush HB.out.1 HB.out.2
  exact ⟨rfl, h1, HS1.out.trans h2⟩

set_option maxRecDepth 100000 in
set_option maxHeartbeats 1000000 in
theorem ldisk_fuse (w0 W : World) (N bw pg po bd be m : Nat) (Sd Se : Nat → Prop) (d : Dsk) (r : RDsk) (x : Stp) (hk : x.kind = 7) (hra : inR x.a) (H : Duo w0 W N pg po bd be m Sd Se d r) :
    Calls Tryz.prog 72 #[.pointer (some ⟨bw, 0, none⟩), .pointer (some ⟨pg, po, none⟩), stpV x] W fun e W' => e = .returned (.bool true) ∧ Leaves2 w0 W N pg po bd be Sd Se W' ∧ Same (fun g => Sd g ∨ Se g) W W' := by
  obtain ⟨kd, xa, xb, xd, xs, xt⟩ := x
  simp only at hk hra
  subst hk
  obtain ⟨W1, hW1⟩ : ∃ W1, W1 = W.alloc (.cells #[.int .i64 7, .int .i64 xa, .int .i64 xb, .int .i64 xd, .string xs, .string xt] 67) := ⟨_, rfl⟩
  have s1 : Same (fun _ => False) W W1 := by rw [hW1]; exact Same.alloc0 W _
  have H1 := H.on s1 (fun _ h => h.elim) (fun _ _ h => h) (fun h => h)
  have b1 : W1.cell? ⟨W.heap.size, 1, none⟩ = some (.int .i64 xa) := by rw [hW1]; simp
  have hnb : ¬ Sd W.heap.size := fun h => by have := H.hi _ (.inl h); omega
  have hnc : ¬ Se W.heap.size := fun h => by have := H.hi _ (.inr h); omega
  have c0 := H1.p0
  have hwl := H.wl
  have hml := H.ml
  have HR : Hid (Calls Tryz.prog 32 #[.pointer (some ⟨bd, 0, none⟩), .int .i64 xa] W1.drew fun e w' => e = .returned (.tuple #[]) ∧ DskAt w' Sd bd m { d with fuse := max xa 0 } ∧ Same Sd W1.drew w') :=
    dsk_fuse bd m Sd d xa W1.drew H1.drew.dsk
  have HQ : Hid (∀ V, RefAt V Se be r → Calls Tryz.prog 117 #[.pointer (some ⟨be, 0, none⟩), .int .i64 xa] V fun e w' => e = .returned (.tuple #[]) ∧ RefAt w' Se be { r with lit := decide (0 < xa), left := xa } ∧ Same Se V w') := fun V hV => ref_fuse be Se r xa V hV
  have HH1 : Hid (Duo w0 W1.drew N pg po bd be m Sd Se d r) := H1.drew
  have HS1 : Hid (Same (fun g => Sd g ∨ Se g) W W1.drew) := (s1.weak (fun _ h => h.elim)).drew
  have HN : Hid (¬ Sd pg ∧ ¬ Se pg) := H.np
  have HB : Hid (d.wait.length ≤ N + 1 ∧ m ≤ N + 1 ∧ xa ≤ 9223372036854775807) := ⟨by omega, by omega, hra.2⟩
  clear H1 H s1 hwl hml hra
  go_enter Tryz.func72, Tryz.ntmps72
  go_wp2
  rw [← hW1]
  clear hW1
  go_region_held3 (fun w' => w'.cell? ⟨pg, po, none⟩ = some (.pointer (some ⟨bd, 0, none⟩)) ∧ w'.cell? ⟨W.heap.size, 1, none⟩ = some (.int .i64 xa)) (((repeat' constructor) <;> first | assumption | (rw [World.cell?_drew]; assumption))) (first | (go_at_call 32; refine HR.out.mono ?_; rintro e W2 ⟨rfl, D2, S2⟩; have c02 : W2.cell? ⟨pg, po, none⟩ = some (.pointer (some ⟨bd, 0, none⟩)) := S2.cell HN.out.1 (by rw [World.cell?_drew]; exact c0); have b12 : W2.cell? ⟨W.heap.size, 1, none⟩ = some (.int .i64 xa) := S2.cell hnb (by rw [World.cell?_drew]; exact b1); have HD2 : Hid (DskAt W2 Sd bd m { d with fuse := max xa 0 }) := D2; have HS2 : Hid (Same Sd W1.drew W2) := S2; clear D2 S2))
  obtain ⟨hp0, hp1, hr2, hb2⟩ := HH1.out.turnD HS2.out
  have HQ2 : Hid (Calls Tryz.prog 117 #[.pointer (some ⟨be, 0, none⟩), .int .i64 xa] W2.drew fun e w' => e = .returned (.tuple #[]) ∧ RefAt w' Se be { r with lit := decide (0 < xa), left := xa } ∧ Same Se W2.drew w') := HQ.out W2.drew (hr2.on (Same.refl (fun _ => False) W2).drew (fun _ _ h => h))
  clear HQ HR hr2 hb2 hp0 c0 b1
  go_wp2
  go_region_held3 (fun w' => w'.cell? ⟨pg, po + 1, none⟩ = some (.pointer (some ⟨be, 0, none⟩)) ∧ w'.cell? ⟨W.heap.size, 1, none⟩ = some (.int .i64 xa)) (((repeat' constructor) <;> first | assumption | (rw [World.cell?_drew]; assumption))) (first | (go_at_call 117; refine HQ2.out.mono ?_; rintro e W3 ⟨rfl, R3, S3⟩; have c13 : W3.cell? ⟨pg, po + 1, none⟩ = some (.pointer (some ⟨be, 0, none⟩)) := S3.cell HN.out.2 (by rw [World.cell?_drew]; exact hp1); have b13 : W3.cell? ⟨W.heap.size, 1, none⟩ = some (.int .i64 xa) := S3.cell hnc (by rw [World.cell?_drew]; exact b12); have HR3 : Hid (RefAt W3 Se be { r with lit := decide (0 < xa), left := xa }) := R3; have HS3 : Hid (Same Se W2.drew W3) := S3; clear R3 S3))
  go_wp2
  go_ret
  obtain ⟨h1, h2⟩ := HH1.out.both (W := W) (W2 := W2) HS1.out.size (HD2.out.mono (fun _ h => .inl h)) HS2.out (HR3.out.mono (fun _ h => .inl h)) (show Same Se W2 W3 from ⟨HS3.out.os, HS3.out.tape, HS3.out.output, HS3.out.size, HS3.out.block⟩) (HH1.out.rel.lit xa HB.out.2.2) HB.out.1 HB.out.2.1
  exact ⟨rfl, h1, HS1.out.trans h2⟩
end Go.Proofs.YtapijhhmjjplmaaGreatDoor
namespace Go.Proofs.YtapijhhmjjplmaaGreatDoor
open Go.RowKit Go.Maps

theorem own_shape {w : World} {S : Nat → Prop} {e : TypeId} {k n : Nat} {v : Value} {xs : List Value} (h : OwnS w S e k v n xs) : ∃ ao c, v = .slice ao n c := by
  obtain ⟨-, ⟨h1, h2⟩ | ⟨g, cap, cur, hv, -⟩⟩ := h.1
  · exact ⟨none, 0, by rw [h1, h2]⟩
  · exact ⟨_, _, hv⟩

set_option maxRecDepth 100000 in
set_option maxHeartbeats 1000000 in
theorem ldisk_waiting (w0 W : World) (N bw pg po bd be m : Nat) (Sd Se : Nat → Prop) (d : Dsk) (r : RDsk) (x : Stp) (hk : x.kind = 10) (H : Duo w0 W N pg po bd be m Sd Se d r) :
    Calls Tryz.prog 72 #[.pointer (some ⟨bw, 0, none⟩), .pointer (some ⟨pg, po, none⟩), stpV x] W fun e W' => e = .returned (.bool true) ∧ Duo w0 W' N pg po bd be m Sd Se d r ∧ Same Sd W W' := by
  obtain ⟨kd, xa, xb, xd, xs, xt⟩ := x
  simp only at hk
  subst hk
  obtain ⟨W1, hW1⟩ : ∃ W1, W1 = W.alloc (.cells #[.int .i64 10, .int .i64 xa, .int .i64 xb, .int .i64 xd, .string xs, .string xt] 67) := ⟨_, rfl⟩
  have s1 : Same (fun _ => False) W W1 := by rw [hW1]; exact Same.alloc0 W _
  have H1 := H.on s1 (fun _ h => h.elim) (fun _ _ h => h) (fun h => h)
  have c0 := H1.p0
  have HR : Hid (Calls Tryz.prog 53 #[.pointer (some ⟨bd, 0, none⟩)] W1 fun e w' => e = .returned (.int .i64 (d.wait.length : Int)) ∧ DskAt w' Sd bd m d ∧ Same Sd W1 w') := dsk_waiting bd m Sd d W1 H1.dsk
  have HH1 : Hid (Duo w0 W1 N pg po bd be m Sd Se d r) := H1
  have HS1 : Hid (Same Sd W W1) := s1.weak (fun _ h => h.elim)
  have hwr : r.wait.length = d.wait.length := by rw [H.rel.wait]
  have hsr := H.rel.seenLen
  clear H1 H s1
  rw [hW1] at HR c0
  go_enter Tryz.func72, Tryz.ntmps72
  go_wp2_with fail
  refine HR.out.mono ?_
  rintro e W2 ⟨rfl, D2, S2⟩
  rw [← hW1] at S2 c0
  obtain ⟨hp0, hp1, hr2, hb2⟩ := HH1.out.turnD S2
  have HF : Hid (Duo w0 W2 N pg po bd be m Sd Se d r ∧ Same Sd W W2) := by
    have h1 := HH1.out
    exact ⟨⟨hp0, hp1, D2, hr2, h1.rel, h1.dj, h1.np, hb2, h1.lo, fun g hg => Nat.lt_of_lt_of_le (h1.hi g hg) S2.size, h1.wl, h1.ml⟩, HS1.out.trans S2⟩
  have HQ : Hid (Calls Tryz.prog 62 #[.pointer (some ⟨bd, 0, none⟩)] W2 fun e w' => e = .returned (.int .i64 (d.safe.length : Int)) ∧ W2 = w') := dsk_sectors bd m Sd d W2 D2
  obtain ⟨sv, nv, wv, hv⟩ := hr2
  obtain ⟨ao, cw, rfl⟩ := own_shape hv.wait
  obtain ⟨an, cn, rfl⟩ := own_shape hv.seen
  have e2 : W2.cell? ⟨be, 2, none⟩ = some (.slice ao r.wait.length cw) := cell_of_row _ _ _ _ _ _ hv.blk
  have e1 : W2.cell? ⟨be, 1, none⟩ = some (.slice an r.seen.length cn) := cell_of_row _ _ _ _ _ _ hv.blk
  rw [hwr] at e2
  rw [hsr] at e1
  obtain ⟨nw, hnw⟩ : ∃ n, n = d.wait.length := ⟨_, rfl⟩
  obtain ⟨ns, hns⟩ : ∃ n, n = d.safe.length := ⟨_, rfl⟩
  rw [← hnw] at e2
  rw [← hns] at e1 HQ
  rw [← hnw]
  clear D2 S2 HR hb2 c0 hW1 hv hwr hsr hnw hns HH1 HS1
  go_wp2_with fail
  refine HQ.out.mono ?_
  rintro e W3 ⟨rfl, rfl⟩
  go_wp2
  go_ret
  exact ⟨rfl, HF.out⟩
end Go.Proofs.YtapijhhmjjplmaaGreatDoor
namespace Go.Proofs.YtapijhhmjjplmaaGreatDoor
open Go.RowKit Go.Maps

def kints (ks : List Int) : List Value := ks.map (Value.int .i64)
theorem keep_shape {w : World} {kv : Value} {ks : List Int} (h : w.ownsRow 0 3 1 kv ks.length (kints ks)) : ∃ ao c, kv = .slice ao ks.length c ∧ (0 < ks.length → ∃ g, ao = some ⟨g, 0, none⟩ ∧ ∀ j (h : j < ks.length), w.cell? ⟨g, j, none⟩ = some (.int .i64 ks[j])) := by
  have hc := fun g (hg : kv.ownBlock = some g) => World.ownsRow.cells h hg
  obtain ⟨-, ⟨h1, h2⟩ | ⟨g, cap, cur, hv, -, hh, hle, -, -, htk⟩⟩ := h
  · exact ⟨none, 0, by rw [h1, h2], fun h => by omega⟩
  · refine ⟨some ⟨g, 0, none⟩, cap, hv, fun _ => ⟨g, rfl, fun j hj => ?_⟩⟩
    have h := hc g (by rw [hv]; rfl) j (.int .i64 ks[j]) (by simp [kints, hj])
    have e1 : (⟨g, 0, none⟩ : Addr).add j = ⟨g, j, none⟩ := by unfold Addr.add; split <;> simp_all
    rw [e1] at h
    exact h
theorem keepAt_of {w : World} {S : Nat → Prop} {kv : Value} {ks : List Int} (h : w.ownsRow 0 3 1 kv ks.length (kints ks)) (hS : ∀ g, kv.ownBlock = some g → ¬ S g) : KeepAt w S kv ks := by
  obtain ⟨ao, c, rfl, h2⟩ := keep_shape h
  by_cases hp : 0 < ks.length
  · obtain ⟨g, rfl, hg⟩ := h2 hp
    exact .inr ⟨g, c, rfl, hp, hS g rfl, hg⟩
  · have : ks = [] := List.eq_nil_of_length_eq_zero (by omega)
    subst this
    exact .inl ⟨ao, c, rfl, rfl⟩

/-- append([]int{}, keep...). -/
theorem run_append_keep (w : World) (g0 : Nat) (ty : TypeId) (kv : Value) (ks : List Int) (hg0 : g0 < w.heap.size) (h : w.ownsRow 0 3 1 kv ks.length (kints ks)) (hl : ks.length ≤ 1000000) :
    ∃ v' w', (Builtin.append_ #[34, 34] ty #[.slice (some ⟨g0, 0, none⟩) 0 0, kv]).run Tryz.prog w = .ok v' w' ∧ Below w.heap.size w w' ∧ KeepAt w' (fun g => g < g0) v' ks := by
  obtain ⟨i, hi, hz0, hz1, hz2⟩ := info_parts infoInt
  obtain ⟨ao, c, rfl, h2⟩ := keep_shape h
  by_cases hp : 0 < ks.length
  · obtain ⟨g, rfl, hg⟩ := h2 hp
    have hr := run_append_grow (P := Tryz.prog) w 34 ty 3 i (.int .i64 0) Tryz.underlying34 hi hz0 ⟨g0, 0, none⟩ 0 0 [] (by simp) (by intro j v hv; cases hv) ⟨g, 0, none⟩ ks.length c (kints ks) (by rw [hz1]; simp [kints]) (fun j v hv => by
      have e1 : (⟨g, 0, none⟩ : Addr).add j = ⟨g, j, none⟩ := by unfold Addr.add; split <;> simp_all
      rw [e1]
      have hj : j < ks.length := by
        rcases Nat.lt_or_ge j ks.length with h | h
        · exact h
        · rw [List.getElem?_eq_none (by simpa [kints] using h)] at hv; cases hv
      rw [hg j hj]
      simp [kints, hj] at hv
      rw [hv]) (by omega) (by omega) (growslice_fits (by omega) (by rw [hz2]; omega))
    refine ⟨_, _, hr, ?_, .inr ⟨w.heap.size, _, by rw [Nat.zero_add], hp, by show ¬ w.heap.size < g0; omega, fun j hj => ?_⟩⟩
    · exact ((Below.refl w.heap.size w).drew).alloc (Nat.le_refl _) _
    · have hn := heap_alloc_new w.drew (.cells ([].toArray ++ (kints ks).toArray ++ Builtin.zeroCells (Value.int IntKind.i64 0).cells (grownCap w (0 + ks.length) 0 3 - (0 + ks.length))) 3)
      show World.cell? _ ⟨w.drew.heap.size, j, none⟩ = _
      rw [cell_of_row _ _ _ _ _ _ hn]
      have hsz : (kints ks).length = ks.length := by simp [kints]
      rw [Array.getElem?_append_left (by simp [hsz, hj])]
      simp [kints, hj]
  · have hk : ks = [] := List.eq_nil_of_length_eq_zero (by omega)
    subst hk
    refine ⟨.slice (some ⟨g0, 0, none⟩) 0 0, w, ?_, Below.refl _ _, .inl ⟨_, _, rfl, rfl⟩⟩
    cases ao <;> simp [Builtin.append_, run_underlying Tryz.underlying34, sizeOf, typeInfo, hi, Builtin.lenOf, Builtin.firstCells, loadCells, loadCellsFrom] <;> rfl

theorem step_append_keep {w : World} {ops : Array Oper} {o : Oper} {a : Act} {K : Act → World → Prop} {Q : Exit → Act → World → Prop} {E : Prop} (hgd : o.guard = none) (s x : Operand)
    (ho : o.op = .call { callee := .builtin .append, args := #[s, x], argTypes := #[34, 34] }) (g0 : Nat) (kv : Value) (ks : List Int) (hs : a.eval s = .slice (some ⟨g0, 0, none⟩) 0 0) (hx : a.eval x = kv) (hg0 : g0 < w.heap.size)
    (hown : w.ownsRow 0 3 1 kv ks.length (kints ks)) (hl : ks.length ≤ 1000000)
    (h : ∀ v' w', Below w.heap.size w w' → KeepAt w' (fun g => g < g0) v' ks → K (a.put o.dst v') w') : if Region.wanted o (yielded ops a.tmps) = true then Oper.wp Tryz.prog o a w K Q else E := by
  have hw : Region.wanted o (yielded ops a.tmps) = true := by simp [Region.wanted, hgd]
  rw [if_pos hw]
  obtain ⟨v', w', hr, h1, h2⟩ := run_append_keep w g0 o.type kv ks hg0 hown hl
  unfold Oper.wp execOp
  simp only [ho, resolve, invoke, builtin, Sem.run_bind, Sem.run_pure, Result.andThen_ok, List.map_toArray, List.map_cons, List.map_nil, hs, hx, hr]
  exact h v' w' h1 h2
theorem Leaves2.on {w0 W W' W'' : World} {T : Nat → Prop} {N pg po bd be : Nat} {Sd Se : Nat → Prop} (h : Leaves2 w0 W N pg po bd be Sd Se W') (hs : Same T W' W'') (hT : ∀ g, T g → w0.heap.size ≤ g ∧ g < W.heap.size ∧ ¬ Sd g ∧ ¬ Se g ∧ g ≠ pg) : Leaves2 w0 W N pg po bd be Sd Se W'' := by
  obtain ⟨m', Sd', Se', d', r', h1, h2⟩ := h
  refine ⟨m', Sd', Se', d', r', h1.on hs (fun g hg => (hT g hg).1) (fun g hg ht => ?_) (fun ht => (hT pg ht).2.2.2.2 rfl), h2⟩
  obtain ⟨-, t1, t2, t3, -⟩ := hT g ht
  rcases hg with hg | hg
  · exact t2 ((h2 g t1).1.1 hg)
  · exact t3 ((h2 g t1).2.1 hg)

set_option maxRecDepth 100000 in
set_option maxHeartbeats 1000000 in
theorem ldisk_crash (w0 W : World) (N bw pg po bd be m : Nat) (Sd Se : Nat → Prop) (d : Dsk) (r : RDsk) (x : Stp) (kv : Value) (ks : List Int) (row : Array Value) (rt : TypeId) (hk : x.kind = 9) (H : Duo w0 W N pg po bd be m Sd Se d r) (hN : N ≤ 1000000)
    (hb : W.heap[bw]? = some (.cells row rt (0, 0))) (hrow : row[1]? = some kv) (hkv : W.ownsRow 0 3 1 kv ks.length (kints ks)) (hks : ks.length ≤ 1000000) (hkd : ∀ g, kv.ownBlock = some g → ¬ Sd g ∧ ¬ Se g) (hbw : w0.heap.size ≤ bw ∧ ¬ Sd bw ∧ ¬ Se bw ∧ bw ≠ pg) :
    Calls Tryz.prog 72 #[.pointer (some ⟨bw, 0, none⟩), .pointer (some ⟨pg, po, none⟩), stpV x] W fun e W' => e = .returned (.bool true) ∧ Leaves2 w0 W N pg po bd be Sd Se W' ∧ Same (fun g => Sd g ∨ Se g ∨ g = bw) W W' ∧ W'.heap[bw]? = some (.cells (row.setIfInBounds 1 (.slice none 0 0)) rt (0, 0)) := by
  obtain ⟨kd, xa, xb, xd, xs, xt⟩ := x
  simp only at hk
  subst hk
  obtain ⟨W1, hW1⟩ : ∃ W1, W1 = W.alloc (.cells #[.int .i64 9, .int .i64 xa, .int .i64 xb, .int .i64 xd, .string xs, .string xt] 67) := ⟨_, rfl⟩
  have s1 : Same (fun _ => False) W W1 := by rw [hW1]; exact Same.alloc0 W _
  have H1 := H.on s1 (fun _ h => h.elim) (fun _ _ h => h) (fun h => h)
  have c0 : W1.cell? ⟨pg, po, none⟩ = some (.pointer (some ⟨bd, 0, none⟩)) := H1.p0
  have k0 : W.cell? ⟨bw, 1, none⟩ = some kv := by rw [cell_of_row _ _ _ _ _ _ hb]; exact hrow
  have k1 : W1.cell? ⟨bw, 1, none⟩ = some kv := s1.cell (fun h => h) k0
  have hwl := H.wl
  have hml := H.ml
  have HH1 : Hid (Duo w0 W1 N pg po bd be m Sd Se d r) := H1
  have HS1 : Hid (Same (fun g => Sd g ∨ Se g) W W1) := s1.weak (fun _ h => h.elim)
  have HN : Hid ((¬ Sd pg ∧ ¬ Se pg) ∧ ¬ Sd bw ∧ ¬ Se bw) := ⟨H.np, hbw.2.1, hbw.2.2.1⟩
  have HLT : Hid (pg < W1.heap.size ∧ bw < W1.heap.size ∧ W.heap.size < W1.heap.size) := ⟨block_lt_of_cell H1.p0, block_lt_of_cell k1, by rw [hW1]; simp⟩
  have HKV : Hid (W1.ownsRow 0 3 1 kv ks.length (kints ks)) := own_heap hkv (fun g hg => s1.block g (OwnS.lt (S := fun _ => True) ⟨hkv, fun _ _ => trivial⟩ hg) (fun h => h))
  have HKS : Hid (ks.length ≤ 1000000) := hks
  have HKL : Hid (∀ V, Same Sd W1 V → V.ownsRow 0 3 1 kv ks.length (kints ks)) := fun V s => own_heap HKV.out (fun g hg => s.block g (OwnS.lt (S := fun _ => True) ⟨HKV.out, fun _ _ => trivial⟩ hg) (hkd g hg).1)
  have HR : Hid (∀ V kv2, Below W1.heap.size W1 V → KeepAt V (fun g => g < W1.heap.size) kv2 ks → Calls Tryz.prog 34 #[.pointer (some ⟨bd, 0, none⟩), kv2] V fun e w' => e = .returned (.tuple #[]) ∧ DskAt w' Sd bd m { d with safe := keepAll d.wait d.safe ks, wait := [], fuse := 0, down := false } ∧ Same Sd V w') := fun V kv2 hV hK => by
    refine plain_crash bd m Sd d V kv2 ks (HH1.out.dsk.on (below_same (fun _ => False) hV) (fun _ _ h => h)) ?_ (by omega) HH1.out.rel.size.2 hks
    rcases hK with h | ⟨gk, cap, e1, e2, e3, e4⟩
    · exact .inl h
    · exact .inr ⟨gk, cap, e1, e2, fun h => e3 (HH1.out.hi gk (.inl h)), e4⟩
  have hsl : r.safe.length = d.safe.length := by rw [H.rel.safe]
  have hv2 : ∀ x ∈ r.wait, x.1 < r.safe.length := by
    obtain ⟨gs, bm, wv, hd⟩ := H.dsk
    rw [H.rel.wait, hsl]
    exact fun x hx => (hd.rest.v2 x hx).1
  have HQ : Hid (∀ V, RefAt V Se be r → V.ownsRow 0 3 1 kv ks.length (kints ks) → Calls Tryz.prog 118 #[.pointer (some ⟨be, 0, none⟩), kv] V fun e w' => e = .returned (.tuple #[]) ∧ RefAt w' Se be (r.crash ks) ∧ Same Se V w') := fun V hV hK => by
    refine ref_crash be Se r kv ks V hV (keepAt_of hK (fun g hg => (hkd g hg).2)) (by rw [hsl]; exact H.rel.size.1) (by rw [hsl]; exact H.rel.seenLen) (by rw [hsl]; exact H.rel.size.2) hv2 ?_ hks
    have := H.wlr
    omega
  have HB : Hid (0 ≤ N + 1 ∧ m ≤ N + 1) := ⟨by omega, by omega⟩
  have HBW : Hid (W.heap[bw]? = some (.cells row rt (0, 0)) ∧ w0.heap.size ≤ bw ∧ bw ≠ pg) := ⟨hb, hbw.1, hbw.2.2.2⟩
  have hbi : ∀ w, (Instr.buildSlice 34 0 #[]).run Tryz.prog w = .ok (.slice (some ⟨w.heap.size, 0, none⟩) 0 0) (w.alloc (.cells #[] 3)) := fun w => by
    obtain ⟨i, hi, hz0, hz1, hz2⟩ := info_parts infoInt
    simp [Instr.buildSlice, run_underlying Tryz.underlying34, sizeOf, typeInfo, hi, newRow, Instr.fill, Array.range_zero']
  clear H1 H s1 hwl hml hkv hks hkd hb hrow k0 hbw hsl hv2
  go_enter Tryz.func72, Tryz.ntmps72
  go_wp2
  rw [← hW1]
  clear hW1
  go_region_held3 (fun w' => w'.cell? ⟨pg, po, none⟩ = some (.pointer (some ⟨bd, 0, none⟩)) ∧ w'.cell? ⟨bw, 1, none⟩ = some kv) (((repeat' constructor) <;> first | assumption | (rw [World.cell?_drew]; assumption) | (rw [World.cell?_drew, World.cell?_alloc_some _ _ _ (by simp [*])]; assumption))) (first
    | (refine step_append_keep rfl _ _ rfl W1.heap.size kv ks rfl rfl (by simp) (World.ownsRow.alloc (w := W1) HKV.out _) HKS.out ?_; intro v' W2 hB2 hK2; have HK2 : Hid (KeepAt W2 (fun g => g < W1.heap.size) v' ks) := hK2; have HBB : Hid (Below W1.heap.size W1 W2) := (((Below.refl W1.heap.size W1).alloc (Nat.le_refl _) _).drew).trans (hB2.mono (by simp)); have c02 : W2.cell? ⟨pg, po, none⟩ = some (.pointer (some ⟨bd, 0, none⟩)) := (HBB.out.cell HLT.out.1).trans c0; have k02 : W2.cell? ⟨bw, 1, none⟩ = some kv := (HBB.out.cell HLT.out.2.1).trans k1; clear hB2 hK2)
    | (go_at_call 34; refine (HR.out W2 v' HBB.out HK2.out).mono ?_; rintro e W3 ⟨rfl, D3, S3⟩; have c03 : W3.cell? ⟨pg, po, none⟩ = some (.pointer (some ⟨bd, 0, none⟩)) := S3.cell HN.out.1.1 c02; have k03 : W3.cell? ⟨bw, 1, none⟩ = some kv := S3.cell HN.out.2.1 k02; have HD3 : Hid (DskAt W3 Sd bd m { d with safe := keepAll d.wait d.safe ks, wait := [], fuse := 0, down := false }) := D3; have HS3 : Hid (Same Sd W1 W3) := (below_same Sd HBB.out).trans S3; clear D3 S3))
  obtain ⟨hp0, hp1, hr3, hb3⟩ := HH1.out.turnD HS3.out
  have HQ2 : Hid (Calls Tryz.prog 118 #[.pointer (some ⟨be, 0, none⟩), kv] W3.drew fun e w' => e = .returned (.tuple #[]) ∧ RefAt w' Se be (r.crash ks) ∧ Same Se W3.drew w') := HQ.out W3.drew (hr3.on (Same.refl (fun _ => False) W3).drew (fun _ _ h => h)) (HKL.out W3 HS3.out)
  clear HQ HR hr3 hb3 hp0 c0 k1 HKV HKL HK2 HBB c02 k02
  go_wp2
  go_region_held3 (fun w' => w'.cell? ⟨pg, po + 1, none⟩ = some (.pointer (some ⟨be, 0, none⟩)) ∧ w'.cell? ⟨bw, 1, none⟩ = some kv) (((repeat' constructor) <;> first | assumption | (rw [World.cell?_drew]; assumption))) (first
    | (go_at_call 118; refine HQ2.out.mono ?_; rintro e W4 ⟨rfl, R4, S4⟩; have c14 : W4.cell? ⟨pg, po + 1, none⟩ = some (.pointer (some ⟨be, 0, none⟩)) := S4.cell HN.out.1.2 (by rw [World.cell?_drew]; exact hp1); have k04 : W4.cell? ⟨bw, 1, none⟩ = some kv := S4.cell HN.out.2.2 (by rw [World.cell?_drew]; exact k03); have HR4 : Hid (RefAt W4 Se be (r.crash ks)) := R4; have HS4 : Hid (Same Se W3 W4) := ⟨S4.os, S4.tape, S4.output, S4.size, S4.block⟩; clear R4 S4))
  obtain ⟨h1, h2⟩ := HH1.out.both (W := W) HS1.out.size (HD3.out.mono (fun _ h => .inl h)) HS3.out (HR4.out.mono (fun _ h => .inl h)) HS4.out (HH1.out.rel.crash ks) HB.out.1 HB.out.2
  have hs := HS1.out.trans h2
  have hb4 : W4.heap[bw]? = some (.cells row rt (0, 0)) := by
    rw [hs.block bw (lt_of_heap' HBW.out.1) (by rintro (h | h); exact HN.out.2.1 h; exact HN.out.2.2 h)]
    exact HBW.out.1
  have f4 := frozen_of_row W4 bw 1 _ _ hb4
  have HF : Hid (Leaves2 w0 W N pg po bd be Sd Se (W4.setCell ⟨bw, 1, none⟩ (.slice none 0 0)) ∧ Same (fun g => Sd g ∨ Se g ∨ g = bw) W (W4.setCell ⟨bw, 1, none⟩ (.slice none 0 0)) ∧ (W4.setCell ⟨bw, 1, none⟩ (.slice none 0 0)).heap[bw]? = some (.cells (row.setIfInBounds 1 (.slice none 0 0)) rt (0, 0))) := by
    have hs5 : Same (· = bw) W4 (W4.setCell ⟨bw, 1, none⟩ (.slice none 0 0)) := Same.setCell (S := (· = bw)) (Same.refl _ _) ⟨bw, 1, none⟩ rfl _
    refine ⟨h1.on hs5 ?_, ?_, ?_⟩
    · rintro g rfl
      exact ⟨HBW.out.2.1, lt_of_heap' HBW.out.1, HN.out.2.1, HN.out.2.2, HBW.out.2.2⟩
    · exact (hs.weak (fun g h => h.elim .inl (fun h => .inr (.inl h)))).trans (hs5.weak (fun g h => .inr (.inr h)))
    · rw [heap_setCell_same W4 bw 1 _ _ _ hb4]
  clear h1 h2 hs hb4 HD3 HS3 HR4 HS4 HH1 HS1 HB HBW HN HLT
  go_wp2
  go_ret
  exact ⟨rfl, HF.out⟩
end Go.Proofs.YtapijhhmjjplmaaGreatDoor
namespace Go.Proofs.YtapijhhmjjplmaaGreatDoor
open Go.RowKit Go.Maps

theorem Duo.tell {w0 W : World} {N pg po bd be m : Nat} {Sd Se : Nat → Prop} {d : Dsk} {r : RDsk} (h : Duo w0 W N pg po bd be m Sd Se d r) : ∃ gn cn, W.cell? ⟨be, 1, none⟩ = some (.slice (some ⟨gn, 0, none⟩) d.safe.length cn) ∧ ∀ j : Nat, j < d.safe.length → W.cell? ⟨gn, j, none⟩ = some (.string (d.rd j)) ∧ d.rcode j = 0 := by
  obtain ⟨sv, nv, wv, hv⟩ := h.ref
  have hl := h.rel.seenLen
  obtain ⟨gn, cn, rfl, -, hc, -⟩ := hv.seen.open (by rw [hl]; exact h.rel.size.1)
  refine ⟨gn, cn, ?_, fun j hj => ⟨?_, ?_⟩⟩
  · rw [cell_of_row _ _ _ _ _ _ hv.blk, ← hl]
    rfl
  · rw [hc j (by rw [strs_length, hl]; exact hj)]
    have e1 : d.rd j = d.at j hj := by unfold Dsk.rd; rw [dif_pos ⟨by omega, by omega⟩]; rfl
    rw [e1, ← h.rel.at j hj (by omega)]
    simp [strs]
  · unfold Dsk.rcode
    rw [if_pos ⟨by omega, by omega⟩]

set_option maxRecDepth 100000 in
set_option maxHeartbeats 2000000 in
theorem ldisk_image (w0 W : World) (a : Nat → Addr) (S0 : Sent w0 a) (N bw pg po bd be m : Nat) (Sd Se : Nat → Prop) (d : Dsk) (r : RDsk) (x : Stp) (left : Int) (row : Array Value) (rt : TypeId) (hk : x.kind = 11) (H : Duo w0 W N pg po bd be m Sd Se d r)
    (hb : W.heap[bw]? = some (.cells row rt (0, 0))) (hrow : row[5]? = some (.int .i64 left)) (hlo : -1000000 ≤ left) (hhi : left ≤ 1000000) (hbw : w0.heap.size ≤ bw ∧ ¬ Sd bw ∧ ¬ Se bw ∧ bw ≠ pg) :
    Calls Tryz.prog 72 #[.pointer (some ⟨bw, 0, none⟩), .pointer (some ⟨pg, po, none⟩), stpV x] W fun e W' => e = .returned (.bool true) ∧ Duo w0 W' N pg po bd be m Sd Se d r ∧ Same (fun g => Sd g ∨ g = bw) W W' ∧ W'.heap[bw]? = some (.cells (row.setIfInBounds 5 (.int .i64 (left - d.safe.length))) rt (0, 0)) := by
  obtain ⟨kd, xa, xb, xd, xs, xt⟩ := x
  simp only at hk
  subst hk
  obtain ⟨W1, hW1⟩ : ∃ W1, W1 = W.alloc (.cells #[.int .i64 11, .int .i64 xa, .int .i64 xb, .int .i64 xd, .string xs, .string xt] 67) := ⟨_, rfl⟩
  have s1 : Same (fun _ => False) W W1 := by rw [hW1]; exact Same.alloc0 W _
  have H1 := H.on s1 (fun _ h => h.elim) (fun _ _ h => h) (fun h => h)
  have hb1 : W1.heap[bw]? = some (.cells row rt (0, 0)) := by rw [s1.block bw (lt_of_heap' hb) (fun h => h)]; exact hb
  have c1 : W1.cell? ⟨pg, po + 1, none⟩ = some (.pointer (some ⟨be, 0, none⟩)) := H1.p1
  have l1 : W1.cell? ⟨bw, 5, none⟩ = some (.int .i64 left) := by rw [cell_of_row _ _ _ _ _ _ hb1]; exact hrow
  have f1 := frozen_of_row W1 bw 5 _ _ hb1
  obtain ⟨gn, cn, t1, -⟩ := H1.tell
  have hsz := H.rel.size
  obtain ⟨n, hn⟩ : ∃ n, n = d.safe.length := ⟨_, rfl⟩
  have HN : Hid (n = d.safe.length) := hn
  rw [← hn] at t1 hsz ⊢
  have hwrap : IntKind.i64.wrap (left - (n : Int)) = left - n := by rw [IntKind.wrap_i64]; omega
  have nb1 : bw ≠ pg := hbw.2.2.2
  have nb2 : bw ≠ be := by
    rintro rfl
    obtain ⟨_, _, _, hv⟩ := H.ref
    exact hbw.2.2.1 hv.sb
  have HH2 : Hid (∀ V, V = (W1.drew.setCell ⟨bw, 5, none⟩ (.int .i64 (left - n))) → Duo w0 V N pg po bd be m Sd Se d r ∧ Same (fun g => Sd g ∨ g = bw) W V ∧ V.heap[bw]? = some (.cells (row.setIfInBounds 5 (.int .i64 (left - n))) rt (0, 0))) := by
    rintro V rfl
    have hs : Same (· = bw) W1.drew (W1.drew.setCell ⟨bw, 5, none⟩ (.int .i64 (left - n))) := Same.setCell (S := (· = bw)) (Same.refl _ _) ⟨bw, 5, none⟩ rfl _
    refine ⟨H1.drew.on hs (by rintro g rfl; exact hbw.1) (by rintro g (hg | hg) rfl; exact hbw.2.1 hg; exact hbw.2.2.1 hg) (fun h => nb1 h.symm), ?_, ?_⟩
    · exact ((s1.weak (fun _ h => h.elim)).drew).trans (hs.weak (fun g h => .inr h))
    · exact heap_setCell_same W1.drew bw 5 _ _ _ hb1
  have HR : Hid (∀ V (i : Nat), Duo w0 V N pg po bd be m Sd Se d r → Calls Tryz.prog 63 #[.pointer (some ⟨bd, 0, none⟩), .int .i64 (i : Int)] V fun e w' => e = .returned (.tuple #[.string (d.rd i), .int .i64 (d.rcode i : Nat)]) ∧ DskAt w' Sd bd m d ∧ Same Sd V w') := fun V i hV =>
    plain_read w0 a S0 bd m Sd d V i hV.dsk hV.base (fun g h => hV.lo g (.inl h)) hV.rel.size.2
  have HNB : Hid (¬ Sd bw) := hbw.2.1
  clear H1 H s1 hb hb1 hrow hbw S0 hn
  go_enter Tryz.func72, Tryz.ntmps72
  go_wp2
  rw [← hW1]
  clear hW1
  have HH3 := HH2.out ((W1.setCell ⟨bw, 5, none⟩ (.int .i64 (left - n))).drew) rfl
  obtain ⟨W2, hW2⟩ : ∃ W2, W2 = (W1.setCell ⟨bw, 5, none⟩ (.int .i64 (left - n))).drew := ⟨_, rfl⟩
  rw [← hW2] at HH3
  have HD2 : Hid (Duo w0 W2 N pg po bd be m Sd Se d r) := HH3.1
  have HS2 : Hid (Same (fun g => Sd g ∨ g = bw) W W2 ∧ W2.heap[bw]? = some (.cells (row.setIfInBounds 5 (.int .i64 (left - n))) rt (0, 0))) := HH3.2
  clear HH2 HH3
  go_region
  rw [← hW2]
  have hni : (n : Int) ≤ 4096 := by omega
  clear hW2 c1 l1 f1 t1 nb1 nb2 hwrap hlo hhi
  go_wp2
  go_loopw [15] (fun iv_ wr => ∃ i : Nat, i ≤ n ∧ iv_ = .int .i64 (i : Int) ∧ Hid (Duo w0 wr N pg po bd be m Sd Se d r ∧ Same Sd W2 wr)) (fun iv_ _ => n - (intOf iv_).toNat)
  case atStart => exact ⟨0, by omega, rfl, HD2.out, Same.refl _ _⟩
  case round =>
    clear HD2
    obtain ⟨i, hi, rfl, HI⟩ := hrel
    obtain ⟨gn, cn, t1, -⟩ := HI.out.1.tell
    rw [← HN.out] at t1
    have c0 := HI.out.1.p0
    have c1 := HI.out.1.p1
    by_cases hlt : i < n
    · have hlc : (i : Int) < n := by omega
      go_wp2_with fail
      refine (HR.out wr i HI.out.1).mono ?_
      rintro e W3 ⟨rfl, D3, S3⟩
      obtain ⟨hp0, hp1, hr3, hb3⟩ := HI.out.1.turnD S3
      have hD : Duo w0 W3 N pg po bd be m Sd Se d r := by
        have h1 := HI.out.1
        exact ⟨hp0, hp1, D3, hr3, h1.rel, h1.dj, h1.np, hb3, h1.lo, fun g hg => Nat.lt_of_lt_of_le (h1.hi g hg) S3.size, h1.wl, h1.ml⟩
      obtain ⟨g3, n3, t3, ht3⟩ := hD.tell
      obtain ⟨z3, rc⟩ := ht3 i (by rw [← HN.out]; exact hlt)
      rw [← HN.out] at t3
      obtain ⟨y, hy⟩ : ∃ y, y = d.rd i := ⟨_, rfl⟩
      rw [← hy] at z3
      rw [rc, ← hy]
      have HI3 : Hid (Duo w0 W3 N pg po bd be m Sd Se d r ∧ Same Sd W2 W3) := ⟨hD, HI.out.2.trans S3⟩
      clear D3 S3 hr3 hb3 hD ht3 rc hy t1 c0 c1
      go_wp2
      go_roundw
      case rel => exact ⟨i + 1, by omega, by go_num, HI3⟩
      case measure => (simp [intOf]; try omega)
    · have hlc : ¬ (i : Int) < n := by omega
      go_wp2
      go_ret
      obtain ⟨h1, h2⟩ := HI.out
      refine ⟨rfl, h1, HS2.out.1.trans (h2.weak (fun _ h => .inl h)), ?_⟩
      rw [h2.block bw (lt_of_heap' HS2.out.2) HNB.out]
      exact HS2.out.2
end Go.Proofs.YtapijhhmjjplmaaGreatDoor
namespace Go.Proofs.YtapijhhmjjplmaaGreatDoor
open Go.RowKit

/-- What is asked of a law's steps, by their number: Inv 0 holds at the start, and every step that is made answers true and leads from Inv i to Inv (i + 1). -/
structure StepsN (w : World) (made : Int) (l : List Stp) (Inv : Nat → World → Prop) (D : Stp → Bool) : Prop where
  below : ∀ i W, Inv i W → Below w.heap.size w W
  left : ∀ i W, Inv i W → ∃ n : Int, W.cell? ⟨w.heap.size, 5, none⟩ = some (.int .i64 n)
  mono : ∀ i W W', Inv i W → Below W.heap.size W W' → Inv i W'
  succ : ∀ i W, Inv i W → Inv (i + 1) W
  init : ∀ w1 b kv hv, Made (w.alloc (.cells freshW 73)) w1 b kv hv → Inv 0 (w1.setCell ⟨w.heap.size, 0, none⟩ (.pointer (some ⟨b, 0, none⟩)))
  does : ∀ x ∈ l, 1 ≤ x.kind → x.kind ≤ 22 → ∀ W, Calls Tryz.prog 40 #[stpV x, .int .i64 made] W fun e W' => e = .returned (.bool (D x)) ∧ Below W.heap.size W W'
  step : ∀ i x, i < l.length → x ∈ l → 1 ≤ x.kind → x.kind ≤ 22 → D x = true → ∀ W, Inv i W → (∃ n : Int, 0 < n ∧ W.cell? ⟨w.heap.size, 5, none⟩ = some (.int .i64 n)) → inR x.a → inR x.d → Calls Tryz.prog 41 #[.pointer (some ⟨w.heap.size, 0, none⟩), stpV x] W fun e W' => e = .returned (.bool true) ∧ Inv (i + 1) W'
  looks : ∀ i W, Inv i W → Calls Tryz.prog 42 #[.pointer (some ⟨w.heap.size, 0, none⟩)] W fun e W' => e = .returned (.bool true) ∧ Inv i W'

set_option maxRecDepth 100000 in
set_option maxHeartbeats 2000000 in
theorem upto_ofN (made held : Int) (lists : Bool) (v : Value) (l : List Stp) (w : World) (Inv : Nat → World → Prop) (D : Stp → Bool) (hs : Scr w v l) (hl : l.length ≤ 262144) (St : StepsN w made l Inv D) :
    Calls Tryz.prog 23 #[v, .int .i64 made, .int .i64 held, .bool lists] w fun e w' => UptoPost w e w' := by
  rcases hs with ⟨ao, cap, rfl, rfl⟩ | ⟨bl, off, cap, rfl, hpos, hlen, hcell⟩
  · go_enter Tryz.func23, Tryz.ntmps23
    go_wp2_with fail
    refine (maker_any _).mono ?_
    rintro e w1 ⟨b, kv, hv, rfl, h1, h2, h3, h4, h5, h6, h7, h8⟩
    have HI : Hid (Inv 0 (w1.setCell ⟨w.heap.size, 0, none⟩ (.pointer (some ⟨b, 0, none⟩)))) := St.init w1 b kv hv ⟨h1, h2, h3, h4, h5, h6, h7, h8⟩
    have c0 : w1.cell? ⟨w.heap.size, 0, none⟩ = some (.pointer none) := by
      rw [h8.cell (by simp)]; simp
    have f0 : w1.frozen? ⟨w.heap.size, 0, none⟩ = false := by
      rw [h8.frozen (by simp)]; simp
    clear h1 h2 h3 h4 h5 h6 h7 h8
    go_wp2
    go_loop [10] (fun i => i = .int .i64 0) (fun _ => 0)
    case atStart => rfl
    case round =>
      obtain rfl := hrel
      go_wp2
      go_ret
      exact ⟨rfl, St.below _ _ HI.out⟩
  · obtain ⟨n, hn⟩ : ∃ n, n = l.length := ⟨_, rfl⟩
    have HN : Hid (n = l.length) := hn
    have HC : Hid (∀ i (h : i < l.length), StpAt w bl (off + i * 6) l[i]) := hcell
    have hbi : (n : Int) ≤ 262144 := by omega
    have hbl : bl < w.heap.size := by
      have h0 := (hcell 0 hpos).c0
      rcases Nat.lt_or_ge bl w.heap.size with h' | h'
      · exact h'
      · simp [World.cell?, Array.getElem?_eq_none h'] at h0
    rw [← hn]
    clear hn hcell hlen hpos hl
    go_enter Tryz.func23, Tryz.ntmps23
    go_wp2_with fail
    refine (maker_any _).mono ?_
    rintro e w1 ⟨b, kv, hv, rfl, h1, h2, h3, h4, h5, h6, h7, h8⟩
    have HI : Hid (Inv 0 (w1.setCell ⟨w.heap.size, 0, none⟩ (.pointer (some ⟨b, 0, none⟩)))) := St.init w1 b kv hv ⟨h1, h2, h3, h4, h5, h6, h7, h8⟩
    have c0 : w1.cell? ⟨w.heap.size, 0, none⟩ = some (.pointer none) := by
      rw [h8.cell (by simp)]; simp
    have f0 : w1.frozen? ⟨w.heap.size, 0, none⟩ = false := by
      rw [h8.frozen (by simp)]; simp
    clear h1 h2 h3 h4 h5 h6 h7 h8
    go_wp2
    clear c0 f0
    go_loopw [10] (fun iv_ wr => ∃ i : Nat, i ≤ n ∧ iv_ = .int .i64 i ∧ Hid (Inv i wr)) (fun i _ => n - (intOf i).toNat)
    case atStart => exact ⟨0, by omega, rfl, HI⟩
    case round =>
      clear HI
      obtain ⟨i, hi, rfl, HI⟩ := hrel
      obtain ⟨left, hleft⟩ := St.left _ _ HI.out
      by_cases hlt : i < n
      · have hil : i < l.length := by have := HN.out; omega
        obtain ⟨x, hx⟩ : ∃ x, x = l[i] := ⟨_, rfl⟩
        have hs0 := HC.out i hil
        have hmem : l[i] ∈ l := List.getElem_mem _
        rw [← hx] at hs0 hmem
        have HS : Hid (StpAt w bl (off + i * 6) x) := hs0
        have hat := hs0.on (St.below _ _ HI.out) hbl
        clear hx hs0
        by_cases hl0 : 0 < left
        · have c0 := hat.c0
          have c1 := hat.c1
          have c2 := hat.c2
          have c3 := hat.c3
          have c4 := hat.c4
          have c5 := hat.c5
          have HM : Hid (x ∈ l) := hmem
          clear hat hmem
          by_cases hk1 : x.kind < 1
          · go_wp2
            go_roundw
            case rel => exact ⟨i + 1, by omega, by go_num, St.succ _ _ HI.out⟩
            case measure => (simp [intOf]; try omega)
          · by_cases hk2 : 22 < x.kind
            · go_wp2
              go_roundw
              case rel => exact ⟨i + 1, by omega, by go_num, St.succ _ _ HI.out⟩
              case measure => (simp [intOf]; try omega)
            · go_wp2_with fail
              refine (St.does x HM.out (by omega) (by omega) _).mono ?_
              rintro e w2 ⟨rfl, hw2⟩
              have HI2 : Hid (Inv i w2) := St.mono _ _ _ HI.out hw2
              have HLF : Hid (∃ n : Int, 0 < n ∧ w2.cell? ⟨w.heap.size, 5, none⟩ = some (.int .i64 n)) := ⟨left, hl0, by rw [hw2.cell (block_lt_of_cell hleft)]; exact hleft⟩
              clear hw2 HI c0 c1 c2 c3 c4 c5 hleft
              cases hd : D x
              · clear hd
                go_wp2
                go_roundw
                case rel => exact ⟨i + 1, by omega, by go_num, St.succ _ _ HI2.out⟩
                case measure => (simp [intOf]; try omega)
              · have HD : Hid (D x = true) := hd
                have hat := HS.out.on (St.below _ _ HI2.out) hbl
                have c0 := hat.c0
                have c1 := hat.c1
                have c2 := hat.c2
                have c3 := hat.c3
                have c4 := hat.c4
                have c5 := hat.c5
                clear hd hat
                go_wp2_with fail
                refine (St.step i x (by have := HN.out; omega) HM.out (by omega) (by omega) HD.out _ HI2.out HLF.out HS.out.ra HS.out.rd).mono ?_
                rintro e w3 ⟨rfl, hw3⟩
                have HI3 : Hid (Inv (i + 1) w3) := hw3
                clear hw3 HI2 c0 c1 c2 c3 c4 c5
                go_wp2_with fail
                refine (St.looks _ _ HI3.out).mono ?_
                rintro e w4 ⟨rfl, hw4⟩
                have HI4 : Hid (Inv (i + 1) w4) := hw4
                clear hw4 HI3
                go_wp2
                go_roundw
                case rel => exact ⟨i + 1, by omega, by go_num, HI4⟩
                case measure => (simp [intOf]; try omega)
        · clear hat hmem
          go_wp2
          go_ret
          exact ⟨rfl, St.below _ _ HI.out⟩
      · go_wp2
        go_ret
        exact ⟨rfl, St.below _ _ HI.out⟩

/-- 'plays', where the steps stand in whatever world 'small' leaves. -/
theorem plays_ofN (made held : Int) (lists : Bool) (v : Value) (l : List Stp) (w : World) (hs : Scr w v l)
    (St : ∀ w1, Below w.heap.size w w1 → l.length + bulk l ≤ 262144 → ∃ Inv D, StepsN w1 made l Inv D) :
    Calls Tryz.prog 13 #[v, .int .i64 made, .int .i64 held, .bool lists] w fun e w' => PlaysPost w e w' := by
  have hv : ∃ ao n cap, v = .slice ao n cap := by
    rcases hs with ⟨ao, cap, rfl, _⟩ | ⟨bl, off, cap, rfl, _⟩
    · exact ⟨_, _, _, rfl⟩
    · exact ⟨_, _, _, rfl⟩
  obtain ⟨ao, n, cap, rfl⟩ := hv
  have HS : Hid (Scr w (.slice ao n cap) l) := hs
  have HST : Hid (∀ w1, Below w.heap.size w w1 → l.length + bulk l ≤ 262144 → ∃ Inv D, StepsN w1 made l Inv D) := St
  clear hs St
  go_enter Tryz.func13, Tryz.ntmps13
  go_wp2_with fail
  refine (small_any _ l _ HS.out).mono ?_
  rintro e w1 ⟨r, rfl, hr, hb⟩
  have HB : Hid (Below w.heap.size w w1) := hb
  cases r
  · clear hr hb
    go_wp2
    go_ret
    exact ⟨rfl, HB.out⟩
  · have HR : Hid (l.length + bulk l ≤ 262144) := hr rfl
    clear hr hb
    go_wp2_with fail
    obtain ⟨Inv, D, S⟩ := HST.out w1 HB.out HR.out
    refine (upto_ofN made held lists _ l w1 Inv D (Scr.on HS.out HB.out) (by have := HR.out; omega) S).mono ?_
    rintro e w2 ⟨rfl, hb2⟩
    have HB2 : Hid (Below w.heap.size w w2) := HB.out.trans (hb2.mono HB.out.size)
    clear hb2 S
    go_wp2
    go_ret
    exact ⟨rfl, HB2.out⟩
end Go.Proofs.YtapijhhmjjplmaaGreatDoor
namespace Go.Proofs.YtapijhhmjjplmaaGreatDoor
open Go.RowKit Go.Maps

theorem tmod_nat (q n : Nat) (hn : 0 < n) : ∃ k : Nat, k < n ∧ (q : Int).tmod n = k := ⟨q % n, Nat.mod_lt _ hn, by rw [Int.tmod_eq_emod_of_nonneg (by omega)]; rfl⟩
theorem pick_any (c : Int) (n : Nat) (w : World) (hc : inR c) (hn : 0 < n) (hb : n ≤ 1000000) :
    Calls Tryz.prog 71 #[.int .i64 c, .int .i64 (n : Int)] w fun e w' => (∃ k : Nat, k < n ∧ e = .returned (.int .i64 (k : Int))) ∧ w = w' := by
  obtain ⟨h1, h2⟩ := hc
  have hz : ((n : Int) == 0) = false := by simp; omega
  by_cases h0 : c < 0
  · have hw1 : IntKind.i64.wrap (c + 1) = c + 1 := by rw [IntKind.wrap_i64]; omega
    obtain ⟨q, hq⟩ : ∃ q : Nat, -(c + 1) = (q : Int) := ⟨(-(c + 1)).toNat, by omega⟩
    have hqb : (q : Int) ≤ 9223372036854775807 := by omega
    obtain ⟨k, hkn, hk⟩ := tmod_nat q n hn
    have hw2 : IntKind.i64.wrap (k : Int) = k := by rw [IntKind.wrap_i64]; omega
    go_enter Tryz.func71, Tryz.ntmps71
    go_wp2
    go_ret
    exact ⟨⟨k, hkn, rfl⟩, rfl⟩
  · obtain ⟨q, rfl⟩ : ∃ q : Nat, c = (q : Int) := ⟨c.toNat, by omega⟩
    obtain ⟨k, hkn, hk⟩ := tmod_nat q n hn
    have hw2 : IntKind.i64.wrap (k : Int) = k := by rw [IntKind.wrap_i64]; omega
    go_enter Tryz.func71, Tryz.ntmps71
    go_wp2
    go_ret
    exact ⟨⟨k, hkn, rfl⟩, rfl⟩

/-- One pair of disks. -/
structure PairD where
  bd : Nat
  be : Nat
  m : Nat
  d : Dsk
  r : RDsk
def pairV (p : PairD) : List Value := [.pointer (some ⟨p.bd, 0, none⟩), .pointer (some ⟨p.be, 0, none⟩), .pointer none, .pointer none]
def pairsV (l : List PairD) : List Value := l.flatMap pairV
theorem pairsV_length (l : List PairD) : (pairsV l).length = l.length * 4 := by
  induction l with
  | nil => rfl
  | cons p r ih =>
    have e : pairsV (p :: r) = pairV p ++ pairsV r := rfl
    rw [e, List.length_append, ih, List.length_cons]
    show 4 + _ = _
    omega
theorem pairsV_at : ∀ (l : List PairD) (k : Nat) (h : k < l.length) (j : Nat), j < 4 → (pairsV l)[k * 4 + j]? = (pairV l[k])[j]?
  | p :: r, 0, _, j, hj => by
    have e : pairsV (p :: r) = pairV p ++ pairsV r := rfl
    rw [e, Nat.zero_mul, Nat.zero_add, List.getElem?_append_left (by show j < 4; exact hj)]
    rfl
  | p :: r, k + 1, h, j, hj => by
    have e : pairsV (p :: r) = pairV p ++ pairsV r := rfl
    rw [e, List.getElem?_append_right (by show 4 ≤ _; omega)]
    have e2 : (k + 1) * 4 + j - (pairV p).length = k * 4 + j := by show (k + 1) * 4 + j - 4 = _; omega
    rw [e2]
    exact pairsV_at r k (by simpa using h) j hj

def dRow (b : Nat) (kv av : Value) (left : Int) : Array Value := #[.pointer (some ⟨b, 0, none⟩), kv, av, .slice none 0 0, .int .i64 0, .int .i64 left]
/-- The blocks of an owner. -/
def ownQ (w W : World) (o : Nat → Nat) (q : Nat) : Nat → Prop := fun g => o g = q ∧ w.heap.size < g ∧ g < W.heap.size
structure Disk1 (w W : World) (o : Nat → Nat) (i k : Nat) (p : PairD) : Prop where
  dsk : DskAt W (ownQ w W o (2 * k + 2)) p.bd p.m p.d
  ref : RefAt W (ownQ w W o (2 * k + 3)) p.be p.r
  rel : Rel p.d p.r
  wl : p.d.wait.length ≤ i
  ml : p.m ≤ i
structure DInvV (w : World) (i : Nat) (W : World) (b : Nat) (kv : Value) (ks : List Int) (av : Value) (l : List PairD) (left : Int) (o : Nat → Nat) : Prop where
  below : Below w.heap.size w W
  row : W.heap[w.heap.size]? = some (.cells (dRow b kv av left) 73 (0, 0))
  keep : OwnS W (ownQ w W o 0) 3 1 kv ks.length (kints ks)
  kl : ks.length ≤ i
  all : OwnS W (ownQ w W o 1) 152 4 av l.length (pairsV l)
  al : l.length ≤ i
  each : ∀ k (h : k < l.length), Disk1 w W o i k l[k]
  lo : -5000 ≤ left
  hi : left ≤ 262144
def DInv (w : World) (i : Nat) (W : World) : Prop := ∃ b kv ks av l left o, DInvV w i W b kv ks av l left o

theorem DInvV.duo {w W : World} {i b k : Nat} {kv av : Value} {ks : List Int} {l : List PairD} {left : Int} {o : Nat → Nat} (h : DInvV w i W b kv ks av l left o) (hk : k < l.length) :
    ∃ g cap, av = .slice (some ⟨g, 0, none⟩) l.length cap ∧ ownQ w W o 1 g ∧ Duo w W i g (k * 4) l[k].bd l[k].be l[k].m (ownQ w W o (2 * k + 2)) (ownQ w W o (2 * k + 3)) l[k].d l[k].r := by
  obtain ⟨g, cap, hv, hg, hc, -⟩ := h.all.open (by omega)
  have hD := h.each k hk
  have h0 := hc (k * 4 + 0) (by rw [pairsV_length]; omega)
  have h1 := hc (k * 4 + 1) (by rw [pairsV_length]; omega)
  have e0 := pairsV_at l k hk 0 (by omega)
  have e1 := pairsV_at l k hk 1 (by omega)
  rw [List.getElem?_eq_getElem (by rw [pairsV_length]; omega)] at e0 e1
  refine ⟨g, cap, hv, hg, ?_, ?_, hD.dsk, hD.ref, hD.rel, ?_, ⟨?_, ?_⟩, h.below, ?_, ?_, hD.wl, hD.ml⟩
  · exact h0.trans e0
  · exact h1.trans e1
  · rintro x ⟨hx, -⟩ ⟨hy, -⟩
    omega
  · rintro ⟨hx, -⟩
    have := hg.1
    omega
  · rintro ⟨hx, -⟩
    have := hg.1
    omega
  · rintro x (⟨-, hx, -⟩ | ⟨-, hx, -⟩) <;> omega
  · rintro x (⟨-, -, hx⟩ | ⟨-, -, hx⟩) <;> exact hx

/-- The owners behind a step on pair k. -/
def newO (W : World) (o : Nat → Nat) (k : Nat) (Sd Se : Nat → Prop) [DecidablePred Sd] [DecidablePred Se] : Nat → Nat := fun g => if g < W.heap.size then o g else if Sd g then 2 * k + 2 else if Se g then 2 * k + 3 else 0
theorem newO_old {W : World} {o : Nat → Nat} {k : Nat} {Sd Se : Nat → Prop} [DecidablePred Sd] [DecidablePred Se] {g : Nat} (h : g < W.heap.size) : newO W o k Sd Se g = o g := by unfold newO; rw [if_pos h]
theorem newO_d {W : World} {o : Nat → Nat} {k : Nat} {Sd Se : Nat → Prop} [DecidablePred Sd] [DecidablePred Se] {g : Nat} (h : ¬ g < W.heap.size) (hd : Sd g) : newO W o k Sd Se g = 2 * k + 2 := by unfold newO; rw [if_neg h, if_pos hd]
theorem newO_e {W : World} {o : Nat → Nat} {k : Nat} {Sd Se : Nat → Prop} [DecidablePred Sd] [DecidablePred Se] {g : Nat} (h : ¬ g < W.heap.size) (hd : ¬ Sd g) (he : Se g) : newO W o k Sd Se g = 2 * k + 3 := by unfold newO; rw [if_neg h, if_neg hd, if_pos he]

/-- Behind a step on pair k, all is held as before. -/
theorem DInvV.turn {w W W' : World} {i b k : Nat} {kv kv' av : Value} {ks ks' : List Int} {l : List PairD} {left left' : Int} {o : Nat → Nat} (h : DInvV w i W b kv ks av l left o) (hk : k < l.length) {g0 : Nat} (po : Nat)
    (hL : Leaves2 w W i g0 po l[k].bd l[k].be (ownQ w W o (2 * k + 2)) (ownQ w W o (2 * k + 3)) W') (hs : Same (fun g => ownQ w W o (2 * k + 2) g ∨ ownQ w W o (2 * k + 3) g ∨ g = w.heap.size) W W')
    (hrow : W'.heap[w.heap.size]? = some (.cells (dRow b kv' av left') 73 (0, 0))) (hkeep : (kv' = kv ∧ ks' = ks) ∨ (kv' = .slice none 0 0 ∧ ks' = [])) (hlo : -5000 ≤ left') (hhi : left' ≤ 262144) : DInv w (i + 1) W' := by
  classical
  obtain ⟨m', Sd', Se', d', r', hD, hiff⟩ := hL
  have hz := hs.size
  have far : ∀ q g, ownQ w W o q g → q ≠ 2 * k + 2 → q ≠ 2 * k + 3 → ¬ (ownQ w W o (2 * k + 2) g ∨ ownQ w W o (2 * k + 3) g ∨ g = w.heap.size) := by
    rintro q g ⟨h1, h2, h3⟩ n1 n2 (⟨e, -⟩ | ⟨e, -⟩ | e) <;> omega
  have up : ∀ q g, ownQ w W o q g → ownQ w W' (newO W o k Sd' Se') q g := fun q g hq => ⟨by rw [newO_old hq.2.2]; exact hq.1, hq.2.1, by have := hq.2.2; omega⟩
  have upd : ∀ g, Sd' g → ownQ w W' (newO W o k Sd' Se') (2 * k + 2) g := fun g hg => by
    have h1 := hD.lo g (.inl hg)
    have h2 := hD.hi g (.inl hg)
    by_cases hl : g < W.heap.size
    · exact up _ g ((hiff g hl).1.1 hg)
    · have := h.below.size
      have := lt_of_heap' h.row
      exact ⟨newO_d hl hg, by omega, h2⟩
  have upe : ∀ g, Se' g → ownQ w W' (newO W o k Sd' Se') (2 * k + 3) g := fun g hg => by
    have h2 := hD.hi g (.inr hg)
    by_cases hl : g < W.heap.size
    · exact up _ g ((hiff g hl).2.1 hg)
    · have := lt_of_heap' h.row
      exact ⟨newO_e hl (fun hd => hD.dj g hd hg) hg, by omega, h2⟩
  refine ⟨b, kv', ks', av, l.set k ⟨l[k].bd, l[k].be, m', d', r'⟩, left', newO W o k Sd' Se', hD.base, hrow, ?_, ?_, ?_, ?_, ?_, hlo, hhi⟩
  · rcases hkeep with ⟨rfl, rfl⟩ | ⟨rfl, rfl⟩
    · exact (h.keep.on hs (fun g hg => far 0 g (h.keep.2 g hg) (by omega) (by omega))).mono (up 0)
    · exact ⟨⟨rfl, .inl ⟨rfl, rfl⟩⟩, fun g hg => by cases hg⟩
  · have := h.kl
    rcases hkeep with ⟨-, rfl⟩ | ⟨-, rfl⟩
    · omega
    · exact Nat.zero_le _
  · have e : pairsV (l.set k ⟨l[k].bd, l[k].be, m', d', r'⟩) = pairsV l := by
      unfold pairsV
      have hm : (l.set k ⟨l[k].bd, l[k].be, m', d', r'⟩).map pairV = l.map pairV := by
        rw [List.map_set]
        apply List.ext_getElem
        · simp
        · intro n h1 h2
          rw [List.getElem_set]
          split
          · subst k; simp [pairV]
          · rfl
      rw [List.flatMap_def, List.flatMap_def, hm]
    rw [e, List.length_set]
    exact (h.all.on hs (fun g hg => far 1 g (h.all.2 g hg) (by omega) (by omega))).mono (up 1)
  · rw [List.length_set]; have := h.al; omega
  · intro j hj
    rw [List.length_set] at hj
    by_cases hjk : j = k
    · subst hjk
      rw [List.getElem_set_self]
      exact ⟨hD.dsk.mono upd, hD.ref.mono upe, hD.rel, hD.wl, hD.ml⟩
    · rw [List.getElem_set_ne (fun e => hjk e.symm)]
      have h1 := h.each j hj
      have hwl := h1.wl
      have hml := h1.ml
      exact ⟨(h1.dsk.on hs (fun g hg => far _ g hg (by omega) (by omega))).mono (up _), (h1.ref.on hs (fun g hg => far _ g hg (by omega) (by omega))).mono (up _), h1.rel, by omega, by omega⟩
end Go.Proofs.YtapijhhmjjplmaaGreatDoor
namespace Go.Proofs.YtapijhhmjjplmaaGreatDoor
open Go.RowKit Go.Maps

theorem Disk1.mono {w W W' : World} {o : Nat → Nat} {i k : Nat} {p : PairD} (h : Disk1 w W o i k p) (hb : Below W.heap.size W W') : Disk1 w W' o i k p := by
  have hs := below_same (fun _ => False) hb
  have up : ∀ q g, ownQ w W o q g → ownQ w W' o q g := fun q g hq => ⟨hq.1, hq.2.1, Nat.lt_of_lt_of_le hq.2.2 hb.size⟩
  exact ⟨(h.dsk.on hs (fun _ _ h => h)).mono (up _), (h.ref.on hs (fun _ _ h => h)).mono (up _), h.rel, h.wl, h.ml⟩
theorem DInvV.mono {w W W' : World} {i b : Nat} {kv av : Value} {ks : List Int} {l : List PairD} {left : Int} {o : Nat → Nat} (h : DInvV w i W b kv ks av l left o) (hb : Below W.heap.size W W') : DInvV w i W' b kv ks av l left o := by
  have hs := below_same (fun _ => False) hb
  have up : ∀ q g, ownQ w W o q g → ownQ w W' o q g := fun q g hq => ⟨hq.1, hq.2.1, Nat.lt_of_lt_of_le hq.2.2 hb.size⟩
  refine ⟨h.below.trans (hb.mono h.below.size), ?_, (h.keep.on hs (fun _ _ h => h)).mono (up _), h.kl, (h.all.on hs (fun _ _ h => h)).mono (up _), h.al, fun k hk => (h.each k hk).mono hb, h.lo, h.hi⟩
  rw [hb.block _ (lt_of_heap' h.row)]
  exact h.row
theorem DInvV.succ {w W : World} {i b : Nat} {kv av : Value} {ks : List Int} {l : List PairD} {left : Int} {o : Nat → Nat} (h : DInvV w i W b kv ks av l left o) : DInvV w (i + 1) W b kv ks av l left o :=
  ⟨h.below, h.row, h.keep, Nat.le_succ_of_le h.kl, h.all, Nat.le_succ_of_le h.al, fun k hk => ⟨(h.each k hk).dsk, (h.each k hk).ref, (h.each k hk).rel, Nat.le_succ_of_le (h.each k hk).wl, Nat.le_succ_of_le (h.each k hk).ml⟩, h.lo, h.hi⟩

theorem ldisk_any {w W : World} {a : Nat → Addr} (S0 : Sent w a) {i b k : Nat} {kv av : Value} {ks : List Int} {l : List PairD} {left : Int} {o : Nat → Nat} (h : DInvV w i W b kv ks av l left o) (hk : k < l.length) (hi : i ≤ 300000) (hl : 0 < left)
    (x : Stp) (hx : x.kind = 4 ∨ x.kind = 5 ∨ x.kind = 6 ∨ x.kind = 7 ∨ x.kind = 9 ∨ x.kind = 10 ∨ x.kind = 11) (hra : inR x.a) (g : Nat) (cap : Nat) (hav : av = .slice (some ⟨g, 0, none⟩) l.length cap) :
    Calls Tryz.prog 72 #[.pointer (some ⟨w.heap.size, 0, none⟩), .pointer (some ⟨g, k * 4, none⟩), stpV x] W fun e W' => e = .returned (.bool true) ∧ DInv w (i + 1) W' := by
  obtain ⟨g', cap', hv, hg, D⟩ := h.duo hk
  rw [hav] at hv
  cases hv
  have hnd : ¬ ownQ w W o (2 * k + 2) w.heap.size := fun h => by have := h.2.1; omega
  have hne : ¬ ownQ w W o (2 * k + 3) w.heap.size := fun h => by have := h.2.1; omega
  have hgw : w.heap.size ≠ g := by have := hg.2.1; omega
  have hlt := lt_of_heap' h.row
  have fin1 : ∀ W', Leaves2 w W i g (k * 4) l[k].bd l[k].be (ownQ w W o (2 * k + 2)) (ownQ w W o (2 * k + 3)) W' → Same (fun g => ownQ w W o (2 * k + 2) g ∨ ownQ w W o (2 * k + 3) g) W W' → DInv w (i + 1) W' := fun W' hL hs => by
    refine h.turn hk (k * 4) hL (hs.weak (fun g h => h.elim .inl (fun h => .inr (.inl h)))) ?_ (.inl ⟨rfl, rfl⟩) h.lo h.hi
    rw [hs.block _ hlt (by rintro (h | h); exact hnd h; exact hne h)]
    exact h.row
  have fin2 : ∀ W', Duo w W' i g (k * 4) l[k].bd l[k].be l[k].m (ownQ w W o (2 * k + 2)) (ownQ w W o (2 * k + 3)) l[k].d l[k].r → Same (ownQ w W o (2 * k + 2)) W W' → DInv w (i + 1) W' := fun W' hL hs => fin1 W' hL.leaves (hs.weak (fun _ h => .inl h))
  rcases hx with hx | hx | hx | hx | hx | hx | hx
  · refine (ldisk_read w W a S0 i w.heap.size g (k * 4) _ _ _ _ _ _ _ x hx hra D).mono ?_
    rintro e W' ⟨rfl, h1, h2⟩
    exact ⟨rfl, fin2 W' h1 h2⟩
  · refine (ldisk_write w W a S0 i w.heap.size g (k * 4) _ _ _ _ _ _ _ x hx D (by omega)).mono ?_
    rintro e W' ⟨rfl, h1, h2⟩
    exact ⟨rfl, fin1 W' h1 h2⟩
  · refine (ldisk_flush w W a S0 i w.heap.size g (k * 4) _ _ _ _ _ _ _ x hx D (by omega)).mono ?_
    rintro e W' ⟨rfl, h1, h2⟩
    exact ⟨rfl, fin1 W' h1 h2⟩
  · refine (ldisk_fuse w W i w.heap.size g (k * 4) _ _ _ _ _ _ _ x hx hra D).mono ?_
    rintro e W' ⟨rfl, h1, h2⟩
    exact ⟨rfl, fin1 W' h1 h2⟩
  · have hkl := h.kl
    refine (ldisk_crash w W i w.heap.size g (k * 4) _ _ _ _ _ _ _ x kv ks _ _ hx D (by omega) h.row rfl h.keep.1 (by omega) (fun q hq => ?_) ⟨Nat.le_refl _, hnd, hne, hgw⟩).mono ?_
    · have h0 := h.keep.2 q hq
      exact ⟨fun h1 => by have := h0.1; have := h1.1; omega, fun h1 => by have := h0.1; have := h1.1; omega⟩
    · rintro e W' ⟨rfl, h1, h2, h3⟩
      exact ⟨rfl, h.turn hk (k * 4) h1 h2 h3 (.inr ⟨rfl, rfl⟩) h.lo h.hi⟩
  · refine (ldisk_waiting w W i w.heap.size g (k * 4) _ _ _ _ _ _ _ x hx D).mono ?_
    rintro e W' ⟨rfl, h1, h2⟩
    exact ⟨rfl, fin2 W' h1 h2⟩
  · have hhi := h.hi
    have hsz := D.rel.size.2
    refine (ldisk_image w W a S0 i w.heap.size g (k * 4) _ _ _ _ _ _ _ x left _ _ hx D h.row rfl (by omega) (by omega) ⟨Nat.le_refl _, hnd, hne, hgw⟩).mono ?_
    rintro e W' ⟨rfl, h1, h2, h3⟩
    exact ⟨rfl, h.turn hk (k * 4) h1.leaves (h2.weak (fun g h => h.elim .inl (fun h => .inr (.inr h)))) h3 (.inl ⟨rfl, rfl⟩) (by omega) (by omega)⟩
end Go.Proofs.YtapijhhmjjplmaaGreatDoor
namespace Go.Proofs.YtapijhhmjjplmaaGreatDoor
open Go.RowKit Go.Maps

theorem DInvV.left {w W : World} {i b : Nat} {kv av : Value} {ks : List Int} {l : List PairD} {left : Int} {o : Nat → Nat} (h : DInvV w i W b kv ks av l left o) : W.cell? ⟨w.heap.size, 5, none⟩ = some (.int .i64 left) := by
  rw [cell_of_row _ _ _ _ _ _ h.row]; rfl

set_option maxRecDepth 100000 in
set_option maxHeartbeats 4000000 in
theorem step_pair (w W : World) (a : Nat → Addr) (S0 : Sent w a) (i : Nat) (hi : i ≤ 300000) (x : Stp) (hx : x.kind = 4 ∨ x.kind = 5 ∨ x.kind = 6 ∨ x.kind = 7 ∨ x.kind = 9 ∨ x.kind = 10 ∨ x.kind = 11) (hra : inR x.a) (hrd : inR x.d) (I : DInv w i W)
    (hL : ∃ n : Int, 0 < n ∧ W.cell? ⟨w.heap.size, 5, none⟩ = some (.int .i64 n)) :
    Calls Tryz.prog 41 #[.pointer (some ⟨w.heap.size, 0, none⟩), stpV x] W fun e W' => e = .returned (.bool true) ∧ DInv w (i + 1) W' := by
  obtain ⟨b, kv, ks, av, l, left, o, I⟩ := I
  have hl0 : 0 < left := by
    obtain ⟨n, h1, h2⟩ := hL
    rw [I.left] at h2
    cases h2
    exact h1
  have HD : Hid (∀ V, Below W.heap.size W V → ∀ k, k < l.length → ∀ g cap, av = .slice (some ⟨g, 0, none⟩) l.length cap → Calls Tryz.prog 72 #[.pointer (some ⟨w.heap.size, 0, none⟩), .pointer (some ⟨g, k * 4, none⟩), stpV x] V fun e W' => e = .returned (.bool true) ∧ Hid (DInv w (i + 1) W')) := fun V hV k hk g cap hav => ldisk_any S0 (I.mono hV) hk hi hl0 x hx hra g cap hav
  obtain ⟨kd, xa, xb, xd, xs, xt⟩ := x
  simp only at hx hrd
  obtain ⟨W1, hW1⟩ : ∃ W1, W1 = W.alloc (.cells #[.int .i64 kd, .int .i64 xa, .int .i64 xb, .int .i64 xd, .string xs, .string xt] 67) := ⟨_, rfl⟩
  have hb1 : Below W.heap.size W W1 := by rw [hW1]; exact (Below.refl _ _).alloc (Nat.le_refl _) _
  have I1 := I.mono hb1
  have c2 : W1.cell? ⟨w.heap.size, 2, none⟩ = some av := by rw [cell_of_row _ _ _ _ _ _ I1.row]; rfl
  have d3 : W1.cell? ⟨W.heap.size, 3, none⟩ = some (.int .i64 xd) := by rw [hW1]; simp
  have d0 : W1.cell? ⟨W.heap.size, 0, none⟩ = some (.int .i64 kd) := by rw [hW1]; simp
  have d1 : W1.cell? ⟨W.heap.size, 1, none⟩ = some (.int .i64 xa) := by rw [hW1]; simp
  have d2 : W1.cell? ⟨W.heap.size, 2, none⟩ = some (.int .i64 xb) := by rw [hW1]; simp
  have d4 : W1.cell? ⟨W.heap.size, 4, none⟩ = some (.string xs) := by rw [hW1]; simp
  have d5 : W1.cell? ⟨W.heap.size, 5, none⟩ = some (.string xt) := by rw [hW1]; simp
  by_cases h0 : l.length = 0
  · obtain ⟨ao, c, rfl⟩ := own_shape I1.all
    rw [h0] at c2
    have HF : Hid (DInv w (i + 1) W1) := ⟨b, kv, ks, _, l, left, o, I1.succ⟩
    clear I1 I hL HD hb1 d3 d0 d1 d2 d4 d5 hrd hra
    rw [hW1] at c2 HF
    clear hW1
    rcases hx with rfl | rfl | rfl | rfl | rfl | rfl | rfl
    all_goals
      go_enter Tryz.func41, Tryz.ntmps41
      go_wp2
      go_ret
      exact ⟨rfl, HF.out⟩
  · obtain ⟨g, cap, hav, -, -⟩ := I1.duo (k := 0) (by omega)
    have hn := I.al
    obtain ⟨n, hn'⟩ : ∃ n, n = l.length := ⟨_, rfl⟩
    have HP : Hid (∀ V, Calls Tryz.prog 71 #[.int .i64 xd, .int .i64 (n : Int)] V fun e w' => (∃ k : Nat, k < n ∧ e = .returned (.int .i64 (k : Int))) ∧ V = w') := fun V => pick_any xd n V hrd (by omega) (by omega)
    have HE : Hid (∀ k, k < n → Calls Tryz.prog 72 #[.pointer (some ⟨w.heap.size, 0, none⟩), .pointer (some ⟨g, k * 4, none⟩), .agg #[.int .i64 kd, .int .i64 xa, .int .i64 xb, .int .i64 xd, .string xs, .string xt]] W1.drew fun e W' => e = .returned (.bool true) ∧ Hid (DInv w (i + 1) W')) := fun k hk => HD.out W1.drew hb1.drew k (by omega) g cap hav
    rw [hav, ← hn'] at c2
    have hn0 : ((n : Int) == 0) = false := by simp; omega
    have hnb : (n : Int) ≤ 300000 := by omega
    clear I1 I hL HD hb1 hrd hra hav hn' h0 hn
    rcases hx with rfl | rfl | rfl | rfl | rfl | rfl | rfl
    all_goals
      go_enter Tryz.func41, Tryz.ntmps41
      rw [hW1] at c2
      go_wp2
      rw [← hW1] at c2 ⊢
      clear hW1
      go_region_held3 (fun w' => w'.cell? ⟨w.heap.size, 2, none⟩ = some (.slice (some ⟨g, 0, none⟩) n cap) ∧ w'.cell? ⟨W.heap.size, 3, none⟩ = some (.int .i64 xd)) (((repeat' constructor) <;> first | assumption | (rw [World.cell?_drew]; assumption))) (first | (go_at_call 71; refine (HP.out _).mono ?_; rintro e w' ⟨⟨k, hk, rfl⟩, rfl⟩; have hk0 : (0 : Int) ≤ k := Int.natCast_nonneg k; have hk1 : (k : Int) < n := Int.ofNat_lt.2 hk))
      go_wp2_with (go_at_call 72; refine (HE.out k hk).mono ?_; rintro e W3 ⟨rfl, H3⟩)
      go_ret
      exact ⟨rfl, H3.out⟩
end Go.Proofs.YtapijhhmjjplmaaGreatDoor
namespace Go.Proofs.YtapijhhmjjplmaaGreatDoor
open Go.RowKit Go.Maps

theorem DInvV.keepOn {w W W' : World} {i b : Nat} {kv kv' av : Value} {ks ks' : List Int} {l : List PairD} {left : Int} {o : Nat → Nat} (h : DInvV w i W b kv ks av l left o) (hs : Same (fun g => kv.ownBlock = some g ∨ g = w.heap.size) W W')
    (hrow : W'.heap[w.heap.size]? = some (.cells (dRow b kv' av left) 73 (0, 0))) (hk : W'.ownsRow 0 3 1 kv' ks'.length (kints ks')) (hb : ∀ g, kv'.ownBlock = some g → kv.ownBlock = some g ∨ (W.heap.size ≤ g ∧ g < W'.heap.size)) (hl : ks'.length ≤ i + 1) : DInv w (i + 1) W' := by
  obtain ⟨o', ho'⟩ : ∃ o' : Nat → Nat, o' = fun g => if g < W.heap.size then o g else 0 := ⟨_, rfl⟩
  have hz := hs.size
  have hlt := lt_of_heap' h.row
  have far : ∀ q g, ownQ w W o q g → q ≠ 0 → ¬ (kv.ownBlock = some g ∨ g = w.heap.size) := by
    rintro q g ⟨h1, h2, h3⟩ n1 (e | e)
    · have := (h.keep.2 g e).1; omega
    · omega
  have up : ∀ q g, ownQ w W o q g → ownQ w W' o' q g := fun q g hq => ⟨by rw [ho']; show (if _ then _ else _) = _; rw [if_pos hq.2.2]; exact hq.1, hq.2.1, by have := hq.2.2; omega⟩
  have hal := h.al
  refine ⟨b, kv', ks', av, l, left, o', h.below.trans (hs.below ?_ h.below.size), hrow, ⟨hk, fun g hg => ?_⟩, hl, (h.all.on hs (fun g hg => far 1 g (h.all.2 g hg) (by omega))).mono (up 1), by omega, fun k hk => ?_, h.lo, h.hi⟩
  · rintro g (hg | rfl)
    · have := (h.keep.2 g hg).2.1; omega
    · exact Nat.le_refl _
  · rcases hb g hg with h1 | ⟨h1, h2⟩
    · exact up 0 g (h.keep.2 g h1)
    · exact ⟨by rw [ho']; show (if _ then _ else _) = _; rw [if_neg (by omega)], by omega, h2⟩
  · have h1 := h.each k hk
    have hwl := h1.wl
    have hml := h1.ml
    exact ⟨(h1.dsk.on hs (fun g hg => far _ g hg (by omega))).mono (up _), (h1.ref.on hs (fun g hg => far _ g hg (by omega))).mono (up _), h1.rel, by omega, by omega⟩

set_option maxRecDepth 100000 in
set_option maxHeartbeats 2000000 in
theorem step_keep (w W : World) (i : Nat) (hi : i ≤ 300000) (x : Stp) (hx : x.kind = 8) (I : DInv w i W) :
    Calls Tryz.prog 41 #[.pointer (some ⟨w.heap.size, 0, none⟩), stpV x] W fun e W' => e = .returned (.bool true) ∧ DInv w (i + 1) W' := by
  obtain ⟨b, kv, ks, av, l, left, o, I⟩ := I
  obtain ⟨kd, xa, xb, xd, xs, xt⟩ := x
  simp only at hx
  subst hx
  obtain ⟨W1, hW1⟩ : ∃ W1, W1 = W.alloc (.cells #[.int .i64 8, .int .i64 xa, .int .i64 xb, .int .i64 xd, .string xs, .string xt] 67) := ⟨_, rfl⟩
  have hb1 : Below W.heap.size W W1 := by rw [hW1]; exact (Below.refl _ _).alloc (Nat.le_refl _) _
  have I1 := I.mono hb1
  have c1 : W1.cell? ⟨w.heap.size, 1, none⟩ = some kv := by rw [cell_of_row _ _ _ _ _ _ I1.row]; rfl
  have d1 : W1.cell? ⟨W.heap.size, 1, none⟩ = some (.int .i64 xa) := by rw [hW1]; simp
  obtain ⟨ii, hii, hz0, hz1, hz2⟩ := info_parts infoInt
  have HI : Hid (DInvV w i W1 b kv ks av l left o) := I1
  have HL : Hid (ks.length ≤ i) := I1.kl
  have HKV : Hid (W1.ownsRow 0 3 1 kv ks.length (kints ks)) := I1.keep.1
  have HFIN : Hid (∀ g cap W3, W3.ownsRow 0 3 1 (.slice (some ⟨g, 0, none⟩) (ks.length + 1) cap) (ks.length + 1) (kints ks ++ [.int .i64 xa]) → (W1.alloc (.cells #[.int .i64 xa] 3)).drew.grownBy W3 kv.ownBlock → (kv.ownBlock = some g ∨ g = W1.heap.size + 1) → g < W3.heap.size →
      W3.heap[w.heap.size]? = some (.cells (dRow b kv av left) 73 (0, 0)) ∧ DInv w (i + 1) (W3.setCell ⟨w.heap.size, 1, none⟩ (.slice (some ⟨g, 0, none⟩) (ks.length + 1) cap))) := fun g cap W3 ho hg hat hlt => by
    have hlw := lt_of_heap' HI.out.row
    have hkw : ∀ q, kv.ownBlock = some q → q ≠ w.heap.size := fun q hq => by have := (HI.out.keep.2 q hq).2.1; omega
    have hbe : W3.heap[w.heap.size]? = some (.cells (dRow b kv av left) 73 (0, 0)) := by
      rw [hg.block _ (by simp; omega) (fun e => hkw _ e.symm rfl)]
      show (W1.alloc _).heap[_]? = _
      rw [Below.heap_alloc _ _ _ hlw]
      exact HI.out.row
    have hgw : g ≠ w.heap.size := by
      rcases hat with h | h
      · exact hkw g h
      · omega
    refine ⟨hbe, HI.out.keepOn (kv' := .slice (some ⟨g, 0, none⟩) (ks.length + 1) cap) (ks' := ks ++ [xa]) ⟨?_, ?_, ?_, ?_, fun q hq hn => ?_⟩ ?_ ?_ ?_ ?_⟩
    · rw [show (W3.setCell _ _).os = W3.os from rfl, hg.os]; rfl
    · rw [show (W3.setCell _ _).tape = W3.tape from rfl, hg.tape]; rfl
    · rw [show (W3.setCell _ _).output = W3.output from rfl, hg.output]; rfl
    · have := hg.size; simp at this ⊢; omega
    · rw [heap_setCell_other _ _ _ _ (fun e => hn (.inr e)), hg.block q (by simp; omega) (fun e => hn (.inl e.symm))]
      show (W1.alloc _).heap[_]? = _
      rw [Below.heap_alloc _ _ _ hq]
    · rw [heap_setCell_same W3 _ 1 _ _ _ hbe]; rfl
    · have e : kints (ks ++ [xa]) = kints ks ++ [.int .i64 xa] := by simp [kints]
      have e2 : (ks ++ [xa]).length = ks.length + 1 := by simp
      rw [e, e2]
      refine own_heap ho (fun q hq => ?_)
      cases hq
      exact heap_setCell_other _ _ _ _ hgw
    · intro q hq
      cases hq
      rcases hat with h | h
      · exact .inl h
      · exact .inr ⟨by show W1.heap.size ≤ g; omega, by simpa using hlt⟩
    · have := HL.out
      simp
      exact this
  have c1a : (W1.alloc (.cells #[.int .i64 xa] 3)).cell? ⟨w.heap.size, 1, none⟩ = some kv := by rw [World.cell?_alloc_some _ _ _ (by rw [c1]; rfl)]; exact c1
  clear I1 I hb1
  go_enter Tryz.func41, Tryz.ntmps41
  go_wp2
  rw [← hW1]
  clear hW1
  go_region_law (first | (refine step_append_lies _ rfl _ _ 34 rfl 0 3 ii (.int .i64 0) 1 8 Tryz.underlying34 hii hz0 hz1 hz2 rfl (by decide) kv ks.length (kints ks) rfl (World.ownsRow.alloc (w := W1) HKV.out _) ⟨W1.heap.size, 0, none⟩ 1 1 [.int .i64 xa] rfl rfl (fun j u hj => cell_one_new W1 _ _ j u hj) (by intro u hu; rw [List.mem_singleton] at hu; subst hu; rfl) (by decide) (by have := HL.out; unfold maxLen; omega) (by have := HL.out; omega) (by omega) (W1.heap.size + 1) (by simp) ?_; intro g cap W3 hown hgrow hat hlt; have hfin := HFIN.out g cap W3 hown hgrow hat hlt; have k3 : W3.cell? ⟨w.heap.size, 1, none⟩ = some kv := cell_of_row _ _ _ _ _ _ hfin.1; have f3 := frozen_of_row W3 w.heap.size 1 _ _ hfin.1; have HG : Hid (DInv w (i + 1) (W3.setCell ⟨w.heap.size, 1, none⟩ (.slice (some ⟨g, 0, none⟩) (ks.length + 1) cap))) := hfin.2; clear hfin hown hgrow hat hlt))
  all_goals
    go_wp2
    go_ret
    exact ⟨rfl, HG.out⟩
end Go.Proofs.YtapijhhmjjplmaaGreatDoor
