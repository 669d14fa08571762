/- OWN TEXT: plain's Read, Write, Flush, Crash of a disk. -/
import Derived.Test.YtphhmjcobmnpeaaGreatDoorDRel
import Derived.Test.YtphhmjcobmnpeaaGreatDoorNumber
namespace Go.Proofs.YtphhmjcobmnpeaaGreatDoor
open Go.RowKit Go.Maps

theorem number_nil (w : World) : Calls Tryz.prog 19 #[.nilIface] w fun e w' => e = .returned (.tuple #[.int .i64 0, .int .i64 (-1)]) ∧ w = w' := by
  go_enter Tryz.func19, Tryz.ntmps19
  go_wp2
  go_ret2
  exact ⟨rfl, rfl⟩

/-- The number of what a disk's operation tells. -/
def errV (a : Nat → Addr) (n : Nat) : Value := if n = 0 then .nilIface else rv (a (n - 1))
theorem number_of (n : Nat) (hn : n ≤ 12) (a : Nat → Addr) (w : World) (S : Sent w a) :
    Calls Tryz.prog 19 #[errV a n] w fun e w' => e = .returned (.tuple #[.int .i64 (n : Int), .int .i64 (-1)]) ∧ Below w.heap.size w w' := by
  unfold errV
  split
  · subst n
    refine (number_nil w).mono ?_
    rintro e w' ⟨rfl, rfl⟩
    exact ⟨rfl, Below.refl _ _⟩
  · have h := number_bare (n - 1) (by omega) a w S
    have e : ((n - 1 : Nat) : Int) + 1 = (n : Int) := by omega
    rw [e] at h
    exact h
/-- What may be written. -/
def okW (n : Nat) (at_ : Int) (s : ByteArray) : Bool := decide (0 ≤ at_ ∧ at_ < n ∧ s.size = 64)
def Dsk.wcode (d : Dsk) (at_ : Int) (s : ByteArray) : Nat := if okW d.safe.length at_ s then (if d.op.down then 2 else 0) else 1
def Dsk.writeAny (d : Dsk) (at_ : Int) (s : ByteArray) : Dsk := if okW d.safe.length at_ s then d.write at_.toNat s else d
def Dsk.fcode (d : Dsk) : Nat := if d.op.down then 2 else 0
theorem okW_spec {n : Nat} {at_ : Int} {s : ByteArray} (h : okW n at_ s = true) : 0 ≤ at_ ∧ at_ < n ∧ s.size = 64 := of_decide_eq_true h
theorem okW_not {n : Nat} {at_ : Int} {s : ByteArray} (h : okW n at_ s = false) : ¬ (0 ≤ at_ ∧ at_ < n ∧ s.size = 64) := of_decide_eq_false h

theorem dsk_read_bad2 (bd m : Nat) (S : Nat → Prop) (d : Dsk) (at_ : Int) (ev : Value) (w : World) (h : DskAt w S bd m d) (hE : w.cell? ⟨0, 0, none⟩ = some ev) (hbad : ¬ (0 ≤ at_ ∧ at_ < d.safe.length)) :
    Calls Tryz.prog 98 #[.pointer (some ⟨bd, 0, none⟩), .int .i64 at_] w fun e w' => e = .returned (.tuple #[.string ⟨#[]⟩, ev]) ∧ Same (fun _ => False) w w' := by
  have HH : Hid (Calls Tryz.prog 99 #[.pointer (some ⟨bd, 0, none⟩), .int .i64 at_] w fun e w' => e = .returned (.bool false) ∧ w = w') := by
    have h1 := dsk_has bd m S d at_ w h
    have e : (decide (0 ≤ at_) && decide (at_ < d.safe.length)) = false := by
      rw [Bool.and_eq_false_iff, decide_eq_false_iff_not, decide_eq_false_iff_not]
      omega
    rw [e] at h1
    exact h1
  have hnot : ∀ (x : Bool) (w : World), (Op.unary .not (.bool x)).run Tryz.prog w = .ok (.bool (!x)) w := fun _ _ => rfl
  clear h hbad
  go_enter_defers Tryz.func98, Tryz.ntmps98
  go_wp2_with fail
  refine HH.out.mono ?_
  rintro e w' ⟨rfl, rfl⟩
  go_wp2
  go_region
  all_goals
    go_wp2
    refine ⟨_, results_tmp2 rfl _ _ _, rfl, (Same.refl (fun _ => False) w).drew⟩


section
variable (w0 : World) (a : Nat → Addr) (S0 : Sent w0 a) (bd m : Nat) (S : Nat → Prop) (d : Dsk) (w : World)

include S0 in
theorem wrote (at_ : Int) (s : ByteArray) (h : DskAt w S bd m d) (hb : Below w0.heap.size w0 w) (hS : ∀ g, S g → w0.heap.size ≤ g) (hSl : ∀ g, S g → g < w.heap.size) (hf : d.fuse ≤ 9223372036854775807) (hwl : d.wait.length ≤ 1000000) (hm : m ≤ 1000000) (hn : d.safe.length ≤ 4096) :
    Calls Tryz.prog 44 #[.pointer (some ⟨bd, 0, none⟩), .int .i64 at_, .string s] w fun e w' => e = .returned (errV a (d.wcode at_ s)) ∧ (∃ m', m' ≤ m + 1 ∧ DskAt w' (fun g => S g ∨ w.heap.size ≤ g) bd m' (d.writeAny at_ s)) ∧ Same S w w' := by
  have Sw := S0.on hb
  have hG : ¬ S 1 := fun h => by
    have h1 := hS _ h
    have h2 := cell_lt S0.v1
    exact absurd h2 (by show ¬ 1 < _; omega)
  unfold Dsk.wcode Dsk.writeAny
  cases hok : okW d.safe.length at_ s
  · refine (dsk_write_bad bd m S d at_ s _ w h Sw.v0 (okW_not hok)).mono ?_
    rintro e w' ⟨rfl, h', s'⟩
    exact ⟨rfl, ⟨m, Nat.le_succ _, h'.mono (fun _ h => .inl h)⟩, s'⟩
  · obtain ⟨h1, h2, h3⟩ := okW_spec hok
    obtain ⟨k, rfl⟩ : ∃ k : Nat, at_ = k := ⟨at_.toNat, by omega⟩
    refine (dsk_write bd m S d k s _ w h Sw.v1 hG hf (by omega) h3 hwl hm hn hSl).mono ?_
    rintro e w' ⟨rfl, h', s'⟩
    refine ⟨?_, h', s'⟩
    cases d.op.down <;> rfl

/-- What a call of the disk leaves, behind number too. -/
theorem after {S T : Nat → Prop} {w w1 w2 : World} {bd m : Nat} {d : Dsk} (h : DskAt w1 T bd m d) (s : Same S w w1) (hb : Below w1.heap.size w1 w2) : DskAt w2 T bd m d ∧ Same S w w2 :=
  ⟨h.on (below_same (fun _ => False) hb) (fun _ _ h => h), s.trans (below_same S hb)⟩

include S0 in
theorem plain_write (at_ : Int) (s : ByteArray) (h : DskAt w S bd m d) (hb : Below w0.heap.size w0 w) (hS : ∀ g, S g → w0.heap.size ≤ g) (hSl : ∀ g, S g → g < w.heap.size) (hf : d.fuse ≤ 9223372036854775807) (hwl : d.wait.length ≤ 1000000) (hm : m ≤ 1000000) (hn : d.safe.length ≤ 4096) :
    Calls Tryz.prog 62 #[.pointer (some ⟨bd, 0, none⟩), .int .i64 at_, .string s] w fun e w' => e = .returned (.int .i64 (d.wcode at_ s : Nat)) ∧ (∃ m', m' ≤ m + 1 ∧ DskAt w' (fun g => S g ∨ w.heap.size ≤ g) bd m' (d.writeAny at_ s)) ∧ Same S w w' := by
  have HW : Hid (Calls Tryz.prog 44 #[.pointer (some ⟨bd, 0, none⟩), .int .i64 at_, .string s] w fun e w' => e = .returned (errV a (d.wcode at_ s)) ∧ (∃ m', m' ≤ m + 1 ∧ DskAt w' (fun g => S g ∨ w.heap.size ≤ g) bd m' (d.writeAny at_ s)) ∧ Same S w w') := wrote w0 a S0 bd m S d w at_ s h hb hS hSl hf hwl hm hn
  obtain ⟨c, hc⟩ : ∃ c, c = d.wcode at_ s := ⟨_, rfl⟩
  have hc12 : c ≤ 12 := by rw [hc]; unfold Dsk.wcode; split; split <;> omega; omega
  rw [← hc] at HW ⊢
  obtain ⟨v, hv⟩ : ∃ v, v = errV a c := ⟨_, rfl⟩
  rw [← hv] at HW
  have HN : Hid (∀ w', Same S w w' → Calls Tryz.prog 19 #[v] w' fun e w2 => e = .returned (.tuple #[.int .i64 (c : Int), .int .i64 (-1)]) ∧ Below w'.heap.size w' w2) := fun w' s' => by
    rw [hv]
    exact number_of c hc12 a w' (S0.on (hb.trans (s'.below hS hb.size)))
  clear hc hv h hf hwl hm hn hc12
  go_enter Tryz.func62, Tryz.ntmps62
  go_wp2_with (first | (go_at_call 44; refine HW.out.mono ?_; rintro e w1 ⟨rfl, H1, S1⟩; have HH1 : Hid (∃ m', m' ≤ m + 1 ∧ DskAt w1 (fun g => S g ∨ w.heap.size ≤ g) bd m' (d.writeAny at_ s)) := H1; have HS1 : Hid (Same S w w1) := S1; clear H1 S1) | (go_at_call 19; refine (HN.out w1 HS1.out).mono ?_; rintro e w2 ⟨rfl, B2⟩; have HB2 : Hid (Below w1.heap.size w1 w2) := B2; clear B2))
  go_ret
  obtain ⟨m', hm', h'⟩ := HH1.out
  obtain ⟨h2, s2⟩ := after h' HS1.out HB2.out
  exact ⟨rfl, ⟨m', hm', h2⟩, s2⟩

include S0 in
theorem plain_flush (h : DskAt w S bd m d) (hb : Below w0.heap.size w0 w) (hS : ∀ g, S g → w0.heap.size ≤ g) (hSl : ∀ g, S g → g < w.heap.size) (hf : d.fuse ≤ 9223372036854775807) (hwl : d.wait.length ≤ 1000000) (hn : d.safe.length ≤ 4096) :
    Calls Tryz.prog 64 #[.pointer (some ⟨bd, 0, none⟩)] w fun e w' => e = .returned (.int .i64 (d.fcode : Nat)) ∧ DskAt w' S bd m d.flush ∧ Same S w w' := by
  have hG : ¬ S 1 := fun h => by
    have h1 := hS _ h
    have h2 := cell_lt S0.v1
    exact absurd h2 (by show ¬ 1 < _; omega)
  have hF := dsk_flush bd m S d _ w h (S0.on hb).v1 hG hf hwl hn hSl
  have e : (if d.op.down then rv (a 1) else Value.nilIface) = errV a d.fcode := by unfold Dsk.fcode; cases d.op.down <;> rfl
  rw [e] at hF
  obtain ⟨c, hc⟩ : ∃ c, c = d.fcode := ⟨_, rfl⟩
  have hc12 : c ≤ 12 := by rw [hc]; unfold Dsk.fcode; split <;> omega
  rw [← hc] at hF ⊢
  obtain ⟨v, hv⟩ : ∃ v, v = errV a c := ⟨_, rfl⟩
  rw [← hv] at hF
  have HW : Hid (Calls Tryz.prog 46 #[.pointer (some ⟨bd, 0, none⟩)] w fun e w' => e = .returned v ∧ DskAt w' S bd m d.flush ∧ Same S w w') := hF
  have HN : Hid (∀ w', Same S w w' → Calls Tryz.prog 19 #[v] w' fun e w2 => e = .returned (.tuple #[.int .i64 (c : Int), .int .i64 (-1)]) ∧ Below w'.heap.size w' w2) := fun w' s' => by
    rw [hv]
    exact number_of c hc12 a w' (S0.on (hb.trans (s'.below hS hb.size)))
  clear hc hv h hf hwl hn hc12 hF e
  go_enter Tryz.func64, Tryz.ntmps64
  go_wp2_with (first | (go_at_call 46; refine HW.out.mono ?_; rintro e w1 ⟨rfl, H1, S1⟩; have HH1 : Hid (DskAt w1 S bd m d.flush) := H1; have HS1 : Hid (Same S w w1) := S1; clear H1 S1) | (go_at_call 19; refine (HN.out w1 HS1.out).mono ?_; rintro e w2 ⟨rfl, B2⟩; have HB2 : Hid (Below w1.heap.size w1 w2) := B2; clear B2))
  go_ret
  obtain ⟨h2, s2⟩ := after HH1.out HS1.out HB2.out
  exact ⟨rfl, h2, s2⟩

def Dsk.rd (d : Dsk) (at_ : Int) : ByteArray := if h : 0 ≤ at_ ∧ at_ < d.safe.length then d.at at_.toNat (by omega) else ⟨#[]⟩
def Dsk.rcode (d : Dsk) (at_ : Int) : Nat := if 0 ≤ at_ ∧ at_ < d.safe.length then 0 else 1
include S0 in
theorem plain_read (at_ : Int) (h : DskAt w S bd m d) (hb : Below w0.heap.size w0 w) (hS : ∀ g, S g → w0.heap.size ≤ g) (hn : d.safe.length ≤ 4096) :
    Calls Tryz.prog 60 #[.pointer (some ⟨bd, 0, none⟩), .int .i64 at_] w fun e w' => e = .returned (.tuple #[.string (d.rd at_), .int .i64 (d.rcode at_ : Nat)]) ∧ DskAt w' S bd m d ∧ Same S w w' := by
  have hF : Calls Tryz.prog 98 #[.pointer (some ⟨bd, 0, none⟩), .int .i64 at_] w fun e w' => e = .returned (.tuple #[.string (d.rd at_), errV a (d.rcode at_)]) ∧ DskAt w' S bd m d ∧ Same S w w' := by
    by_cases hk : 0 ≤ at_ ∧ at_ < d.safe.length
    · have e1 : d.rd at_ = d.at at_.toNat (by omega) := by unfold Dsk.rd; rw [dif_pos hk]
      have e2 : d.rcode at_ = 0 := by unfold Dsk.rcode; rw [if_pos hk]
      rw [e1, e2]
      have h1 := dsk_read bd m S d at_.toNat w h (by omega) hn
      rw [show ((at_.toNat : Nat) : Int) = at_ by omega] at h1
      exact h1
    · have e1 : d.rd at_ = ⟨#[]⟩ := by unfold Dsk.rd; rw [dif_neg hk]
      have e2 : d.rcode at_ = 1 := by unfold Dsk.rcode; rw [if_neg hk]
      rw [e1, e2]
      refine (dsk_read_bad2 bd m S d at_ _ w h (S0.on hb).v0 hk).mono ?_
      rintro e w' ⟨rfl, s'⟩
      exact ⟨rfl, h.on s' (fun _ _ h => h), s'.weak (fun _ h => h.elim)⟩
  obtain ⟨c, hc⟩ : ∃ c, c = d.rcode at_ := ⟨_, rfl⟩
  have hc12 : c ≤ 12 := by rw [hc]; unfold Dsk.rcode; split <;> omega
  rw [← hc] at hF ⊢
  obtain ⟨v, hv⟩ : ∃ v, v = errV a c := ⟨_, rfl⟩
  obtain ⟨x, hx⟩ : ∃ x, x = d.rd at_ := ⟨_, rfl⟩
  rw [← hv, ← hx] at hF
  rw [← hx]
  have HW : Hid (Calls Tryz.prog 98 #[.pointer (some ⟨bd, 0, none⟩), .int .i64 at_] w fun e w' => e = .returned (.tuple #[.string x, v]) ∧ DskAt w' S bd m d ∧ Same S w w') := hF
  have HN : Hid (∀ w', Same S w w' → Calls Tryz.prog 19 #[v] w' fun e w2 => e = .returned (.tuple #[.int .i64 (c : Int), .int .i64 (-1)]) ∧ Below w'.heap.size w' w2) := fun w' s' => by
    rw [hv]
    exact number_of c hc12 a w' (S0.on (hb.trans (s'.below hS hb.size)))
  clear hc hv h hn hc12 hF hx
  go_enter Tryz.func60, Tryz.ntmps60
  go_wp2_with (first | (go_at_call 98; refine HW.out.mono ?_; rintro e w1 ⟨rfl, H1, S1⟩; have HH1 : Hid (DskAt w1 S bd m d) := H1; have HS1 : Hid (Same S w w1) := S1; clear H1 S1) | (go_at_call 19; refine (HN.out w1 HS1.out).mono ?_; rintro e w2 ⟨rfl, B2⟩; have HB2 : Hid (Below w1.heap.size w1 w2) := B2; clear B2))
  go_ret2
  obtain ⟨h2, s2⟩ := after HH1.out HS1.out HB2.out
  exact ⟨rfl, h2, s2⟩

theorem plain_crash (kv : Value) (ks : List Int) (h : DskAt w S bd m d) (hK : KeepAt w S kv ks) (hwl : d.wait.length ≤ 1000000) (hn : d.safe.length ≤ 4096) (hkl : ks.length ≤ 1000000) :
    Calls Tryz.prog 68 #[.pointer (some ⟨bd, 0, none⟩), kv] w fun e w' => e = .returned (.tuple #[]) ∧ DskAt w' S bd m { d with safe := keepAll d.wait d.safe ks, wait := [], fuse := 0, down := false } ∧ Same S w w' := by
  have HW : Hid (Calls Tryz.prog 124 #[.pointer (some ⟨bd, 0, none⟩), kv] w fun e w' => e = .returned (.tuple #[]) ∧ DskAt w' S bd m { d with safe := keepAll d.wait d.safe ks, wait := [], fuse := 0, down := false } ∧ Same S w w') := dsk_crash bd m S d kv ks w h hK hwl hn hkl
  clear h hK
  go_enter Tryz.func68, Tryz.ntmps68
  go_wp2_with (go_at_call 124; refine HW.out.mono ?_; rintro e w1 ⟨rfl, H1, S1⟩)
  go_end0
  exact ⟨rfl, H1, S1⟩
end
end Go.Proofs.YtphhmjcobmnpeaaGreatDoor
