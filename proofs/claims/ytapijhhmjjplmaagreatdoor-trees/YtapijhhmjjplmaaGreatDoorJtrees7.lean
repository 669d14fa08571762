/- OWN TEXT: joined of: PF2 TW4 PF3 PF4 PT8 PT9 TW5 PF5 PF6 PF7. -/
import Derived.BigQuiet
import Derived.Laws.ResultCell
import Derived.Test.YtapijhhmjjplmaaGreatDoorJtrees6
namespace Go.Proofs.YtapijhhmjjplmaaGreatDoor
open Go.RowKit Go.Maps
/-- What a call may own behind it: what it owned, and what is new. -/
def tg (S : Nat → Prop) (w wr : World) : Nat → Prop := fun g => up S w.heap.size g ∧ g < wr.heap.size
theorem Same.tg {S : Nat → Prop} {a b c : World} (h : Same S a b) (h' : Same (tg S a b) b c) : Same S a c := h.then (h'.weak fun _ h => h.1)
theorem DskAt.tg {S : Nat → Prop} {w wr : World} {bd m : Nat} {d : Dsk} (h : DskAt wr (up S w.heap.size) bd m d) : DskAt wr (tg S w wr) bd m d := h.tight
theorem tg_not {S : Nat → Prop} {w wr : World} {g : Nat} (h : ¬ S g) (hl : g < w.heap.size) : ¬ tg S w wr g := by
  rintro ⟨h1 | h1, -⟩
  · exact h h1
  · omega
/-- The state at the head of wipe's loop. -/
def WipeP (w : World) (S : Nat → Prop) (bd n from_ m : Nat) (d : Dsk) (i : Nat) (wr : World) : Prop :=
  ∃ di mi, DskAt wr (tg S w wr) bd mi di ∧ Same S w wr ∧ wipeD (n - i) i di = wipeD (n - from_) from_ d ∧ di.safe.length = n ∧ di.wait.length ≤ d.wait.length + (i - from_) ∧ mi ≤ m + (i - from_) ∧ di.fuse ≤ 9223372036854775807
set_option maxRecDepth 100000 in
set_option maxHeartbeats 2000000 in
theorem prog_wipe (bd m : Nat) (S : Nat → Prop) (d : Dsk) (n from_ : Nat) (p : Addr) (w : World) (h : DskAt w S bd m d) (hE : w.cell? ⟨1, 0, none⟩ = some (rv p)) (hG : ¬ S 1) (hf : d.fuse ≤ 9223372036854775807) (hn : 0 < n) (hb : n ≤ 4096) (h1 : d.safe.length = n) (hwl : d.wait.length ≤ 900000) (hm : m ≤ 900000) (hfr : from_ ≤ n) :
    Calls Tryz.prog 80 #[.pointer (some ⟨bd, 0, none⟩), .int .i64 (from_ : Int)] w fun e w' => e = .returned (if (wipeD (n - from_) from_ d).2 = 0 then .nilIface else rv p) ∧ (∃ m', m' ≤ m + n ∧ DskAt w' (tg S w w') bd m' (wipeD (n - from_) from_ d).1) ∧ Same S w w' := by
  have HZ : Hid (∀ w, Calls Tryz.prog 139 #[.string ⟨#[0]⟩, .int .i64 64] w fun e w' => e = .returned (.string z64) ∧ Below w.heap.size w w') := fun w => prog_repeat 64 (by omega) w
  have HI0 : Hid (∀ w', Below w.heap.size w w' → WipeP w S bd n from_ m d from_ w') := fun w' hb' => ⟨d, m, ((h.on (T := fun _ => False) (.of_below hb') (fun _ _ h => h)).mono (fun _ h => .inl h) : DskAt w' (up S w.heap.size) bd m d).tg, .of_below hb', rfl, h1, by omega, by omega, hf⟩
  have hz64 : z64.size = 64 := z64_size
  have HE : Hid (∀ wr, Same S w wr → wr.cell? ⟨1, 0, none⟩ = some (rv p)) := fun wr hs => hs.cell hG hE
  have hEl := block_lt_of_cell hE
  have HG : Hid (∀ wr, ¬ tg S w wr 1) := fun wr => tg_not hG hEl
  have HW : Hid (d.wait.length ≤ 900000 ∧ m ≤ 900000) := ⟨hwl, hm⟩
  have hbi : (n : Int) ≤ 4096 := by omega
  have hfi : (from_ : Int) ≤ n := by omega
  have hrv := rv_neq p
  have hnl : ∀ w, (binOp BinOp.neq 92 .nilIface .nilIface).run Tryz.prog w = .ok (.bool false) w := fun w => by rfl
  obtain ⟨z, hz⟩ : ∃ z, z = z64 := ⟨_, rfl⟩
  rw [← hz] at HZ hz64
  have HZZ : Hid (z = z64) := hz
  obtain ⟨ov, hov⟩ : ∃ ov, ov = if (wipeD (n - from_) from_ d).2 = 0 then .nilIface else (rv p) := ⟨_, rfl⟩
  rw [← hov]
  have HOV : Hid (ov = if (wipeD (n - from_) from_ d).2 = 0 then .nilIface else (rv p)) := hov
  clear hov h h1 hwl hm hz hE hG hEl hf
  go_enter Tryz.func80, Tryz.ntmps80
  go_wp2_with (go_at_call 139; refine (HZ.out _).mono ?_; rintro e w1 ⟨rfl, hb1⟩; have HI : Hid (WipeP w S bd n from_ m d from_ w1) := HI0.out _ hb1; clear hb1 HI0 HZ)
  go_loopw [6] (fun iv_ wr => ∃ i : Nat, from_ ≤ i ∧ i ≤ n ∧ iv_ = .int .i64 (i : Int) ∧ Hid (WipeP w S bd n from_ m d i wr)) (fun iv_ _ => n - (intOf iv_).toNat)
  case atStart => exact ⟨from_, by omega, hfr, rfl, HI⟩
  case round =>
    clear HI
    obtain ⟨i, hfi', hi, rfl, HV⟩ := hrel
    obtain ⟨di, mi, hri, hsr, hwi, hsn, hwt, hmi, hfu⟩ := HV.out
    have HSC : Hid (Calls Tryz.prog 62 #[.pointer (some ⟨bd, 0, none⟩)] wr fun e w' => e = .returned (.int .i64 (n : Int)) ∧ wr = w') := by
      have := dsk_sectors bd mi _ di wr hri
      rw [hsn] at this
      exact this
    have HRI : Hid (DskAt wr (tg S w wr) bd mi di ∧ Same S w wr ∧ wipeD (n - i) i di = wipeD (n - from_) from_ d ∧ di.safe.length = n ∧ di.wait.length ≤ d.wait.length + (i - from_) ∧ mi ≤ m + (i - from_) ∧ di.fuse ≤ 9223372036854775807) := ⟨hri, hsr, hwi, hsn, hwt, hmi, hfu⟩
    by_cases hlt : i < n
    · obtain ⟨x, hx⟩ : ∃ x, x = di.at i (by omega) := ⟨_, rfl⟩
      have HRD : Hid (Calls Tryz.prog 104 #[.pointer (some ⟨bd, 0, none⟩), .int .i64 (i : Int)] wr fun e w' => e = .returned (.tuple #[.string x, .nilIface]) ∧ DskAt w' (tg S w wr) bd mi di ∧ Same (tg S w wr) wr w') := by
        have := dsk_read bd mi (tg S w wr) di i wr hri (by omega) (by omega)
        rw [← hx] at this
        exact this
      have HXS : Hid ((applyAll di.wait di.safe)[i]? = some x) := by
        show _ = _
        rw [hx]
        exact at_seen _ _ _ _
      have HUN : Hid (n - i = (n - (i + 1)) + 1) := by show _ = _; omega
      have hlti : (i : Int) < n := by omega
      clear HV hri hsr hwi hsn hwt hmi hfu hx
      by_cases hxz : x = z
      · subst hxz
        have hne : (x.toList == x.toList) = true := by rw [str_beq, decide_eq_true_iff]
        go_wp2_with (first | (go_at_call 62; refine HSC.out.mono ?_; rintro e w2 ⟨rfl, rfl⟩; clear HSC) | (go_at_call 104; refine HRD.out.mono ?_; rintro e w2 ⟨rfl, hr2, hs2⟩; have HR2 : Hid (DskAt w2 (tg S w wr) bd mi di) := hr2; have HS2 : Hid (Same (tg S w wr) wr w2) := hs2; clear hr2 hs2 HRD))
        all_goals
          go_roundw
          case rel =>
            refine ⟨i + 1, by omega, by omega, by go_num, ?_⟩
            obtain ⟨HR, hsr, hwi, hsn, hwt, hmi, hfu⟩ := HRI.out
            refine ⟨di, mi, (HR2.out.mono (fun _ h => h.1) : DskAt w2 (up S w.heap.size) bd mi di).tg, hsr.tg HS2.out, ?_, hsn, by omega, by omega, hfu⟩
            rw [← hwi, HUN.out]
            conv => rhs; unfold wipeD
            rw [if_pos (by rw [HXS.out, HZZ.out])]
          case measure => (simp [intOf]; try omega)
      · have hne : (x.toList == z.toList) = false := by rw [str_beq, decide_eq_false_iff_not]; exact hxz
        have HWR : Hid (∀ w2, DskAt w2 (tg S w wr) bd mi di → Same (tg S w wr) wr w2 → Calls Tryz.prog 140 #[.pointer (some ⟨bd, 0, none⟩), .int .i64 (i : Int), .string z] w2 fun e w' => e = .returned (if di.op.down then (rv p) else .nilIface) ∧ (∃ m', m' ≤ mi + 1 ∧ DskAt w' (tg S w w') bd m' (di.write i z)) ∧ Same S w w') := by
          intro w2 hd2 hs2
          obtain ⟨HR, hsr, hwi, hsn, hwt, hmi, hfu⟩ := HRI.out
          have hs := hsr.tg hs2
          have hW := HW.out
          refine (dsk_write bd mi _ di i z (rv p) w2 hd2 (HE.out _ hs) (HG.out _) hfu (by omega) hz64 (by omega) (by omega) (by omega) (fun g hg => Nat.lt_of_lt_of_le hg.2 hs2.size)).mono ?_
          rintro e w3 ⟨rfl, ⟨m', hm', hd3⟩, hs3⟩
          refine ⟨rfl, ⟨m', hm', (hd3.mono ?_ : DskAt w3 (up S w.heap.size) bd m' _).tg⟩, hs.then (hs3.weak fun _ h => h.1)⟩
          rintro g (h | h)
          · exact h.1
          · exact .inr (Nat.le_trans hs.size h)
        have HXZ : Hid (x ≠ z) := hxz
        clear hxz
        cases hd : di.op.down
        · rw [hd] at HWR
          have HD : Hid (di.op.down = false) := hd
          have HWR' : Hid (∀ w2, DskAt w2 (tg S w wr) bd mi di → Same (tg S w wr) wr w2 → Calls Tryz.prog 140 #[.pointer (some ⟨bd, 0, none⟩), .int .i64 (i : Int), .string z] w2 fun e w' => e = .returned .nilIface ∧ (∃ m', m' ≤ mi + 1 ∧ DskAt w' (tg S w w') bd m' (di.write i z)) ∧ Same S w w') := HWR.out
          clear hd HWR
          go_wp2_with (first | (go_at_call 62; refine HSC.out.mono ?_; rintro e w2 ⟨rfl, rfl⟩; clear HSC) | (go_at_call 104; refine HRD.out.mono ?_; rintro e w2 ⟨rfl, hr2, hs2⟩; have HC3 := HWR'.out w2 hr2 hs2; clear hr2 hs2 HRD HWR') | (go_at_call 140; refine HC3.mono ?_; rintro e w3 ⟨rfl, hr3, hs3⟩; have HR3 : Hid (∃ m', m' ≤ mi + 1 ∧ DskAt w3 (tg S w w3) bd m' (di.write i z)) := hr3; have HS3 : Hid (Same S w w3) := hs3; clear hr3 hs3))
          all_goals
            go_roundw
            case rel =>
              refine ⟨i + 1, by omega, by omega, by go_num, ?_⟩
              obtain ⟨HR, hsr, hwi, hsn, hwt, hmi, hfu⟩ := HRI.out
              obtain ⟨m', hm', hd3⟩ := HR3.out
              have l3 := dwrite_wait di i z
              refine ⟨di.write i z, m', hd3, HS3.out, ?_, by rw [dwrite_safe]; exact hsn, by omega, by omega, dwrite_fuse _ _ _ hfu⟩
              rw [← hwi, HUN.out]
              conv => rhs; unfold wipeD
              rw [if_neg (by rw [HXS.out]; intro e; exact HXZ.out (by cases e; exact HZZ.out.symm)), HD.out, if_neg (by simp), HZZ.out]
            case measure => (simp [intOf]; try omega)
        · rw [hd] at HWR
          have HD : Hid (di.op.down = true) := hd
          have HWR' : Hid (∀ w2, DskAt w2 (tg S w wr) bd mi di → Same (tg S w wr) wr w2 → Calls Tryz.prog 140 #[.pointer (some ⟨bd, 0, none⟩), .int .i64 (i : Int), .string z] w2 fun e w' => e = .returned (rv p) ∧ (∃ m', m' ≤ mi + 1 ∧ DskAt w' (tg S w w') bd m' (di.write i z)) ∧ Same S w w') := HWR.out
          clear hd HWR
          go_wp2_with (first | (go_at_call 62; refine HSC.out.mono ?_; rintro e w2 ⟨rfl, rfl⟩; clear HSC) | (go_at_call 104; refine HRD.out.mono ?_; rintro e w2 ⟨rfl, hr2, hs2⟩; have HC3 := HWR'.out w2 hr2 hs2; clear hr2 hs2 HRD HWR') | (go_at_call 140; refine HC3.mono ?_; rintro e w3 ⟨rfl, hr3, hs3⟩; have HR3 : Hid (∃ m', m' ≤ mi + 1 ∧ DskAt w3 (tg S w w3) bd m' (di.write i z)) := hr3; have HS3 : Hid (Same S w w3) := hs3; clear hr3 hs3))
          go_ret
          obtain ⟨HR, hsr, hwi, hsn, hwt, hmi, hfu⟩ := HRI.out
          have hv : wipeD (n - from_) from_ d = (di.op, 2) := by
            rw [← hwi, HUN.out]
            unfold wipeD
            rw [if_neg (by rw [HXS.out]; intro e; exact HXZ.out (by cases e; exact HZZ.out.symm)), HD.out, if_pos rfl]
          have hwr : di.write i z = di.op := by unfold Dsk.write; rw [HD.out, if_pos rfl]
          obtain ⟨m', hm', hd3⟩ := HR3.out
          rw [hwr] at hd3
          have hO := HOV.out
          rw [hv] at hO ⊢
          exact ⟨by rw [hO]; rfl, ⟨m', by omega, hd3⟩, HS3.out⟩
    · have hin : i = n := by omega
      have HF : Hid (Calls Tryz.prog 141 #[.pointer (some ⟨bd, 0, none⟩)] wr fun e w' => e = .returned (if di.op.down then (rv p) else .nilIface) ∧ DskAt w' (tg S w wr) bd mi di.flush ∧ Same (tg S w wr) wr w') := by
        have hW := HW.out
        exact dsk_flush bd mi _ di (rv p) wr hri (HE.out _ hsr) (HG.out _) hfu (by omega) (by omega) (fun g hg => hg.2)
      have hnlt : ¬ (i : Int) < n := by omega
      obtain ⟨fv, hfv⟩ : ∃ fv, fv = (if di.op.down then (rv p) else .nilIface) := ⟨_, rfl⟩
      rw [← hfv] at HF
      have HFV : Hid (fv = (if di.fcode = 0 then .nilIface else (rv p))) := by
        show _ = _
        rw [hfv]
        unfold Dsk.fcode
        cases di.op.down
        · rfl
        · rfl
      have HIN : Hid (i = n) := hin
      clear HV hri hsr hwi hsn hwt hmi hfu hfv hin
      go_wp2_with (first | (go_at_call 62; refine HSC.out.mono ?_; rintro e w2 ⟨rfl, rfl⟩; clear HSC) | (go_at_call 141; refine HF.out.mono ?_; rintro e w2 ⟨rfl, hr2, hs2⟩; have HR2 : Hid (DskAt w2 (tg S w wr) bd mi di.flush) := hr2; have HS2 : Hid (Same (tg S w wr) wr w2) := hs2; clear hr2 hs2 HF))
      go_ret
      obtain ⟨HR, hsr, hwi, hsn, hwt, hmi, hfu⟩ := HRI.out
      have hv : wipeD (n - from_) from_ d = (di.flush, di.fcode) := by
        rw [← hwi, HIN.out, Nat.sub_self]
        rfl
      have hO := HOV.out
      rw [hv] at hO ⊢
      exact ⟨by rw [hO, ← HFV.out]; rfl, ⟨mi, by omega, (HR2.out.mono (fun _ h => h.1) : DskAt w2 (up S w.heap.size) bd mi _).tg⟩, hsr.tg HS2.out⟩
end Go.Proofs.YtapijhhmjjplmaaGreatDoor
namespace Go.Proofs.YtapijhhmjjplmaaGreatDoor
open Go.RowKit Go.Maps
theorem rflush_len (r : RDsk) (n : Nat) (h1 : r.seen.length = n) (h2 : r.safe.length = n) : r.flush.seen.length = n ∧ r.flush.safe.length = n ∧ r.flush.wait.length ≤ r.wait.length := by
  unfold RDsk.flush
  split
  · exact ⟨by rw [op_seen, h1], by rw [op_safe, h2], by rw [op_wait]; omega⟩
  · exact ⟨by show r.op.seen.length = n; rw [op_seen, h1], by show r.op.seen.length = n; rw [op_seen, h1], Nat.zero_le _⟩
theorem wipeR_len : ∀ (f i : Nat) (r : RDsk) (n : Nat), r.seen.length = n → r.safe.length = n → (wipeR f i r).1.seen.length = n ∧ (wipeR f i r).1.safe.length = n ∧ (wipeR f i r).1.wait.length ≤ r.wait.length + f
  | 0, _, r, n, h1, h2 => rflush_len r n h1 h2
  | f + 1, i, r, n, h1, h2 => by
    unfold wipeR
    split
    · obtain ⟨a, b, c⟩ := wipeR_len f (i + 1) r n h1 h2
      exact ⟨a, b, by omega⟩
    · split
      · exact ⟨by rw [op_seen, h1], by rw [op_safe, h2], by rw [op_wait]; omega⟩
      · obtain ⟨l1, l2, l3⟩ := rwrite_len r i z64
        obtain ⟨a, b, c⟩ := wipeR_len f (i + 1) (r.write i z64) n (by rw [l1, h1]) (by rw [l2, h2])
        exact ⟨a, b, by omega⟩
theorem wipeR_code : ∀ (f i : Nat) (r : RDsk), (wipeR f i r).2 = 0 ∨ (wipeR f i r).2 = 2
  | 0, _, r => by unfold wipeR RDsk.fcode; split <;> simp
  | f + 1, i, r => by
    unfold wipeR
    split
    · exact wipeR_code f _ _
    · split
      · exact .inr rfl
      · exact wipeR_code f _ _
/-- What FormatDisk leaves, and tells. -/
def fmtR (n : Nat) (r : RDsk) : RDsk × Nat :=
  if n < 4 then (r, 1) else
  if (wipeR n 0 r).2 ≠ 0 then wipeR n 0 r else
  if (wipeR n 0 r).1.op.down then ((wipeR n 0 r).1.op, 2) else
  (((wipeR n 0 r).1.write 0 (headS n)).flush, ((wipeR n 0 r).1.write 0 (headS n)).fcode)
def fmtD (n : Nat) (d : Dsk) : Dsk × Nat :=
  if n < 4 then (d, 1) else
  if (wipeD n 0 d).2 ≠ 0 then wipeD n 0 d else
  if (wipeD n 0 d).1.op.down then ((wipeD n 0 d).1.op, 2) else
  (((wipeD n 0 d).1.write 0 (headS n)).flush, ((wipeD n 0 d).1.write 0 (headS n)).fcode)
theorem Rel.fmt (n : Nat) {d : Dsk} {r : RDsk} (h : Rel d r) : Rel (fmtD n d).1 (fmtR n r).1 ∧ (fmtR n r).2 = (fmtD n d).2 := by
  obtain ⟨h1, h2⟩ := h.wipe n 0
  unfold fmtD fmtR
  rw [h2, h1.op.down]
  split
  · exact ⟨h, rfl⟩
  · split
    · exact ⟨h1, h2⟩
    · split
      · exact ⟨h1.op, rfl⟩
      · exact ⟨(h1.write 0 _).flush, (h1.write 0 _).fcode⟩
set_option maxRecDepth 100000 in
set_option maxHeartbeats 2000000 in
theorem ref_format (be : Nat) (S : Nat → Prop) (r : RDsk) (n : Nat) (w : World) (h : RefAt w S be r) (hn : 0 < n) (hb : n ≤ 4096) (h1 : r.seen.length = n) (h2 : r.safe.length = n) (hw : r.wait.length ≤ 800000) :
    Calls Tryz.prog 119 #[.pointer (some ⟨be, 0, none⟩)] w fun e w' => e = .returned (.int .i64 ((fmtR n r).2 : Int)) ∧ RefAt w' (up S w.heap.size) be (fmtR n r).1 ∧ Same S w w' := by
  have HW : Hid (Calls Tryz.prog 187 #[.pointer (some ⟨be, 0, none⟩), .int .i64 0] w fun e w' => e = .returned (.int .i64 ((wipeR n 0 r).2 : Int)) ∧ RefAt w' (up S w.heap.size) be (wipeR n 0 r).1 ∧ Same S w w') := ref_wipe be S r n 0 w h hn hb h1 h2 (by omega) (by omega)
  have HH : Hid (RefAt w S be r) := h
  obtain ⟨sv, nv, wv, hv⟩ := h
  obtain ⟨gn, cn, rfl, -, -, -⟩ := hv.seen.open (by omega)
  have c1 : w.cell? ⟨be, 1, none⟩ = some (.slice (some ⟨gn, 0, none⟩) n cn) := by rw [cell_of_row _ _ _ _ _ _ hv.blk, ← h1]; rfl
  clear hv
  by_cases h4 : n < 4
  · have hf : fmtR n r = (r, 1) := by unfold fmtR; rw [if_pos h4]
    rw [hf]
    have h4i : (n : Int) < 4 := by omega
    clear HW hf
    go_enter Tryz.func119, Tryz.ntmps119
    go_wp2
    go_ret
    exact ⟨rfl, HH.out.mono (fun _ h => .inl h), Same.refl _ _⟩
  · have h4i : ¬ (n : Int) < 4 := by omega
    have hf : fmtR n r = if (wipeR n 0 r).2 ≠ 0 then wipeR n 0 r else if (wipeR n 0 r).1.op.down then ((wipeR n 0 r).1.op, 2) else (((wipeR n 0 r).1.write 0 (headS n)).flush, ((wipeR n 0 r).1.write 0 (headS n)).fcode) := by
      unfold fmtR; rw [if_neg h4]
    obtain ⟨l1, l2, l3⟩ := wipeR_len n 0 r n h1 h2
    have hcode := wipeR_code n 0 r
    have HSU : Hid (∀ w, Calls Tryz.prog 188 #[.int .i64 (n : Int)] w fun e w' => e = .returned (.tuple #[.string (headS n), .int .i64 (headC n : Int)]) ∧ Below w.heap.size w w') := fun w => ref_super n w (by omega)
    have hhs := headS_size n
    obtain ⟨hd, hhd⟩ : ∃ hd, hd = headS n := ⟨_, rfl⟩
    obtain ⟨hc, hhc⟩ : ∃ hc, hc = headC n := ⟨_, rfl⟩
    rw [← hhd] at HSU hf hhs
    rw [← hhc] at HSU
    obtain ⟨p, hp⟩ : ∃ p, p = wipeR n 0 r := ⟨_, rfl⟩
    rw [← hp] at HW hf l1 l2 l3 hcode
    obtain ⟨r1, c⟩ := p
    have l1 : r1.seen.length = n := l1
    have l2 : r1.safe.length = n := l2
    have l3 : r1.wait.length ≤ r.wait.length + n := l3
    have HW : Hid (Calls Tryz.prog 187 #[.pointer (some ⟨be, 0, none⟩), .int .i64 0] w fun e w' => e = .returned (.int .i64 (c : Int)) ∧ RefAt w' (up S w.heap.size) be r1 ∧ Same S w w') := HW
    have hf : fmtR n r = if c ≠ 0 then (r1, c) else if r1.op.down then (r1.op, 2) else ((r1.write 0 hd).flush, (r1.write 0 hd).fcode) := hf
    have hcode : c = 0 ∨ c = 2 := hcode
    clear hp hhd hhc
    rcases hcode with rfl | rfl
    · rw [if_neg (by simp)] at hf
      have HF : Hid (fmtR n r = if r1.op.down then (r1.op, 2) else ((r1.write 0 hd).flush, (r1.write 0 hd).fcode)) := hf
      have HL : Hid (r1.seen.length = n ∧ r1.safe.length = n ∧ r1.wait.length ≤ r.wait.length + n) := ⟨l1, l2, l3⟩
      have HW' := HW
      have hans : r1.ans = 0 ∧ r1.op.down = false ∨ r1.ans = 2 ∧ r1.op.down = true := by
        unfold RDsk.ans
        cases r1.op.down
        · exact .inl ⟨rfl, rfl⟩
        · exact .inr ⟨rfl, rfl⟩
      have HWR : Hid (∀ w', Same S w w' → RefAt w' (up S w.heap.size) be r1 → Calls Tryz.prog 114 #[.pointer (some ⟨be, 0, none⟩), .int .i64 0, .string hd] w' fun e w'' => e = .returned (.int .i64 r1.ans) ∧ RefAt w'' (up S w.heap.size) be (r1.write 0 hd) ∧ Same S w w'') := by
        intro w' hs hr
        refine (ref_write be _ r1 0 hd w' hr (by omega) hhs (by omega)).mono ?_
        rintro e w2 ⟨rfl, h3, h4⟩
        exact ⟨rfl, h3.mono (up_up _ _ _ hs.size), hs.then h4⟩
      have HC1 : Hid (∀ w', RefAt w' (up S w.heap.size) be r1 → ∃ gn cn, w'.cell? ⟨be, 1, none⟩ = some (.slice (some ⟨gn, 0, none⟩) n cn)) := by
        rintro w' ⟨sv, nv, wv, hv⟩
        obtain ⟨gn, cn, rfl, -, -, -⟩ := hv.seen.open (by omega)
        exact ⟨gn, cn, by rw [cell_of_row _ _ _ _ _ _ hv.blk, ← l1]; rfl⟩
      have HFL : Hid (∀ w', Same S w w' → RefAt w' (up S w.heap.size) be (r1.write 0 hd) → Calls Tryz.prog 116 #[.pointer (some ⟨be, 0, none⟩)] w' fun e w'' => e = .returned (.int .i64 ((r1.write 0 hd).fcode : Int)) ∧ RefAt w'' (up S w.heap.size) be (r1.write 0 hd).flush ∧ Same S w w'') := by
        intro w' hs hr
        obtain ⟨m1, m2, m3⟩ := rwrite_len r1 0 hd
        have h3 := ref_flush be _ (r1.write 0 hd) w' hr (by rw [m2]; omega) (by rw [m1, m2]; omega) (by rw [m2]; omega)
        rw [RDsk.ans_fcode] at h3
        refine h3.mono ?_
        rintro e w2 ⟨rfl, h3, h4⟩
        exact ⟨rfl, h3, hs.then h4⟩
      obtain ⟨fc, hfc⟩ : ∃ fc, fc = (r1.write 0 hd).fcode := ⟨_, rfl⟩
      rw [← hfc] at HF HFL
      clear hf l1 l2 l3 HW' HH h4 hw hfc h1 h2
      rcases hans with ⟨ha, hd'⟩ | ⟨ha, hd'⟩
      · rw [hd', if_neg (by simp)] at HF
        rw [ha] at HWR
        clear ha hd'
        go_enter Tryz.func119, Tryz.ntmps119
        go_wp2_with fail
        refine HW.out.mono ?_
        rintro e w1 ⟨rfl, hr1, hs1⟩
        obtain ⟨gn', cn', c1'⟩ := HC1.out w1 hr1
        have HR1 : Hid (RefAt w1 (up S w.heap.size) be r1) := hr1
        have HS1 : Hid (Same S w w1) := hs1
        clear hr1 hs1 HC1 HW c1
        go_wp2_with (first | (go_at_call 188; refine (HSU.out _).mono ?_; rintro e w2 ⟨rfl, hb2⟩; have HR2 : Hid (RefAt w2 (up S w.heap.size) be r1) := HR1.out.on (.of_below hb2 : Same (fun _ => False) _ _) (fun _ _ h => h); have HS2 : Hid (Same S w w2) := HS1.out.trans (.of_below hb2); clear hb2 HSU HR1 HS1) | (go_at_call 114; refine (HWR.out _ HS2.out HR2.out).mono ?_; rintro e w3 ⟨rfl, hr3, hs3⟩; have HR3 : Hid (RefAt w3 (up S w.heap.size) be (r1.write 0 hd)) := hr3; have HS3 : Hid (Same S w w3) := hs3; clear hr3 hs3 HWR) | (go_at_call 116; refine (HFL.out _ HS3.out HR3.out).mono ?_; rintro e w4 ⟨rfl, hr4, hs4⟩; have HR4 : Hid (RefAt w4 (up S w.heap.size) be (r1.write 0 hd).flush) := hr4; have HS4 : Hid (Same S w w4) := hs4; clear hr4 hs4 HFL))
        go_ret
        rw [HF.out]
        exact ⟨rfl, HR4.out, HS4.out⟩
      · rw [hd', if_pos rfl] at HF
        rw [ha] at HWR
        have HDN : Hid (r1.write 0 hd = r1.op) := by show _ = _; unfold RDsk.write; rw [hd', if_pos rfl]
        clear ha hd'
        go_enter Tryz.func119, Tryz.ntmps119
        go_wp2_with fail
        refine HW.out.mono ?_
        rintro e w1 ⟨rfl, hr1, hs1⟩
        obtain ⟨gn', cn', c1'⟩ := HC1.out w1 hr1
        have HR1 : Hid (RefAt w1 (up S w.heap.size) be r1) := hr1
        have HS1 : Hid (Same S w w1) := hs1
        clear hr1 hs1 HC1 HW c1
        go_wp2_with (first | (go_at_call 188; refine (HSU.out _).mono ?_; rintro e w2 ⟨rfl, hb2⟩; have HR2 : Hid (RefAt w2 (up S w.heap.size) be r1) := HR1.out.on (.of_below hb2 : Same (fun _ => False) _ _) (fun _ _ h => h); have HS2 : Hid (Same S w w2) := HS1.out.trans (.of_below hb2); clear hb2 HSU HR1 HS1) | (go_at_call 114; refine (HWR.out _ HS2.out HR2.out).mono ?_; rintro e w3 ⟨rfl, hr3, hs3⟩; have HR3 : Hid (RefAt w3 (up S w.heap.size) be (r1.write 0 hd)) := hr3; have HS3 : Hid (Same S w w3) := hs3; clear hr3 hs3 HWR))
        go_ret
        rw [HF.out]
        have h5 := HR3.out
        rw [HDN.out] at h5
        exact ⟨rfl, h5, HS3.out⟩
    · rw [if_pos (by simp)] at hf
      have HF : Hid (fmtR n r = (r1, 2)) := hf
      clear hf l1 l2 l3 HH h4 hw h1 h2 HSU
      go_enter Tryz.func119, Tryz.ntmps119
      go_wp2_with (go_at_call 187; refine HW.out.mono ?_; rintro e w1 ⟨rfl, hr1, hs1⟩; have HR1 : Hid (RefAt w1 (up S w.heap.size) be r1) := hr1; have HS1 : Hid (Same S w w1) := hs1; clear hr1 hs1 HW)
      go_ret
      rw [HF.out]
      exact ⟨rfl, HR1.out, HS1.out⟩
end Go.Proofs.YtapijhhmjjplmaaGreatDoor
namespace Go.Proofs.YtapijhhmjjplmaaGreatDoor
open Go.RowKit Go.Maps
theorem extract_all (s : ByteArray) (h : s.size = 64) : s.extract 0 64 = s := by
  apply ByteArray.ext
  rw [ByteArray.data_extract]
  have : s.data.size = 64 := h
  rw [← this]
  simp
/-- One sector, then Flush: what is left, and what is told. -/
def oneD (d : Dsk) (k : Nat) (s : ByteArray) : Dsk × Nat := if d.op.down then (d.op, 2) else ((d.write k s).flush, (d.write k s).fcode)
set_option maxRecDepth 100000 in
set_option maxHeartbeats 2000000 in
theorem prog_writeOne (bd m : Nat) (S : Nat → Prop) (d : Dsk) (n : Nat) (s : ByteArray) (p : Addr) (w : World) (h : DskAt w S bd m d) (hE : w.cell? ⟨1, 0, none⟩ = some (rv p)) (hG : ¬ S 1) (hf : d.fuse ≤ 9223372036854775807) (hn : 0 < n) (hb : n ≤ 4096) (h1 : d.safe.length = n) (hs : s.size = 64) (hwl : d.wait.length ≤ 950000) (hm : m ≤ 950000) (hSl : ∀ g, S g → g < w.heap.size) :
    Calls Tryz.prog 81 #[.pointer (some ⟨bd, 0, none⟩), .int .i64 0, .string s] w fun e w' => e = .returned (if (oneD d 0 s).2 = 0 then .nilIface else rv p) ∧ (∃ m', m' ≤ m + 1 ∧ DskAt w' (tg S w w') bd m' (oneD d 0 s).1) ∧ Same S w w' := by
  have hEl := block_lt_of_cell hE
  have HW : Hid (Calls Tryz.prog 140 #[.pointer (some ⟨bd, 0, none⟩), .int .i64 0, .string (s.extract 0 64)] w fun e w' => e = .returned (if d.op.down then rv p else .nilIface) ∧ (∃ m', m' ≤ m + 1 ∧ DskAt w' (tg S w w') bd m' (d.write 0 s)) ∧ Same S w w') := by
    rw [extract_all s hs]
    refine (dsk_write bd m S d 0 s (rv p) w h hE hG hf (by omega) hs (by omega) (by omega) (by omega) hSl).mono ?_
    rintro e w2 ⟨rfl, ⟨m', hm', hd2⟩, hs2⟩
    exact ⟨rfl, ⟨m', hm', (hd2 : DskAt w2 (up S w.heap.size) bd m' _).tg⟩, hs2⟩
  have HF : Hid (∀ w2 m', m' ≤ m + 1 → DskAt w2 (tg S w w2) bd m' (d.write 0 s) → Same S w w2 → Calls Tryz.prog 141 #[.pointer (some ⟨bd, 0, none⟩)] w2 fun e w' => e = .returned (if (d.write 0 s).op.down then rv p else .nilIface) ∧ (∃ m', m' ≤ m + 1 ∧ DskAt w' (tg S w w') bd m' (d.write 0 s).flush) ∧ Same S w w') := by
    intro w2 m' hm' hd2 hs2
    have l1 := dwrite_wait d 0 s
    refine (dsk_flush bd m' _ (d.write 0 s) (rv p) w2 hd2 (hs2.cell hG hE) (tg_not hG hEl) (dwrite_fuse _ _ _ hf) (by omega) (by rw [dwrite_safe]; omega) (fun g hg => hg.2)).mono ?_
    rintro e w3 ⟨rfl, hd3, hs3⟩
    exact ⟨rfl, ⟨m', hm', (hd3.mono (fun _ h => h.1) : DskAt w3 (up S w.heap.size) bd m' _).tg⟩, hs2.tg hs3⟩
  have hrv := rv_neq p
  have hnl : ∀ w, (binOp BinOp.neq 92 .nilIface .nilIface).run Tryz.prog w = .ok (.bool false) w := fun w => by rfl
  have hsi : (s.size : Int) = 64 := by omega
  obtain ⟨ov, hov⟩ : ∃ ov, ov = if (oneD d 0 s).2 = 0 then .nilIface else rv p := ⟨_, rfl⟩
  rw [← hov]
  have HOV : Hid (ov = if (oneD d 0 s).2 = 0 then .nilIface else rv p) := hov
  clear hov h hE hG hEl hf h1 hwl hm hSl
  cases hd : d.op.down
  · rw [hd] at HW
    have HW' : Hid (Calls Tryz.prog 140 #[.pointer (some ⟨bd, 0, none⟩), .int .i64 0, .string (s.extract 0 64)] w fun e w' => e = .returned .nilIface ∧ (∃ m', m' ≤ m + 1 ∧ DskAt w' (tg S w w') bd m' (d.write 0 s)) ∧ Same S w w') := HW.out
    have HO : Hid (oneD d 0 s = ((d.write 0 s).flush, (d.write 0 s).fcode)) := by show _ = _; unfold oneD; rw [hd]; rfl
    obtain ⟨fv, hfv⟩ : ∃ fv, fv = (if (d.write 0 s).op.down then rv p else .nilIface) := ⟨_, rfl⟩
    rw [← hfv] at HF
    have HFV : Hid (fv = (if (d.write 0 s).fcode = 0 then .nilIface else rv p)) := by
      show _ = _
      rw [hfv]
      unfold Dsk.fcode
      cases (d.write 0 s).op.down
      · rfl
      · rfl
    clear hd HW hfv
    go_enter Tryz.func81, Tryz.ntmps81
    go_wp2
    go_loopw [12] (fun iv_ wr => (iv_ = .int .i64 0 ∧ Hid (wr = w)) ∨ (iv_ = .int .i64 1 ∧ Hid (Same S w wr ∧ ∃ m', m' ≤ m + 1 ∧ DskAt wr (tg S w wr) bd m' (d.write 0 s)))) (fun iv_ _ => 1 - (intOf iv_).toNat)
    case atStart => exact .inl ⟨rfl, rfl⟩
    case round =>
      rcases hrel with ⟨rfl, hw⟩ | ⟨rfl, HK⟩
      · have hwe := hw.out
        subst hwe
        clear hw
        go_wp2_with (go_at_call 140; refine HW'.out.mono ?_; rintro e w3 ⟨rfl, hr3, hs3⟩; have HR3 : Hid (Same S wr w3 ∧ ∃ m', m' ≤ m + 1 ∧ DskAt w3 (tg S wr w3) bd m' (d.write 0 s)) := ⟨hs3, hr3⟩; clear hr3 hs3)
        all_goals
          go_roundw
          case rel => exact .inr ⟨rfl, HR3⟩
          case measure => simp [intOf]
      · obtain ⟨hsw, m', hm', hdw⟩ := HK.out
        have HFF := HF.out wr m' hm' hdw hsw
        clear HK hsw hm' hdw HF
        go_wp2_with (go_at_call 141; refine HFF.mono ?_; rintro e w3 ⟨rfl, hr3, hs3⟩; have HR3 : Hid (∃ m', m' ≤ m + 1 ∧ DskAt w3 (tg S w w3) bd m' (d.write 0 s).flush) := hr3; have HS3 : Hid (Same S w w3) := hs3; clear hr3 hs3)
        go_ret
        have hO := HOV.out
        rw [HO.out] at hO ⊢
        exact ⟨by rw [hO, ← HFV.out]; rfl, HR3.out, HS3.out⟩
  · rw [hd] at HW
    have HW' : Hid (Calls Tryz.prog 140 #[.pointer (some ⟨bd, 0, none⟩), .int .i64 0, .string (s.extract 0 64)] w fun e w' => e = .returned (rv p) ∧ (∃ m', m' ≤ m + 1 ∧ DskAt w' (tg S w w') bd m' (d.write 0 s)) ∧ Same S w w') := HW.out
    have HO : Hid (oneD d 0 s = (d.op, 2)) := by show _ = _; unfold oneD; rw [hd]; rfl
    have HDN : Hid (d.write 0 s = d.op) := by show _ = _; unfold Dsk.write; rw [hd, if_pos rfl]
    clear hd HW HF
    go_enter Tryz.func81, Tryz.ntmps81
    go_wp2
    go_loopw [12] (fun iv_ wr => iv_ = .int .i64 0 ∧ Hid (wr = w)) (fun iv_ _ => 1 - (intOf iv_).toNat)
    case atStart => exact ⟨rfl, rfl⟩
    case round =>
      obtain ⟨rfl, hw⟩ := hrel
      have hwe := hw.out
      subst hwe
      clear hw
      go_wp2_with (go_at_call 140; refine HW'.out.mono ?_; rintro e w3 ⟨rfl, hr3, hs3⟩; have HR3 : Hid (Same S wr w3 ∧ ∃ m', m' ≤ m + 1 ∧ DskAt w3 (tg S wr w3) bd m' (d.write 0 s)) := ⟨hs3, hr3⟩; clear hr3 hs3)
      go_ret
      have hO := HOV.out
      rw [HO.out] at hO ⊢
      have h3 := HR3.out
      rw [HDN.out] at h3
      exact ⟨by rw [hO]; rfl, h3.2, h3.1⟩
end Go.Proofs.YtapijhhmjjplmaaGreatDoor
namespace Go.Proofs.YtapijhhmjjplmaaGreatDoor
open Go.RowKit Go.Maps
theorem fmtD_one (n : Nat) (d : Dsk) (h4 : ¬ n < 4) (h0 : (wipeD n 0 d).2 = 0) : fmtD n d = oneD (wipeD n 0 d).1 0 (headS n) := by
  unfold fmtD
  rw [if_neg h4, h0, if_neg (by simp)]
  rfl
theorem fmtD_wipe (n : Nat) (d : Dsk) (h4 : ¬ n < 4) (h0 : (wipeD n 0 d).2 ≠ 0) : fmtD n d = wipeD n 0 d := by
  unfold fmtD
  rw [if_neg h4, if_pos h0]
theorem oneD_code (d : Dsk) (s : ByteArray) : (oneD d 0 s).2 = 0 ∨ (oneD d 0 s).2 = 2 := by
  unfold oneD Dsk.fcode
  split
  · exact .inr rfl
  · show (if _ then 2 else 0) = 0 ∨ (if _ then 2 else 0) = 2
    split <;> simp
theorem wipeD_fuse : ∀ (f i : Nat) (d : Dsk), d.fuse ≤ 9223372036854775807 → (wipeD f i d).1.fuse ≤ 9223372036854775807
  | 0, _, d, h => by
    show d.flush.fuse ≤ _
    unfold Dsk.flush
    split
    · exact dop_fuse d h
    · exact dop_fuse d h
  | f + 1, i, d, h => by
    unfold wipeD
    split
    · exact wipeD_fuse f (i + 1) d h
    · split
      · exact dop_fuse d h
      · exact wipeD_fuse f (i + 1) _ (dwrite_fuse d i z64 h)
theorem Same.sent {w0 w w' : World} {S : Nat → Prop} {a : Nat → Addr} (S0 : Sent w0 a) (hb : Below w0.heap.size w0 w) (hS : ∀ g, S g → w0.heap.size ≤ g) (h : Same S w w') : Sent w' a := S0.on (hb.trans (h.below hS hb.size))
set_option maxRecDepth 100000 in
set_option maxHeartbeats 2000000 in
theorem prog_format (w0 : World) (a : Nat → Addr) (S0 : Sent w0 a) (bd m : Nat) (S : Nat → Prop) (d : Dsk) (n : Nat) (w : World) (h : DskAt w S bd m d) (hb0 : Below w0.heap.size w0 w) (hS : ∀ g, S g → w0.heap.size ≤ g) (hf : d.fuse ≤ 9223372036854775807) (hn : 0 < n) (hb : n ≤ 4096) (h1 : d.safe.length = n) (hwl : d.wait.length ≤ 800000) (hm : m ≤ 800000) :
    Calls Tryz.prog 44 #[.pointer (some ⟨bd, 0, none⟩)] w fun e w' => e = .returned (errV a (fmtD n d).2) ∧ (∃ m', m' ≤ m + n + 1 ∧ DskAt w' (tg S w w') bd m' (fmtD n d).1) ∧ Same S w w' := by
  have hG : ¬ S 1 := fun h => by
    have h1 := hS _ h
    have h2 := cell_lt S0.v1
    exact absurd h2 (by show ¬ 1 < _; omega)
  have hs := S0.on hb0
  have hEl := block_lt_of_cell hs.v1
  have e0 := hs.v0
  have HSC : Hid (∀ w2 m2 T d2, DskAt w2 T bd m2 d2 → d2.safe.length = n → Calls Tryz.prog 62 #[.pointer (some ⟨bd, 0, none⟩)] w2 fun e w' => e = .returned (.int .i64 (n : Int)) ∧ w2 = w') := by
    intro w2 m2 T d2 hd hl
    have := dsk_sectors bd m2 T d2 w2 hd
    rw [hl] at this
    exact this
  have HS1 := HSC.out w m S d h h1
  have hni : (n : Int) ≤ 4096 := by omega
  by_cases h4 : n < 4
  · have hF : fmtD n d = (d, 1) := by unfold fmtD; rw [if_pos h4]
    have HH : Hid (DskAt w S bd m d) := h
    have h4i : (n : Int) < 4 := by omega
    rw [hF]
    clear hF h hs HSC
    go_enter Tryz.func44, Tryz.ntmps44
    go_wp2_with (go_at_call 62; refine HS1.mono ?_; rintro e w2 ⟨rfl, rfl⟩)
    go_ret
    exact ⟨rfl, ⟨m, by omega, (HH.out.mono (fun _ h => .inl h) : DskAt w (up S w.heap.size) bd m d).tg⟩, Same.refl _ _⟩
  · have h4i : ¬ (n : Int) < 4 := by omega
    have HWI := prog_wipe bd m S d n 0 (a 1) w h hs.v1 hG hf hn hb h1 (by omega) (by omega) (by omega)
    rw [Nat.sub_zero] at HWI
    have hrv := rv_neq (a 1)
    have hnl : ∀ w, (binOp BinOp.neq 92 .nilIface .nilIface).run Tryz.prog w = .ok (.bool false) w := fun w => by rfl
    obtain ⟨l1, l2⟩ := wipeD_len n 0 d
    have l3 := wipeD_fuse n 0 d hf
    by_cases h0 : (wipeD n 0 d).2 = 0
    · have hF := fmtD_one n d h4 h0
      rw [if_pos h0] at HWI
      obtain ⟨d1, hd1⟩ : ∃ d1, d1 = (wipeD n 0 d).1 := ⟨_, rfl⟩
      rw [← hd1] at HWI hF l1 l2 l3
      have HWI' : Hid (Calls Tryz.prog 80 #[.pointer (some ⟨bd, 0, none⟩), .int .i64 0] w fun e w' => e = .returned .nilIface ∧ (∃ m', m' ≤ m + n ∧ DskAt w' (tg S w w') bd m' d1) ∧ Same S w w') := HWI
      have HHD : Hid (∀ w, Calls Tryz.prog 82 #[.int .i64 (n : Int)] w fun e w' => e = .returned (.string (headS n)) ∧ Below w.heap.size w w') := fun w => prog_headOf n hb w
      have HWO : Hid (∀ w2 m2, m2 ≤ m + n → DskAt w2 (tg S w w2) bd m2 d1 → Same S w w2 → Calls Tryz.prog 81 #[.pointer (some ⟨bd, 0, none⟩), .int .i64 0, .string (headS n)] w2 fun e w' => e = .returned (errV a (oneD d1 0 (headS n)).2) ∧ (∃ m', m' ≤ m + n + 1 ∧ DskAt w' (tg S w w') bd m' (oneD d1 0 (headS n)).1) ∧ Same S w w') := by
        intro w2 m2 hm2 hd2 hs2
        refine (prog_writeOne bd m2 _ d1 n (headS n) (a 1) w2 hd2 (hs2.cell hG hs.v1) (tg_not hG hEl) l3 hn hb (by omega) (headS_size n) (by omega) (by omega) (fun g hg => hg.2)).mono ?_
        rintro e w3 ⟨rfl, ⟨m', hm', hd3⟩, hs3⟩
        refine ⟨?_, ⟨m', by omega, (hd3.mono ?_ : DskAt w3 (up S w.heap.size) bd m' _).tg⟩, hs2.tg hs3⟩
        · rcases oneD_code d1 (headS n) with h | h
          · rw [h]; rfl
          · rw [h]; rfl
        · rintro g ⟨h | h, -⟩
          · exact h.1
          · exact .inr (Nat.le_trans hs2.size h)
      rw [hF]
      obtain ⟨q, hq⟩ : ∃ q, q = oneD d1 0 (headS n) := ⟨_, rfl⟩
      obtain ⟨ov, hov⟩ : ∃ ov, ov = errV a (oneD d1 0 (headS n)).2 := ⟨_, rfl⟩
      obtain ⟨hd, hhd⟩ : ∃ hd, hd = headS n := ⟨_, rfl⟩
      rw [← hov, ← hq]
      rw [← hov, ← hq, ← hhd] at HWO
      rw [← hhd] at HHD
      have HL1 : Hid (d1.safe.length = n) := by show _ = _; omega
      clear hF h hs HWI hd1 l1 l2 l3 hq hov hhd h4 h0
      go_enter Tryz.func44, Tryz.ntmps44
      go_wp2_with fail
      refine HS1.mono ?_
      rintro e w1 ⟨rfl, rfl⟩
      go_wp2_with fail
      refine HWI'.out.mono ?_
      rintro e w1 ⟨rfl, ⟨m', hm', hd1⟩, hs1⟩
      have HS2 := HSC.out w1 m' _ d1 hd1 HL1.out
      have HWO2 : Hid (∀ w2, Below w1.heap.size w1 w2 → Calls Tryz.prog 81 #[.pointer (some ⟨bd, 0, none⟩), .int .i64 0, .string hd] w2 fun e w' => e = .returned ov ∧ (∃ m', m' ≤ m + n + 1 ∧ DskAt w' (tg S w w') bd m' q.1) ∧ Same S w w') := fun w2 hb2 => HWO.out w2 m' hm' ((hd1.on (T := fun _ => False) (.of_below hb2) (fun _ _ h => h)).mono (fun g h => ⟨h.1, Nat.lt_of_lt_of_le h.2 hb2.size⟩)) (hs1.trans (.of_below hb2))
      clear hd1 hs1 hm' HSC HS1 HWO HWI' HL1
      go_wp2_with (first | (go_at_call 62; refine HS2.mono ?_; rintro e w2 ⟨rfl, rfl⟩) | (go_at_call 82; refine (HHD.out _).mono ?_; rintro e w3 ⟨rfl, hb3⟩; have HB3 := HWO2.out w3 hb3; clear hb3) | (go_at_call 81; refine HB3.mono ?_; rintro e w4 ⟨rfl, hd4, hs4⟩; have HD4 : Hid (∃ m', m' ≤ m + n + 1 ∧ DskAt w4 (tg S w w4) bd m' q.1) := hd4; have HS4 : Hid (Same S w w4) := hs4; clear hd4 hs4))
      go_ret
      exact ⟨rfl, HD4.out, HS4.out⟩
    · have hF := fmtD_wipe n d h4 h0
      rw [if_neg h0] at HWI
      have h2 : (wipeD n 0 d).2 = 2 := by
        rcases wipeD_code n 0 d with h | h
        · exact absurd h h0
        · exact h
      rw [hF, h2]
      obtain ⟨q, hq⟩ : ∃ q, q = wipeD n 0 d := ⟨_, rfl⟩
      rw [← hq] at HWI ⊢
      have HWI' : Hid (Calls Tryz.prog 80 #[.pointer (some ⟨bd, 0, none⟩), .int .i64 0] w fun e w' => e = .returned (rv (a 1)) ∧ (∃ m', m' ≤ m + n ∧ DskAt w' (tg S w w') bd m' q.1) ∧ Same S w w') := HWI
      clear HWI hF h2 hq h0 HSC l1 l2 l3 hs h h4
      go_enter Tryz.func44, Tryz.ntmps44
      go_wp2_with (first | (go_at_call 62; refine HS1.mono ?_; rintro e w2 ⟨rfl, rfl⟩; clear HS1) | (go_at_call 80; refine HWI'.out.mono ?_; rintro e w3 ⟨rfl, hd3, hs3⟩; have HD3 : Hid (∃ m', m' ≤ m + n ∧ DskAt w3 (tg S w w3) bd m' q.1) := hd3; have HS3 : Hid (Same S w w3) := hs3; clear hd3 hs3 HWI'))
      go_ret
      obtain ⟨m', hm', hd3⟩ := HD3.out
      exact ⟨rfl, ⟨m', by omega, hd3⟩, HS3.out⟩
set_option maxRecDepth 100000 in
theorem plain_format (w0 : World) (a : Nat → Addr) (S0 : Sent w0 a) (bd m : Nat) (S : Nat → Prop) (d : Dsk) (n : Nat) (w : World) (h : DskAt w S bd m d) (hb0 : Below w0.heap.size w0 w) (hS : ∀ g, S g → w0.heap.size ≤ g) (hf : d.fuse ≤ 9223372036854775807) (hn : 0 < n) (hb : n ≤ 4096) (h1 : d.safe.length = n) (hwl : d.wait.length ≤ 800000) (hm : m ≤ 800000) :
    Calls Tryz.prog 25 #[.pointer (some ⟨bd, 0, none⟩)] w fun e w' => e = .returned (.int .i64 ((fmtD n d).2 : Int)) ∧ (∃ m', m' ≤ m + n + 1 ∧ DskAt w' (tg S w w') bd m' (fmtD n d).1) ∧ Same S w w' := by
  have HF : Hid (Calls Tryz.prog 44 #[.pointer (some ⟨bd, 0, none⟩)] w fun e w' => e = .returned (errV a (fmtD n d).2) ∧ (∃ m', m' ≤ m + n + 1 ∧ DskAt w' (tg S w w') bd m' (fmtD n d).1) ∧ Same S w w') := prog_format w0 a S0 bd m S d n w h hb0 hS hf hn hb h1 hwl hm
  have hc : (fmtD n d).2 ≤ 2 := by
    unfold fmtD
    split
    · show 1 ≤ 2; omega
    · split
      · rcases wipeD_code n 0 d with h | h <;> omega
      · split
        · show 2 ≤ 2; omega
        · show Dsk.fcode _ ≤ 2
          unfold Dsk.fcode
          split <;> omega
  obtain ⟨q, hq⟩ : ∃ q, q = fmtD n d := ⟨_, rfl⟩
  rw [← hq] at HF hc ⊢
  have HNB : Hid (∀ w', Same S w w' → Calls Tryz.prog 43 #[errV a q.2] w' fun e w'' => e = .returned (.tuple #[.int .i64 (q.2 : Int), .int .i64 (-1)]) ∧ Below w'.heap.size w' w'') := fun w' hs => number_of q.2 (by omega) a w' (hs.sent S0 hb0 hS)
  obtain ⟨v, hv⟩ : ∃ v, v = errV a q.2 := ⟨_, rfl⟩
  rw [← hv] at HF HNB
  clear hv hq h
  go_enter Tryz.func25, Tryz.ntmps25
  go_wp2_with (first | (go_at_call 44; refine HF.out.mono ?_; rintro e w1 ⟨rfl, hd1, hs1⟩; have HN1 := HNB.out w1 hs1; have HD1 : Hid (∃ m', m' ≤ m + n + 1 ∧ DskAt w1 (tg S w w1) bd m' q.1) := hd1; have HS1 : Hid (Same S w w1) := hs1; clear hd1 hs1 HF HNB) | (go_at_call 43; refine HN1.mono ?_; rintro e w2 ⟨rfl, hb2⟩; have HB2 : Hid (Below w1.heap.size w1 w2) := hb2; clear hb2))
  go_ret
  obtain ⟨m', hm', hd1⟩ := HD1.out
  have hb2 := HB2.out
  exact ⟨rfl, ⟨m', hm', (hd1.on (T := fun _ => False) (.of_below hb2) (fun _ _ h => h)).mono (fun g h => ⟨h.1, Nat.lt_of_lt_of_le h.2 hb2.size⟩)⟩, HS1.out.trans (.of_below hb2)⟩
end Go.Proofs.YtapijhhmjjplmaaGreatDoor
namespace Go.Proofs.YtapijhhmjjplmaaGreatDoor
open Go.RowKit Go.Maps
set_option maxRecDepth 100000 in
theorem prog_newDir (w : World) : Calls Tryz.prog 155 #[] w fun e w' => e = .returned (ptrV (w.heap.size + 1)) ∧ w' = (w.alloc (.map #[] 0)).alloc (.cells #[.string ⟨#[]⟩, .map (some w.heap.size)] 274) := by
  have hmm : ∀ w, (Instr.makeMap 272 none).run Tryz.prog w = .ok (.map (some w.heap.size)) (w.alloc (.map #[] 0)) := fun w => run_makeMap _ w
  go_enter Tryz.func155, Tryz.ntmps155
  go_wp2
  go_ret
  exact ⟨rfl, rfl⟩
/-- A name joins a directory's map. -/
structure Joins (w w2 : World) (bm : Nat) (D : DataW Value) (n : ByteArray) (b : Nat) : Prop where
  own : w2.ownsMap Tryz.prog 9 heldR bm 257 (D.put (.string (bl n)) (.held (ptrV b)))
  same : Same (· = bm) w w2
theorem joins (w : World) (bm : Nat) (D : DataW Value) (n : ByteArray) (b : Nat) (h : w.ownsMap Tryz.prog 9 heldR bm 256 D) (hn : n.size ≤ 1000000) :
    ∃ w2, (Instr.mapUpdate 272 (.map (some bm)) (.string n) (.pointer (some ⟨b, 0, none⟩))).run Tryz.prog w = .ok () w2 ∧ Joins w w2 bm D n b := by
  obtain ⟨w2, h1, h2, h3⟩ := h.update strKey Tryz.underlying272 (by unfold maxLen; omega) (key := .string n) (val := .pointer (some ⟨b, 0, none⟩)) (kl := .string (bl n)) (d := .held (ptrV b)) (ps := []) (WideMaps.keyOf_string_mk Tryz.underlying9 (by unfold maxLen; omega)) rfl
  exact ⟨w2, h1, h2, ⟨h3.os, h3.tape, h3.output, h3.size, fun k hk hne => h3.block k hk (fun e => hne (Option.some.inj e))⟩⟩
/-- What add leaves. -/
def AddPost (w : World) (a : Nat → Addr) (ba bm : Nat) (T : Tre) (q : List ByteArray) (D : DataW Value) (n : ByteArray) (b : Nat) (e : Ending) (w' : World) : Prop := (fullT T q = true ∧ e = .returned (errV a 10) ∧ w = w') ∨ (fullT T q = false ∧ e = .returned .nilIface ∧ ∃ w2, Joins w w2 bm D n b ∧ w' = w2.setCell ⟨ba, 2, none⟩ (.int .i64 ((T.length : Int) + 1)))
set_option maxRecDepth 100000 in
set_option maxHeartbeats 1000000 in
theorem prog_add (ba : Nat) (S : Nat → Prop) (rb : Nat) (T : Tre) (nb mb : List ByteArray → Nat) (a : Nat → Addr) (q : List ByteArray) (n : ByteArray) (b : Nat) (D : DataW Value) (w : World) (h : TreeM w S rb T nb mb) (hT : WFT T) (hq : isNode T q) (hf : isF T q = false) (ho : w.ownsMap Tryz.prog 9 heldR (mb q) 256 D) (hK : Kids T nb q D) (hn : n.size ≤ 1000000)
    (hc : w.cell? ⟨ba, 2, none⟩ = some (.int .i64 (T.length : Int))) (hcf : w.frozen? ⟨ba, 2, none⟩ = false) (hS : ¬ S ba) (hE : w.cell? ⟨9, 0, none⟩ = some (rv (a 9))) :
    Calls Tryz.prog 154 #[.pointer (some ⟨ba, 1, none⟩), ptrV (nb q), .string n, ptrV b] w fun e w' => AddPost w a ba (mb q) T q D n b e w' := by
  have hrow := h.node q hq
  rw [rowN_dir hf] at hrow
  have c1 : w.cell? ⟨nb q, 1, none⟩ = some (.map (some (mb q))) := cell_of_row _ _ _ _ _ _ hrow
  have hlen : ∀ ty, (Builtin.len_ #[272] ty #[.map (some (mb q))]).run Tryz.prog w = .ok (.int .i64 (Maps.size D)) w := fun ty => ho.len Tryz.underlying272 ty
  have hbq := h.sm q hq hf
  obtain ⟨bm, hbm⟩ : ∃ bm, bm = mb q := ⟨_, rfl⟩
  rw [← hbm] at c1 hlen ho hbq ⊢
  rw [(hK.keys hT).2] at hlen
  have hkl : (kidsU T q).length ≤ 256 := Nat.le_trans (kids_len _ _) hT.len
  have hfu : fullT T q = (decide (16 ≤ (kidsU T q).length) || decide (256 ≤ T.length)) := rfl
  obtain ⟨K, hKK⟩ : ∃ K, K = (kidsU T q).length := ⟨_, rfl⟩
  rw [← hKK] at hlen hkl hfu
  obtain ⟨N, hN⟩ : ∃ N, N = T.length := ⟨_, rfl⟩
  have hN256 : N ≤ 256 := by rw [hN]; exact hT.len
  have HNN : Hid (N = T.length) := hN
  rw [← hN] at hc hfu
  have HFU : Hid (fullT T q = (decide (16 ≤ K) || decide (256 ≤ N))) := hfu
  obtain ⟨bq, hbqq⟩ : ∃ bq, bq = nb q := ⟨_, rfl⟩
  have hp : ptrV (nb q) = .pointer (some ⟨bq, 0, none⟩) := by rw [hbqq]; rfl
  have hpb : ptrV b = .pointer (some ⟨b, 0, none⟩) := rfl
  rw [← hbqq] at c1
  rw [hp, hpb]
  by_cases h1 : 16 ≤ K
  · have HP : Hid (fullT T q = true) := by show _ = _; rw [HFU.out, decide_eq_true h1]; rfl
    clear hfu h hK ho hrow hKK hN hbm hbqq hp hpb hbq
    go_enter Tryz.func154, Tryz.ntmps154
    go_wp2
    go_ret
    exact .inl ⟨HP.out, rfl, rfl⟩
  · by_cases h2 : 256 ≤ N
    · have HP : Hid (fullT T q = true) := by show _ = _; rw [HFU.out, decide_eq_true h2, Bool.or_true]
      clear hfu h hK ho hrow hKK hN hbm hbqq hp hpb hbq
      go_enter Tryz.func154, Tryz.ntmps154
      go_wp2
      go_ret
      exact .inl ⟨HP.out, rfl, rfl⟩
    · have HP : Hid (fullT T q = false) := by show _ = _; rw [HFU.out, decide_eq_false h1, decide_eq_false h2]; rfl
      obtain ⟨w2, hrun, hj⟩ := joins w bm D n b ho hn
      have HJ : Hid (Joins w w2 bm D n b) := hj
      have hne : ba ≠ bm := by rintro rfl; exact hS hbq
      have c2 : w2.cell? ⟨ba, 2, none⟩ = some (.int .i64 (N : Int)) := hj.same.cell (by exact hne) hc
      have f2 : w2.frozen? ⟨ba, 2, none⟩ = false := by
        rw [World.frozen?_of_block (w := w) (hj.same.block ba (block_lt_of_cell hc) hne)]
        exact hcf
      clear hfu h hK ho hrow hKK hN hbm hbqq hp hpb hbq hj
      go_enter Tryz.func154, Tryz.ntmps154
      go_wp2
      go_ret
      exact .inr ⟨HP.out, rfl, w2, HJ.out, by rw [← HNN.out]⟩
end Go.Proofs.YtapijhhmjjplmaaGreatDoor
namespace Go.Proofs.YtapijhhmjjplmaaGreatDoor
open Go.RowKit Go.Maps
structure ArcV (w : World) (S : Nat → Prop) (ba bd : Nat) (R : Array Value) (rb : Nat) (nb mb : List ByteArray → Nat) (T : Tre) : Prop where
  blk : w.heap[ba]? = some (.cells R 129 (0, 0))
  sb : S ba
  r0 : R[0]? = some (ptrV bd)
  r1 : R[1]? = some (ptrV rb)
  r2 : R[2]? = some (.int .i64 (T.length : Int))
  tree : TreeM w (fun g => S g ∧ g ≠ ba) rb T nb mb
/-- The program's archive over the disk bd, with the tree T. -/
def ArcP (w : World) (S : Nat → Prop) (ba bd : Nat) (T : Tre) : Prop := ∃ R rb nb mb, ArcV w S ba bd R rb nb mb T
theorem ArcV.on {w w' : World} {S U : Nat → Prop} {ba bd : Nat} {R : Array Value} {rb : Nat} {nb mb : List ByteArray → Nat} {T : Tre} (h : ArcV w S ba bd R rb nb mb T) (hs : Same U w w') (hd : ∀ g, S g → ¬ U g) : ArcV w' S ba bd R rb nb mb T :=
  ⟨by rw [hs.block ba (lt_of_heap' h.blk) (hd ba h.sb)]; exact h.blk, h.sb, h.r0, h.r1, h.r2, h.tree.on hs (fun g hg => hd g hg.1)⟩
theorem ArcP.on {w w' : World} {S U : Nat → Prop} {ba bd : Nat} {T : Tre} (h : ArcP w S ba bd T) (hs : Same U w w') (hd : ∀ g, S g → ¬ U g) : ArcP w' S ba bd T := by
  obtain ⟨R, rb, nb, mb, h⟩ := h
  exact ⟨R, rb, nb, mb, h.on hs hd⟩
theorem ArcP.mono {w : World} {S U : Nat → Prop} {ba bd : Nat} {T : Tre} (h : ArcP w S ba bd T) (hd : ∀ g, S g → U g) : ArcP w U ba bd T := by
  obtain ⟨R, rb, nb, mb, h⟩ := h
  exact ⟨R, rb, nb, mb, h.blk, hd _ h.sb, h.r0, h.r1, h.r2, h.tree.mono (fun g hg => ⟨hd g hg.1, hg.2⟩)⟩
theorem ArcV.c1 {w : World} {S : Nat → Prop} {ba bd : Nat} {R : Array Value} {rb : Nat} {nb mb : List ByteArray → Nat} {T : Tre} (h : ArcV w S ba bd R rb nb mb T) : w.cell? ⟨ba, 1, none⟩ = some (ptrV rb) := by rw [cell_of_row _ _ _ _ _ _ h.blk]; exact h.r1
theorem ArcV.c2 {w : World} {S : Nat → Prop} {ba bd : Nat} {R : Array Value} {rb : Nat} {nb mb : List ByteArray → Nat} {T : Tre} (h : ArcV w S ba bd R rb nb mb T) : w.cell? ⟨ba, 2, none⟩ = some (.int .i64 (T.length : Int)) := by rw [cell_of_row _ _ _ _ _ _ h.blk]; exact h.r2
/-- What a call of the tree leaves. -/
def TPost (w : World) (a : Nat → Addr) (S : Nat → Prop) (ba bd : Nat) (T : Tre) (code : Nat) (e : Ending) (w' : World) : Prop := e = .returned (errV a code) ∧ ArcP w' (fun g => S g ∨ w.heap.size ≤ g) ba bd T ∧ Same S w w'
theorem TPost.refused {w w' : World} {a : Nat → Addr} {S : Nat → Prop} {ba bd : Nat} {T : Tre} {code : Nat} (h : ArcP w S ba bd T) (hb : Below w.heap.size w w') : TPost w a S ba bd T code (.returned (errV a code)) w' :=
  ⟨rfl, (h.on (U := fun _ => False) (below_sameT hb) (fun _ _ h => h)).mono (fun _ h => .inl h), below_sameT hb⟩
/-- The names are counted anew. -/
theorem ArcV.count {w : World} {U : Nat → Prop} {ba bd : Nat} {R : Array Value} {rb : Nat} {T T' : Tre} {nb' mb' : List ByteArray → Nat} (hblk : w.heap[ba]? = some (.cells R 129 (0, 0))) (hS : U ba) (r0 : R[0]? = some (ptrV bd)) (r1 : R[1]? = some (ptrV rb)) (r2 : R[2]? = some (.int .i64 (T.length : Int)))
    (ht : TreeM w (fun g => U g ∧ g ≠ ba) rb T' nb' mb') (n : Int) (hn : n = (T'.length : Int)) : ArcV (w.setCell ⟨ba, 2, none⟩ (.int .i64 n)) U ba bd (R.setIfInBounds 2 (.int .i64 n)) rb nb' mb' T' := by
  have hs : Same (· = ba) w (w.setCell ⟨ba, 2, none⟩ (.int .i64 n)) := Same.setCell (S := (· = ba)) (Same.refl _ w) ⟨ba, 2, none⟩ rfl _
  have h2 : 2 < R.size := by
    rcases Nat.lt_or_ge 2 R.size with h | h
    · exact h
    · rw [Array.getElem?_eq_none h] at r2; cases r2
  refine ⟨heap_setCell_same w ba 2 _ _ _ hblk, hS, ?_, ?_, ?_, ht.on hs (fun g hg => hg.2)⟩
  · rw [Array.getElem?_setIfInBounds]; exact r0
  · rw [Array.getElem?_setIfInBounds]; exact r1
  · rw [Array.getElem?_setIfInBounds, if_pos rfl, if_pos h2, hn]
/-- A node more, behind add. -/
theorem ArcP.more {w w1 w2 w3 : World} {S : Nat → Prop} {ba bd : Nat} {R : Array Value} {rb : Nat} {nb mb : List ByteArray → Nat} {T : Tre} (h : ArcV w S ba bd R rb nb mb T) (hT : WFT T) {l : List ByteArray} (h0 : l ≠ []) (hn : lookT T l = none) (hsp : spotE T l = 0) (x : Itm) (hxl : x.names = l) (b bm : Nat) (D : DataW Value)
    (hT' : WFT (T ++ [x])) (hSl : ∀ g, S g → g < w.heap.size) (hb1 : Below w.heap.size w w1)
    (hs1 : Same (fun _ => False) w1 w2) (hb : w1.heap.size ≤ b ∧ b < w2.heap.size) (hbm : x.dir = true → w1.heap.size ≤ bm ∧ bm < w2.heap.size ∧ bm ≠ b ∧ w2.ownsMap Tryz.prog 9 heldR bm 0 (.map []))
    (hrow : w2.heap[b]? = some (.cells #[.string x.data, .map (if x.dir then some bm else none)] 274 (0, 0)))
    (hD : w1.ownsMap Tryz.prog 9 heldR (mb l.dropLast) 256 D) (hj : Joins w2 w3 (mb l.dropLast) D (lastN l) b) :
    ArcP (w3.setCell ⟨ba, 2, none⟩ (.int .i64 ((T.length : Int) + 1))) (fun g => S g ∨ w.heap.size ≤ g) ba bd (T ++ [x]) ∧ Same S w (w3.setCell ⟨ba, 2, none⟩ (.int .i64 ((T.length : Int) + 1))) := by
  obtain ⟨hq, hqf, -⟩ := spot_node hsp
  have h1 := h.on (U := fun _ => False) (below_sameT hb1) (fun _ _ h => h)
  have hz := hb1.size
  have hab := hSl ba h.sb
  have hmq := h.tree.sm _ hq hqf
  have hmore := h1.tree.more (U := fun g => (S g ∨ w.heap.size ≤ g) ∧ g ≠ ba) hT h0 hn hq hqf x hxl b bm hT' hs1 hb hbm hrow hj.same (fun g hg => ⟨.inl hg.1, hg.2⟩) (fun g hg => ⟨.inr (by omega), by omega⟩) (fun D' hD' => by
    have e : D' = D := by
      obtain ⟨es, c, e1, -, -, e2⟩ := hD'
      obtain ⟨es', c', e1', -, -, e2'⟩ := hD
      rw [hs1.block _ (lt_of_heap' e1') (fun h => h), e1'] at e1
      cases e1
      rw [e2, e2']
    rw [e]
    exact hj.own)
  have hne : ba ≠ mb l.dropLast := fun e => hmq.2 e.symm
  have hblk : w3.heap[ba]? = some (.cells R 129 (0, 0)) := by
    rw [hj.same.block ba (by have := hs1.size; omega) hne, hs1.block ba (by omega) (fun h => h)]
    exact h1.blk
  refine ⟨⟨_, _, _, _, ArcV.count hblk (.inl h.sb) h.r0 h.r1 h.r2 hmore _ (by simp)⟩, ?_⟩
  refine Same.setCell ?_ ⟨ba, 2, none⟩ h.sb _
  have s1 : Same S w w1 := below_sameT hb1
  have s2 : Same S w1 w2 := hs1.weak (fun _ h => h.elim)
  exact (s1.trans s2).trans (hj.same.weak (by rintro g rfl; exact hmq.1))
theorem names_join {l : List ByteArray} (h0 : l ≠ []) : l.dropLast ++ [lastN l] = l := names_last h0
set_option maxRecDepth 100000 in
set_option maxHeartbeats 4000000 in
theorem prog_mkdir (ba bd : Nat) (S : Nat → Prop) (T : Tre) (a : Nat → Addr) (m : Int) (s : ByteArray) (w : World) (h : ArcP w S ba bd T) (hT : WFT T) (hSl : ∀ g, S g → g < w.heap.size) (hV : Vars w a m) (hs : s.size ≤ 262144) :
    Calls Tryz.prog 88 #[.pointer (some ⟨ba, 1, none⟩), .string s] w fun e w' => TPost w a S ba bd (treeP T (mkdirT T) s) (codeP (mkdirE T) s) e w' := by
  have HA : Hid (ArcP w S ba bd T) := h
  obtain ⟨R, rb, nb, mb, h⟩ := h
  have HH : Hid (ArcV w S ba bd R rb nb mb T) := h
  have HT : Hid (WFT T) := hT
  have HSL : Hid (∀ g, S g → g < w.heap.size) := hSl
  have HP : Hid (Calls Tryz.prog 153 #[.pointer (some ⟨ba, 1, none⟩), .string s] w fun e w' => PPlace w a T nb s e w') := prog_place ba _ rb T nb mb a m s w h.tree hT h.c1 hV hs
  have HON : Hid (∀ w', Below w.heap.size w w' → Vars w' a m ∧ ArcV w' S ba bd R rb nb mb T) := fun w' hb => ⟨hV.on hb, h.on (U := fun _ => False) (below_sameT hb) (fun _ _ h => h)⟩
  obtain ⟨cde, hcde⟩ : ∃ c, c = codeP (mkdirE T) s := ⟨_, rfl⟩
  obtain ⟨T2, hT2⟩ : ∃ t, t = treeP T (mkdirT T) s := ⟨_, rfl⟩
  rw [← hcde, ← hT2]
  have HX : Hid (cde = codeP (mkdirE T) s ∧ T2 = treeP T (mkdirT T) s) := ⟨hcde, hT2⟩
  clear h hT hcde hT2 hV hSl
  go_enter Tryz.func88, Tryz.ntmps88
  go_wp2_with fail
  refine HP.out.mono ?_
  rintro e w1 ⟨dv, nm, rfl, hb1, ⟨hc0, rfl, rfl⟩ | ⟨l, hl, h0, hsp, rfl, rfl⟩⟩
  · have HB1 : Hid (Below w.heap.size w w1) := hb1
    obtain ⟨e1, e2⟩ := mkdir_spot hc0
    have HZ := hid_two HX.out.1 HX.out.2 e1 e2
    obtain ⟨c, hc⟩ : ∃ c, c = codeP (spotE T) s := ⟨_, rfl⟩
    rw [← hc] at hc0 HZ ⊢
    have hev : errV a c = rv (a (c - 1)) := by unfold errV; rw [if_neg hc0]
    rw [hev]
    obtain ⟨ad, had⟩ : ∃ ad, ad = a (c - 1) := ⟨_, rfl⟩
    rw [← had] at hev ⊢
    have HEV : Hid (errV a c = rv ad) := hev
    clear hb1 hc0 e1 e2 hc hev had
    go_wp2
    go_ret
    rw [HZ.out.1, HZ.out.2]
    show TPost _ _ _ _ _ _ _ (.returned (rv ad)) _
    rw [← HEV.out]
    exact TPost.refused HA.out HB1.out
  · have HB1 : Hid (Below w.heap.size w w1) := hb1
    have hce : codeP (spotE T) s = 0 := by rw [codeP_some hl h0]; exact hsp
    rw [hce, show errV a 0 = .nilIface from rfl]
    obtain ⟨ok1, ok2⟩ := mkdir_ok hl h0 hsp
    obtain ⟨hV1, hA1⟩ := HON.out w1 hb1
    obtain ⟨hq, hqf, -⟩ := spot_node hsp
    obtain ⟨D, hD, hK⟩ := hA1.tree.map _ hq hqf
    have hrow := hA1.tree.node _ hq
    rw [rowN_dir hqf] at hrow
    have c1 : w1.cell? ⟨nb l.dropLast, 1, none⟩ = some (.map (some (mb l.dropLast))) := cell_of_row _ _ _ _ _ _ hrow
    have hnms : (lastN l).size ≤ 16 := (nmB_size ((pathOf_valid hl).1 _ (lastN_mem h0))).2
    have hE7 := hV1.sent.v7
    have HD : Hid (w1.ownsMap Tryz.prog 9 heldR (mb l.dropLast) 256 D) := hD
    have HK : Hid (Kids T nb l.dropLast D) := hK
    have HADD : Hid (∀ w2, Same (fun _ => False) w1 w2 → ∀ b, Calls Tryz.prog 154 #[.pointer (some ⟨ba, 1, none⟩), ptrV (nb l.dropLast), .string (lastN l), ptrV b] w2 fun e w' => AddPost w2 a ba (mb l.dropLast) T l.dropLast D (lastN l) b e w') := fun w2 hs2 b => by
      have hA2 := hA1.on hs2 (fun _ _ h => h)
      have hb2 : Below w1.heap.size w1 w2 := ⟨hs2.os, hs2.tape, hs2.output, hs2.size, fun k hk => hs2.block k hk (fun h => h)⟩
      exact prog_add ba _ rb T nb mb a l.dropLast (lastN l) b D w2 hA2.tree HT.out hq hqf (ownsMap_heap hD (hs2.block _ (ownsMap_lt hD) (fun h => h))) hK (by omega) hA2.c2 (frozen_of_row _ _ _ _ _ hA2.blk) (fun h => h.2 rfl) (hV1.on hb2).sent.v9
    have hlk : lookT T (l.dropLast ++ [lastN l]) = lookT T l := by rw [names_join h0]
    have HLL : Hid (l ≠ [] ∧ spotE T l = 0 ∧ pathOf s = some l) := ⟨h0, hsp, hl⟩
    obtain ⟨q, hqq⟩ : ∃ q, q = l.dropLast := ⟨_, rfl⟩
    obtain ⟨nm, hnm⟩ : ∃ nm, nm = lastN l := ⟨_, rfl⟩
    have HQ : Hid (q = l.dropLast ∧ nm = lastN l) := ⟨hqq, hnm⟩
    rw [← hqq] at c1 HD HK HADD hlk
    rw [← hnm] at hnms HADD hlk
    rw [← hqq, ← hnm]
    obtain ⟨bq, hbq⟩ : ∃ bq, bq = nb q := ⟨_, rfl⟩
    have hpq : ptrV (nb q) = .pointer (some ⟨bq, 0, none⟩) := by rw [hbq]; rfl
    rw [← hbq] at c1
    rw [hpq] at HADD ⊢
    obtain ⟨bm, hbm⟩ : ∃ bm, bm = mb q := ⟨_, rfl⟩
    have HBM : Hid (bm = mb q) := hbm
    rw [← hbm] at c1 HD HADD
    clear hb1 hl h0 hsp hce hA1 hD hK hrow hqq hnm hbq hpq hbm hq hqf hV1
    cases hx : lookT T l with
    | some x =>
      obtain ⟨e1, e2⟩ := ok1 (by rw [hx]; rfl)
      have HZ := hid_two HX.out.1 HX.out.2 e1 e2
      have HL0 : Hid ((lookT T (q ++ [nm])).isSome = true ∧ ∃ v, (if (lookT T (q ++ [nm])).isSome then ptrV (nb (q ++ [nm])) else Value.pointer none) = .pointer v) := ⟨by rw [hlk, hx]; rfl, by rw [hlk, hx]; exact ⟨_, rfl⟩⟩
      obtain ⟨pv, hpv⟩ := HL0.out.2
      have HPV : Hid ((if (lookT T (q ++ [nm])).isSome then ptrV (nb (q ++ [nm])) else Value.pointer none) = .pointer pv) := hpv
      clear ok1 ok2 e1 e2 hx hlk HADD hpv
      go_wp2_with (at_lookup; refine wpList_lookup_node rfl _ _ rfl bm 256 D T nb q HK.out rfl HD.out nm rfl (by omega) _ _ HPV.out HL0.out.1 ?_)
      go_ret
      rw [HZ.out.1, HZ.out.2]
      exact TPost.refused (code := 8) HA.out HB1.out
    | none =>
      obtain ⟨e1, e2⟩ := ok2 hx
      have HZ := hid_two HX.out.1 HX.out.2 e1 e2
      have HL0 : Hid ((lookT T (q ++ [nm])).isSome = false ∧ (if (lookT T (q ++ [nm])).isSome then ptrV (nb (q ++ [nm])) else Value.pointer none) = .pointer none) := ⟨by rw [hlk, hx]; rfl, by rw [hlk, hx]; rfl⟩
      have HN : Hid (lookT T l = none) := hx
      have HND : Hid (Calls Tryz.prog 155 #[] w1 fun e w' => e = .returned (.pointer (some ⟨w1.heap.size + 1, 0, none⟩)) ∧ w' = (w1.alloc (.map #[] 0)).alloc (.cells #[.string ⟨#[]⟩, .map (some w1.heap.size)] 274)) := prog_newDir w1
      obtain ⟨W2, hW2⟩ : ∃ W2, W2 = (w1.alloc (.map #[] 0)).alloc (.cells #[.string ⟨#[]⟩, .map (some w1.heap.size)] 274) := ⟨_, rfl⟩
      rw [← hW2] at HND
      have hs2 : Same (fun _ => False) w1 W2 := by rw [hW2]; exact (Same.alloc0 w1 _).alloc _
      have HAD2 : Hid (Calls Tryz.prog 154 #[.pointer (some ⟨ba, 1, none⟩), .pointer (some ⟨bq, 0, none⟩), .string nm, .pointer (some ⟨w1.heap.size + 1, 0, none⟩)] W2 fun e w' => AddPost W2 a ba bm T q D nm (w1.heap.size + 1) e w') := HADD.out W2 hs2 (w1.heap.size + 1)
      have HS2 : Hid (Same (fun _ => False) w1 W2 ∧ W2.heap.size = w1.heap.size + 2 ∧ W2.heap[w1.heap.size + 1]? = some (.cells #[.string ⟨#[]⟩, .map (some w1.heap.size)] 274 (0, 0)) ∧ W2.ownsMap Tryz.prog 9 heldR w1.heap.size 0 (.map [])) := by
        refine ⟨hs2, by rw [hW2]; simp, ?_, ?_⟩
        · rw [hW2]
          have := heap_alloc_new (w1.alloc (.map #[] 0)) (.cells #[.string ⟨#[]⟩, .map (some w1.heap.size)] 274)
          simpa using this
        · rw [hW2]
          exact (World.ownsMap_made w1 Tryz.prog 9 heldR).alloc _
      clear ok1 ok2 e1 e2 hx hlk HADD hs2 hW2
      go_wp2_with (first | (at_lookup; refine wpList_lookup_node rfl _ _ rfl bm 256 D T nb q HK.out rfl HD.out nm rfl (by omega) _ _ HL0.out.2 HL0.out.1 ?_) | (go_at_call 155; refine HND.out.mono ?_; rintro e w2 ⟨rfl, rfl⟩))
      refine HAD2.out.mono ?_
      rintro e w3 (⟨hf, rfl, rfl⟩ | ⟨hf, rfl, w3', hj, rfl⟩)
      · rw [← HQ.out.1, hf] at HZ
        obtain ⟨ad, had⟩ : ∃ ad, ad = a 9 := ⟨_, rfl⟩
        have hev : errV a 10 = rv ad := by rw [had]; rfl
        rw [hev]
        have HEV : Hid (errV a 10 = rv ad) := hev
        clear hf hev had
        go_wp2
        go_ret
        rw [HZ.out.1, HZ.out.2]
        show TPost _ _ _ _ _ _ 10 (.returned (rv ad)) _
        rw [← HEV.out]
        refine TPost.refused HA.out (HB1.out.trans ?_)
        exact Below.mono (B := w1.heap.size) ⟨HS2.out.1.os, HS2.out.1.tape, HS2.out.1.output, HS2.out.1.size, fun k hk => HS2.out.1.block k hk (fun h => h)⟩ HB1.out.size
      · rw [← HQ.out.1, hf] at HZ
        have HF : Hid (TPost w a S ba bd (T ++ [⟨l, true, ⟨#[]⟩⟩]) 0 (.returned .nilIface) (w3'.setCell ⟨ba, 2, none⟩ (.int .i64 ((T.length : Int) + 1)))) := by
          obtain ⟨s1, s2, s3, s4⟩ := HS2.out
          obtain ⟨l0, l1, l2⟩ := HLL.out
          have hfu : fullT T l.dropLast = false := by rw [← HQ.out.1]; exact hf
          have hm := ArcP.more HH.out HT.out l0 HN.out l1 ⟨l, true, ⟨#[]⟩⟩ rfl (w1.heap.size + 1) w1.heap.size D (HT.out.append (pathOf_valid l2).1 (pathOf_valid l2).2 l0 l1 HN.out hfu true ⟨#[]⟩ (fun _ => rfl) (by decide)) HSL.out HB1.out s1 ⟨by omega, by omega⟩ (fun _ => ⟨by omega, by omega, by omega, s4⟩) s3 (by rw [← HQ.out.1, ← HBM.out]; exact HD.out) (by rw [← HQ.out.1, ← HQ.out.2, ← HBM.out]; exact hj)
          exact ⟨rfl, hm.1, hm.2⟩
        clear hf hj
        go_wp2
        go_ret
        rw [HZ.out.1, HZ.out.2]
        exact HF.out
end Go.Proofs.YtapijhhmjjplmaaGreatDoor
namespace Go.Proofs.YtapijhhmjjplmaaGreatDoor
open Go.RowKit Go.Maps
set_option maxRecDepth 100000 in
theorem ref_number0 (s : ByteArray) (hs : s.size ≤ 4) (hz : ∀ k (h : k < s.size), s[k].toNat = 0) (w : World) : Calls Tryz.prog 253 #[.string s] w fun e w' => e = .returned (.int .i64 0) ∧ w = w' := by
  have hsi : (s.size : Int) ≤ 4 := by omega
  go_enter Tryz.func253, Tryz.ntmps253
  go_wp2
  go_loop [3, 4] (fun v i => ∃ k : Nat, k ≤ s.size ∧ i = .int .i64 k ∧ v = .int .i64 0) (fun _ i => s.size - (intOf i).toNat)
  case atStart => exact ⟨0, Nat.zero_le _, rfl, rfl⟩
  case round =>
    obtain ⟨k, hk, rfl, rfl⟩ := hrel
    by_cases hlt : k < s.size
    · have hzk := hz k hlt
      have hki : (k : Int) < s.size := by omega
      go_wp2
      go_round
      case rel => exact ⟨k + 1, by omega, by go_num, by simp⟩
      case measure => (simp [intOf]; try omega)
    · have hki : ¬ (k : Int) < s.size := by omega
      go_wp2
      go_ret
      exact ⟨rfl, rfl⟩
set_option maxRecDepth 100000 in
theorem ref_sectors (n : Nat) (hn : n ≤ 1000000) (w : World) : Calls Tryz.prog 125 #[.int .i64 (n : Int)] w fun e w' => e = .returned (.int .i64 (((n + 74) / 64 : Nat) : Int)) ∧ w = w' := by
  go_enter Tryz.func125, Tryz.ntmps125
  go_wp2
  go_ret
  exact ⟨by go_num, rfl⟩
theorem z64_zero (k : Nat) (h : k < z64.size) : z64[k].toNat = 0 := by
  have h1 : (bl z64)[k]? = some z64[k] := bl_get z64 k h
  rw [z64_bl, List.getElem?_replicate] at h1
  split at h1
  · have h2 := Option.some.inj h1
    rw [← h2]
    rfl
  · cases h1
theorem cut2_zero (z : ByteArray) (hz : z = z64) (k : Nat) (h : k < (z.extract 0 2).size) : (z.extract 0 2)[k].toNat = 0 := by
  subst hz
  have h1 := bl_get (z64.extract 0 2) k h
  have e : bl (z64.extract 0 2) = List.replicate 2 0 := by decide
  rw [e, List.getElem?_replicate] at h1
  split at h1
  · have h2 := Option.some.inj h1
    rw [← h2]
    rfl
  · cases h1
theorem results_tmp4 {fn : Func} {t u v x : Tmp} (h : fn.results = #[.tmp t, .tmp u, .tmp v, .tmp x]) (tmps : Array Value) (P : Program) (w : World) :
    (results fn tmps).run P w = .ok (.tuple #[tmps.getD t undef, tmps.getD u undef, tmps.getD v undef, tmps.getD x undef]) w := by
  simp [results, h]
set_option maxRecDepth 100000 in
set_option maxHeartbeats 2000000 in
theorem ref_next0 (ba be gn n cn : Nat) (w : World) (hn : 4 ≤ n) (hn' : n ≤ 4096) (c1 : w.cell? ⟨ba, 1, none⟩ = some (.pointer (some ⟨be, 0, none⟩))) (c2 : w.cell? ⟨ba, 2, none⟩ = some (.int .i64 1)) (c3 : w.cell? ⟨be, 1, none⟩ = some (.slice (some ⟨gn, 0, none⟩) n cn)) (c4 : w.cell? ⟨gn, 1, none⟩ = some (.string z64)) :
    Calls Tryz.prog 189 #[.pointer (some ⟨ba, 0, none⟩)] w fun e w' => e = .returned (.tuple #[.int .i64 0, .string ⟨#[]⟩, .int .i64 0, .bool false]) ∧ Below w.heap.size w w' := by
  have hb := block_lt_of_cell c1
  have hb2 := block_lt_of_cell c3
  have hb3 := block_lt_of_cell c4
  have hzs : z64.size = 64 := z64_size
  have hz2 : z64[2].toNat = 0 := z64_zero 2 (by omega)
  obtain ⟨z, hz⟩ : ∃ z, z = z64 := ⟨_, rfl⟩
  have HN : Hid (∀ w, Calls Tryz.prog 253 #[.string (z.extract 0 2)] w fun e w' => e = .returned (.int .i64 0) ∧ w = w') := fun w => ref_number0 _ (by rw [hz]; decide) (fun k h => cut2_zero z hz k h) w
  have HSE : Hid (∀ w, Calls Tryz.prog 125 #[.int .i64 0] w fun e w' => e = .returned (.int .i64 1) ∧ w = w') := fun w => ref_sectors 0 (by omega) w
  have hz2 : ∀ h : 2 < z.size, z[2].toNat = 0 := by subst hz; exact fun _ => hz2
  rw [← hz] at c4 hzs
  have hz2' := hz2 (by omega)
  clear hz hz2
  have hni : (4 : Int) ≤ n := by omega
  have hni' : (n : Int) ≤ 4096 := by omega
  have hzi : (z.size : Int) = 64 := by omega
  go_enter Tryz.func189, Tryz.ntmps189
  go_wp2
  go_quiet (fail)
  go_wp2
  go_quiet (fail)
  go_wp2_with (first | (go_at_call 253; refine (HN.out _).mono ?_; rintro e w2 ⟨rfl, rfl⟩) | (go_at_call 125; refine (HSE.out _).mono ?_; rintro e w2 ⟨rfl, rfl⟩))
  go_quiet (fail)
  go_wp2
  refine bodyPost_ret (results_tmp4 rfl _ _ _) rfl ?_
  exact ⟨rfl, ⟨rfl, rfl, rfl, Nat.le_refl _, fun _ _ => rfl⟩⟩
/-- A new archive of the reference: its row. -/
def arcR (bm be c : Nat) (tv : Value) : Array Value := #[.pointer (some ⟨bm, 0, none⟩), .pointer (some ⟨be, 0, none⟩), .int .i64 1, .int .i64 1, .int .i64 (c : Int), .slice none 0 0, .slice none 0 0, tv, .bool false]
theorem seen_cells {w : World} {S : Nat → Prop} {be n : Nat} {r : RDsk} (h : RefAt w S be r) (h1 : r.seen.length = n) (hn : 0 < n) : ∃ gn cn, w.cell? ⟨be, 1, none⟩ = some (.slice (some ⟨gn, 0, none⟩) n cn) ∧ S gn ∧ gn < w.heap.size ∧ ∀ k (hk : k < n), w.cell? ⟨gn, k, none⟩ = some (.string (r.seen[k]'(by omega))) := by
  obtain ⟨sv, nv, wv, hv⟩ := h
  obtain ⟨gn, cn, rfl, hS, hc, -⟩ := hv.seen.open (by omega)
  refine ⟨gn, cn, by rw [cell_of_row _ _ _ _ _ _ hv.blk, ← h1]; rfl, hS, OwnS.lt hv.seen rfl, fun k hk => ?_⟩
  rw [hc k (by rw [strs_length]; omega)]
  simp [strs]
/-- There is no archive. -/
theorem ref_mount_no (mv : Value) (be n : Nat) (S : Nat → Prop) (r : RDsk) (w : World) (h : RefAt w S be r) (hn : 0 < n) (hb : n ≤ 4096) (h1 : r.seen.length = n) (hno : n < 4 ∨ r.seen[0]? ≠ some (headS n)) :
    Calls Tryz.prog 120 #[mv, .pointer (some ⟨be, 0, none⟩)] w fun e w' => e = .returned (.tuple #[.pointer none, .int .i64 3]) ∧ Below w.heap.size w w' := by
  obtain ⟨gn, cn, c1, -, hgl, hc⟩ := seen_cells h h1 hn
  have c2 := hc 0 hn
  have hbl := block_lt_of_cell c1
  have hx0 : r.seen[0]? = some r.seen[0] := List.getElem?_eq_getElem _
  rw [hx0] at hno
  obtain ⟨x, hx⟩ : ∃ x, x = r.seen[0] := ⟨_, rfl⟩
  rw [← hx] at c2 hno
  have HSU : Hid (∀ w, Calls Tryz.prog 188 #[.int .i64 (n : Int)] w fun e w' => e = .returned (.tuple #[.string (headS n), .int .i64 (headC n : Int)]) ∧ Below w.heap.size w w') := fun w => ref_super n w (by omega)
  obtain ⟨hd, hhd⟩ : ∃ hd, hd = headS n := ⟨_, rfl⟩
  obtain ⟨hc', hhc⟩ : ∃ hc, hc = headC n := ⟨_, rfl⟩
  rw [← hhd] at HSU hno
  rw [← hhc] at HSU
  have HC : Hid (∀ w1, Below w.heap.size w w1 → w1.cell? ⟨be, 1, none⟩ = some (.slice (some ⟨gn, 0, none⟩) n cn) ∧ w1.cell? ⟨gn, 0, none⟩ = some (.string x)) := fun w1 hb => ⟨cell_on hb c1 hbl, cell_on hb c2 hgl⟩
  clear hc h hhd hhc hx hx0 c2
  have hni : (0 : Int) < n := by omega
  have hni' : (n : Int) ≤ 4096 := by omega
  by_cases h4 : n < 4
  · have h4i : (n : Int) < 4 := by omega
    clear hno
    go_enter Tryz.func120, Tryz.ntmps120
    go_wp2_with fail
    refine (HSU.out _).mono ?_
    rintro e w1 ⟨rfl, hb1⟩
    obtain ⟨d1, d2⟩ := HC.out _ hb1
    have HB : Hid (Below w.heap.size w w1) := hb1
    clear hb1 HC HSU c1
    go_wp2
    refine bodyPost_ret (results_tmp2 rfl _ _ _) rfl ?_
    exact ⟨rfl, HB.out⟩
  · have h4i : ¬ (n : Int) < 4 := by omega
    have hne : (x.toList == hd.toList) = false := by
      rw [str_beq, decide_eq_false_iff_not]
      rcases hno with h | h
      · exact absurd h h4
      · exact fun e => h (by rw [e])
    clear hno
    go_enter Tryz.func120, Tryz.ntmps120
    go_wp2_with fail
    refine (HSU.out _).mono ?_
    rintro e w1 ⟨rfl, hb1⟩
    obtain ⟨d1, d2⟩ := HC.out _ hb1
    have HB : Hid (Below w.heap.size w w1) := hb1
    clear hb1 HC HSU c1
    go_wp2
    refine bodyPost_ret (results_tmp2 rfl _ _ _) rfl ?_
    exact ⟨rfl, HB.out⟩
set_option maxRecDepth 100000 in
set_option maxHeartbeats 2000000 in
/-- There is one, and nothing is kept. -/
theorem ref_mount (bm be n : Nat) (S : Nat → Prop) (r : RDsk) (w : World) (h : RefAt w S be r) (hn : 4 ≤ n) (hb : n ≤ 4096) (h1 : r.seen.length = n) (h2 : r.safe.length = n) (hwt : r.wait.length ≤ 800000) (hx : r.seen[0]? = some (headS n)) (hz : r.seen[1]? = some z64) (h0 : (wipeR (n - 1) 1 r).2 = 0) (hS : ∀ g, S g → g < w.heap.size) :
    Calls Tryz.prog 120 #[.pointer (some ⟨bm, 0, none⟩), .pointer (some ⟨be, 0, none⟩)] w fun e w' => ∃ ba, w.heap.size ≤ ba ∧ e = .returned (.tuple #[.pointer (some ⟨ba, 0, none⟩), .int .i64 0]) ∧ w'.heap[ba]? = some (.cells (arcR bm be (headC n) (.slice none 0 0)) 218 (0, 0)) ∧ RefAt w' (up S (ba + 1)) be (wipeR (n - 1) 1 r).1 ∧ Same S w w' := by
  obtain ⟨gn, cn, c1, hgS, hgl, hc⟩ := seen_cells h h1 (by omega)
  have c2 := hc 0 (by omega)
  have c3 := hc 1 (by omega)
  have hbl := block_lt_of_cell c1
  have hx0 : r.seen[0]? = some r.seen[0] := List.getElem?_eq_getElem _
  have hz0 : r.seen[1]? = some r.seen[1] := List.getElem?_eq_getElem _
  rw [hx0] at hx
  rw [hz0] at hz
  rw [Option.some.inj hx] at c2
  rw [Option.some.inj hz] at c3
  have HSU : Hid (∀ w, Calls Tryz.prog 188 #[.int .i64 (n : Int)] w fun e w' => e = .returned (.tuple #[.string (headS n), .int .i64 (headC n : Int)]) ∧ Below w.heap.size w w') := fun w => ref_super n w (by omega)
  have HH : Hid (RefAt w S be r ∧ r.seen.length = n ∧ r.safe.length = n ∧ r.wait.length ≤ 800000 ∧ (wipeR (n - 1) 1 r).2 = 0) := ⟨h, h1, h2, hwt, h0⟩
  obtain ⟨hd, hhd⟩ : ∃ hd, hd = headS n := ⟨_, rfl⟩
  obtain ⟨hc', hhc⟩ : ∃ hc, hc = headC n := ⟨_, rfl⟩
  rw [← hhd] at HSU c2
  rw [← hhc] at HSU ⊢
  have HC : Hid (∀ w1, Below w.heap.size w w1 → w1.cell? ⟨be, 1, none⟩ = some (.slice (some ⟨gn, 0, none⟩) n cn) ∧ w1.cell? ⟨gn, 0, none⟩ = some (.string hd) ∧ w1.cell? ⟨gn, 1, none⟩ = some (.string z64)) := fun w1 hb => ⟨cell_on hb c1 hbl, cell_on hb c2 hgl, cell_on hb c3 hgl⟩
  clear hc h hhd hhc hx hz hx0 hz0 c2 c3 h1 h2 hwt h0
  have hni : (4 : Int) ≤ n := by omega
  have hni' : (n : Int) ≤ 4096 := by omega
  have hne : (hd.toList == hd.toList) = true := by rw [str_beq, decide_eq_true_iff]
  go_enter Tryz.func120, Tryz.ntmps120
  go_wp2_with fail
  refine (HSU.out _).mono ?_
  rintro e w1 ⟨rfl, hb1⟩
  obtain ⟨d1, d2, d3⟩ := HC.out _ hb1
  have HB : Hid (Below w.heap.size w w1) := hb1
  have hsz := hb1.size
  clear hb1 HSU c1
  go_wp2
  obtain ⟨w2, hw2⟩ : ∃ w2, w2 = w1.alloc (.cells (arcR bm be hc' (.slice none 0 0)) 218) := ⟨_, rfl⟩
  have hw2' := hw2
  unfold arcR at hw2'
  rw [← hw2']
  have hrow : w2.heap[w1.heap.size]? = some (.cells (arcR bm be hc' (.slice none 0 0)) 218 (0, 0)) := by rw [hw2]; exact heap_alloc_new w1 _
  have hb2 : Below w.heap.size w w2 := by rw [hw2]; exact HB.out.alloc HB.out.size _
  have hs2 : w2.heap.size = w1.heap.size + 1 := by rw [hw2]; simp
  obtain ⟨b, hbb⟩ : ∃ b, b = w1.heap.size := ⟨_, rfl⟩
  rw [← hbb] at hrow hs2 hsz ⊢
  have k1 : w2.cell? ⟨b, 1, none⟩ = some (.pointer (some ⟨be, 0, none⟩)) := cell_of_row _ _ _ _ _ _ hrow
  have k2 : w2.cell? ⟨b, 2, none⟩ = some (.int .i64 1) := cell_of_row _ _ _ _ _ _ hrow
  obtain ⟨e1, e2, e3⟩ := HC.out w2 hb2
  have HNX : Hid (Calls Tryz.prog 189 #[.pointer (some ⟨b, 0, none⟩)] w2 fun e w' => e = .returned (.tuple #[.int .i64 0, .string ⟨#[]⟩, .int .i64 0, .bool false]) ∧ Below w2.heap.size w2 w') := ref_next0 b be gn n cn w2 hn hb k1 k2 e1 e3
  have HR2 : Hid (w2.heap[b]? = some (.cells (arcR bm be hc' (.slice none 0 0)) 218 (0, 0)) ∧ Below w.heap.size w w2 ∧ w2.heap.size = b + 1 ∧ w.heap.size ≤ b) := ⟨hrow, hb2, hs2, hsz⟩
  clear hw2' hw2 hrow hb2 hs2 HB d1 d2 d3 HC k1 k2 e1 e2 e3 hbb hsz
  have hnot : ∀ (x : Bool) (w : World), (Op.unary .not (.bool x)).run Tryz.prog w = .ok (.bool (!x)) w := fun _ _ => rfl
  go_loopw [9] (fun _ wr => Hid (wr = w2)) (fun _ _ => 0)
  case atStart => exact rfl
  case round =>
    have hwe := hrel.out
    subst hwe
    go_wp2_with fail
    refine HNX.out.mono ?_
    rintro e w3 ⟨rfl, hb3⟩
    have HK : Hid (w3.heap[b]? = some (.cells (arcR bm be hc' (.slice none 0 0)) 218 (0, 0)) ∧ Below w.heap.size w w3 ∧ b + 1 ≤ w3.heap.size ∧ w.heap.size ≤ b) := by
      obtain ⟨hrow, hb2, hs2, hsz⟩ := HR2.out
      exact ⟨by rw [hb3.block _ (by omega)]; exact hrow, hb2.trans (hb3.mono hb2.size), by have := hb3.size; omega, hsz⟩
    have k2 : w3.cell? ⟨b, 2, none⟩ = some (.int .i64 1) := cell_of_row _ _ _ _ _ _ HK.out.1
    have HWP : Hid (Calls Tryz.prog 187 #[.pointer (some ⟨be, 0, none⟩), .int .i64 1] w3 fun e w' => e = .returned (.int .i64 0) ∧ RefAt w' (up S w3.heap.size) be (wipeR (n - 1) 1 r).1 ∧ Same S w3 w') := by
      obtain ⟨h, h1, h2, hwt, h0⟩ := HH.out
      obtain ⟨hrow, hb2, hs2, hsz⟩ := HK.out
      have hr3 : RefAt w3 S be r := h.on (.of_below hb2 : Same (fun _ => False) _ _) (fun _ _ h => h)
      have := ref_wipe be S r n 1 w3 hr3 (by omega) hb h1 h2 (by omega) (by omega)
      rw [h0] at this
      exact this
    have HGS : Hid (S b → False) := fun h => by have := hS b h; have := HK.out.2.2.2; omega
    clear HR2 HNX hb3 hrel
    go_wp2_with (go_at_call 187; refine HWP.out.mono ?_; rintro e w4 ⟨rfl, hr4, hs4⟩; have HR4 : Hid (RefAt w4 (up S w3.heap.size) be (wipeR (n - 1) 1 r).1) := hr4; have HS4 : Hid (Same S w3 w4) := hs4; clear hr4 hs4 HWP)
    refine bodyPost_ret (results_tmp2 rfl _ _ _) rfl ?_
    obtain ⟨hrow, hb2, hs2, hsz⟩ := HK.out
    refine ⟨b, hsz, rfl, ?_, HR4.out.mono ?_, (Same.of_below hb2).trans HS4.out⟩
    · rw [HS4.out.block b (by omega) HGS.out]
      exact hrow
    · rintro g (h | h)
      · exact .inl h
      · exact .inr (by omega)
end Go.Proofs.YtapijhhmjjplmaaGreatDoor
namespace Go.Proofs.YtapijhhmjjplmaaGreatDoor
open Go.RowKit Go.Maps
theorem heap3 (w : World) (A B C : Obj) : (((w.alloc A).alloc B).alloc C).heap[w.heap.size]? = some A ∧ (((w.alloc A).alloc B).alloc C).heap[w.heap.size + 1]? = some B ∧ (((w.alloc A).alloc B).alloc C).heap[w.heap.size + 2]? = some C ∧ (((w.alloc A).alloc B).alloc C).heap.size = w.heap.size + 3 ∧ Below w.heap.size w (((w.alloc A).alloc B).alloc C) := by
  have s1 : (w.alloc A).heap.size = w.heap.size + 1 := by simp
  have s2 : ((w.alloc A).alloc B).heap.size = w.heap.size + 2 := by simp
  refine ⟨?_, ?_, ?_, by simp, (((Below.refl _ _).alloc (Nat.le_refl _) _).alloc (by omega) _).alloc (by omega) _⟩
  · rw [heapOldI _ _ (by omega), heapOldI _ _ (by omega)]
    exact heap_alloc_new w A
  · rw [heapOldI _ _ (by omega), ← s1]
    exact heap_alloc_new _ B
  · rw [← s2]
    exact heap_alloc_new _ C
set_option maxRecDepth 100000 in
theorem prog_newTree (w : World) : Calls Tryz.prog 151 #[] w fun e w' => e = .returned (.agg #[.pointer (some ⟨w.heap.size + 2, 0, none⟩), .int .i64 0]) ∧ Below w.heap.size w w' ∧ w'.heap.size = w.heap.size + 3 ∧ w'.heap[w.heap.size + 1]? = some (.map #[] 0) ∧ w'.heap[w.heap.size + 2]? = some (.cells #[.string ⟨#[]⟩, .map (some (w.heap.size + 1))] 274 (0, 0)) := by
  have H1 : ∀ w, Calls Tryz.prog 155 #[] w fun e w' => e = .returned (.pointer (some ⟨w.heap.size + 1, 0, none⟩)) ∧ w' = (w.alloc (.map #[] 0)).alloc (.cells #[.string ⟨#[]⟩, .map (some w.heap.size)] 274) := prog_newDir
  go_enter Tryz.func151, Tryz.ntmps151
  go_wp2_with (go_at_call 155; refine (H1 _).mono ?_; rintro e w1 ⟨rfl, hw1⟩)
  refine bodyPost_ret (results_cell_row (p := 0) (ty := 113) rfl _ _ w.heap.size 113 #[.pointer (some ⟨w.heap.size + 1 + 1, 0, none⟩), .int .i64 0] (0, 0) _ rfl ?hg Tryz.underlying113 rfl (by kernel_rfl)) rfl ?_
  case hg => exact (heap3 _ _ _ _).1
  obtain ⟨-, h1, h2, h3, h4⟩ := heap3 w (.cells #[.pointer (some ⟨w.heap.size + 1 + 1, 0, none⟩), .int .i64 0] 113) (.map #[] 0) (.cells #[.string ⟨#[]⟩, .map (some (w.heap.size + 1))] 274)
  exact ⟨rfl, h4, h3, h1, h2⟩
set_option maxRecDepth 100000 in
theorem prog_firstTip (n : Nat) (hn : n ≤ 4096) (w : World) : Calls Tryz.prog 147 #[.int .i64 (n : Int)] w fun e w' => e = .returned (.agg #[.int .i64 1, .int .u32 0, .int .u32 (headC n : Int)]) ∧ Below w.heap.size w w' := by
  have H1 : Hid (∀ w, Calls Tryz.prog 145 #[.int .i64 (n : Int)] w fun e w' => e = .returned (.int .u32 (headC n : Int)) ∧ Below w.heap.size w w') := fun w => prog_headCRC n hn w
  obtain ⟨c, hc⟩ : ∃ c, c = headC n := ⟨_, rfl⟩
  rw [← hc] at H1 ⊢
  clear hc
  go_enter Tryz.func147, Tryz.ntmps147
  go_wp2_with fail
  refine (H1.out _).mono ?_
  rintro e w1 ⟨rfl, hb1⟩
  have hsz := hb1.size
  have hrow : w1.heap[w.heap.size]? = some (.cells #[.int .i64 0, .int .u32 0, .int .u32 0] 119 (0, 0)) := by
    rw [hb1.block _ (by simp)]
    exact heap_alloc_new w _
  have c0 : w1.cell? ⟨w.heap.size, 0, none⟩ = some (.int .i64 0) := cell_of_row _ _ _ _ _ _ hrow
  have c1 : w1.cell? ⟨w.heap.size, 1, none⟩ = some (.int .u32 0) := cell_of_row _ _ _ _ _ _ hrow
  have c2 : w1.cell? ⟨w.heap.size, 2, none⟩ = some (.int .u32 0) := cell_of_row _ _ _ _ _ _ hrow
  have f0 := frozen_of_row w1 w.heap.size 0 _ _ hrow
  have f1 := frozen_of_row w1 w.heap.size 1 _ _ hrow
  have f2 := frozen_of_row w1 w.heap.size 2 _ _ hrow
  have HB : Hid (Below w.heap.size w w1) := ((Below.refl _ _).alloc (Nat.le_refl _) _).trans (hb1.mono (by simp))
  have HR : Hid (w1.heap[w.heap.size]? = some (.cells #[.int .i64 0, .int .u32 0, .int .u32 0] 119 (0, 0))) := hrow
  clear hb1 hrow
  go_wp2
  refine bodyPost_ret (results_cell_row (p := 2) (ty := 119) rfl _ _ w.heap.size 119 #[.int .i64 1, .int .u32 0, .int .u32 (c : Int)] (0, 0) _ rfl ?hg Tryz.underlying119 rfl (by kernel_rfl)) rfl ?_
  case hg => 
    rw [heap_setCell_same _ w.heap.size 2 _ _ _ (heap_setCell_same _ w.heap.size 1 _ _ _ (heap_setCell_same _ w.heap.size 0 _ _ _ HR.out))]
    rfl
  exact ⟨rfl, ((HB.out.setCell (Nat.le_refl _) _).setCell (Nat.le_refl _) _).setCell (Nat.le_refl _) _⟩
theorem set3 (w : World) (g : Nat) (x y z a b c : Value) (t : TypeId) (h : w.heap[g]? = some (.cells #[x, y, z] t (0, 0))) :
    (((w.setCell ⟨g, 0, none⟩ a).setCell ⟨g, 1, none⟩ b).setCell ⟨g, 2, none⟩ c).heap[g]? = some (.cells #[a, b, c] t (0, 0)) ∧ Same (· = g) w (((w.setCell ⟨g, 0, none⟩ a).setCell ⟨g, 1, none⟩ b).setCell ⟨g, 2, none⟩ c) := by
  refine ⟨?_, (((Same.refl (· = g) w).setCell ⟨g, 0, none⟩ rfl a).setCell ⟨g, 1, none⟩ rfl b).setCell ⟨g, 2, none⟩ rfl c⟩
  rw [heap_setCell_same _ g 2 _ _ _ (heap_setCell_same _ g 1 _ _ _ (heap_setCell_same _ g 0 _ _ _ h))]
  rfl
theorem results_cell_cell_tmp {fn : Func} {p q u : Tmp} {ty ty' : TypeId} (h : fn.results = #[.cell p ty, .cell q ty', .tmp u]) (tmps : Array Value) (P : Program) (w : World) :
    (results fn tmps).run P w =
      ((asAddr (tmps.getD p undef)).run P w).andThen fun a w₁ => ((loadVar ty a).run P w₁).andThen fun v w₂ => ((asAddr (tmps.getD q undef)).run P w₂).andThen fun a' w₃ => ((loadVar ty' a').run P w₃).andThen fun v' w₄ => .ok (.tuple #[v, v', tmps.getD u undef]) w₄ := by
  simp only [results, h]
  simp [Sem.run_bind, Result.andThen]
theorem z64_some : ∃ z, z = z64 ∧ ∃ h : z.size = 64, ∀ k (hk : k < 64), (z[k]'(by omega)).toNat = 0 := ⟨z64, rfl, z64_size, fun k hk => z64_zero k (by rw [z64_size]; exact hk)⟩
set_option maxRecDepth 100000 in
set_option maxHeartbeats 2000000 in
/-- There is no record in a sector of zeros. -/
theorem prog_tip0 (bd m n : Nat) (S : Nat → Prop) (d : Dsk) (c : Nat) (tv : Value) (w : World) (h : DskAt w S bd m d) (hn : 4 ≤ n) (hb : n ≤ 4096) (h1 : d.safe.length = n) (hz : d.at 1 (by omega) = z64) (hSl : ∀ g, S g → g < w.heap.size) :
    Calls Tryz.prog 148 #[.agg #[.int .i64 1, .int .u32 0, .int .u32 (c : Int)], .pointer (some ⟨bd, 0, none⟩), tv] w fun e w' => e = .returned (.tuple #[.agg #[.int .u8 0, .int .i64 0, .string ⟨#[]⟩], .agg #[.int .i64 0, .int .u32 0, .int .u32 0], .bool false]) ∧ DskAt w' S bd m d ∧ Same S w w' := by
  have HRD : Hid (∀ w2, Below w.heap.size w w2 → Calls Tryz.prog 104 #[.pointer (some ⟨bd, 0, none⟩), .int .i64 1] w2 fun e w' => e = .returned (.tuple #[.string z64, .nilIface]) ∧ DskAt w' S bd m d ∧ Same S w2 w') := by
    intro w2 hb2
    have := dsk_read bd m S d 1 w2 (h.on (T := fun _ => False) (.of_below hb2) (fun _ _ h => h)) (by omega) (by omega)
    rw [hz] at this
    exact this
  obtain ⟨z, hzz, hzs, hzk⟩ := z64_some
  have hz0 := hzk 0 (by omega)
  have hz1 := hzk 1 (by omega)
  have hz2 := hzk 2 (by omega)
  clear hz hzk
  rw [← hzz] at HRD
  have hzi : (z.size : Int) = 64 := by omega
  clear hzz h
  go_enter Tryz.func148, Tryz.ntmps148
  go_wp2_with fail
  obtain ⟨hr0, hr1, hr2, hr3, hr4⟩ := heap3 w (.cells #[.int .i64 1, .int .u32 0, .int .u32 (c : Int)] 119) (.cells #[.int .u8 0, .int .i64 0, .string ⟨#[]⟩] 261) (.cells #[.int .i64 0, .int .u32 0, .int .u32 0] 119)
  refine (HRD.out _ hr4).mono ?_
  rintro e w2 ⟨rfl, hd2, hs2⟩
  have hn1 : ¬ S (w.heap.size + 1) := fun h => by have := hSl _ h; omega
  have hn2 : ¬ S (w.heap.size + 2) := fun h => by have := hSl _ h; omega
  have k1 : w2.heap[w.heap.size + 1]? = some (.cells #[.int .u8 0, .int .i64 0, .string ⟨#[]⟩] 261 (0, 0)) := by rw [hs2.block _ (by omega) hn1]; exact hr1
  have k2 : w2.heap[w.heap.size + 1 + 1]? = some (.cells #[.int .i64 0, .int .u32 0, .int .u32 0] 119 (0, 0)) := by rw [hs2.block _ (by omega) hn2]; exact hr2
  have c10 : w2.cell? ⟨w.heap.size + 1, 0, none⟩ = some (.int .u8 0) := cell_of_row _ _ _ _ _ _ k1
  have c11 : w2.cell? ⟨w.heap.size + 1, 1, none⟩ = some (.int .i64 0) := cell_of_row _ _ _ _ _ _ k1
  have c12 : w2.cell? ⟨w.heap.size + 1, 2, none⟩ = some (.string ⟨#[]⟩) := cell_of_row _ _ _ _ _ _ k1
  have c20 : w2.cell? ⟨w.heap.size + 1 + 1, 0, none⟩ = some (.int .i64 0) := cell_of_row _ _ _ _ _ _ k2
  have c21 : w2.cell? ⟨w.heap.size + 1 + 1, 1, none⟩ = some (.int .u32 0) := cell_of_row _ _ _ _ _ _ k2
  have c22 : w2.cell? ⟨w.heap.size + 1 + 1, 2, none⟩ = some (.int .u32 0) := cell_of_row _ _ _ _ _ _ k2
  have f10 := frozen_of_row w2 (w.heap.size + 1) 0 _ _ k1
  have f11 := frozen_of_row w2 (w.heap.size + 1) 1 _ _ k1
  have f12 := frozen_of_row w2 (w.heap.size + 1) 2 _ _ k1
  have f20 := frozen_of_row w2 (w.heap.size + 1 + 1) 0 _ _ k2
  have f21 := frozen_of_row w2 (w.heap.size + 1 + 1) 1 _ _ k2
  have f22 := frozen_of_row w2 (w.heap.size + 1 + 1) 2 _ _ k2
  have HK : Hid (w2.heap[w.heap.size + 1]? = some (.cells #[.int .u8 0, .int .i64 0, .string ⟨#[]⟩] 261 (0, 0)) ∧ w2.heap[w.heap.size + 1 + 1]? = some (.cells #[.int .i64 0, .int .u32 0, .int .u32 0] 119 (0, 0)) ∧ DskAt w2 S bd m d ∧ Same S w w2) := ⟨k1, k2, hd2, (Same.of_below hr4).trans hs2⟩
  have hor : bits .or .i64 0 0 = 0 := by decide
  clear hr0 hr1 hr2 hr3 hr4 k1 k2 hd2 hs2 HRD
  go_wp2
  go_quiet (fail)
  go_wp2
  obtain ⟨k1, k2, hd2, hs2⟩ := HK.out
  obtain ⟨a1, a2⟩ := set3 (w2.drewN nq) (w.heap.size + 1) _ _ _ (.int .u8 0) (.int .i64 0) (.string ⟨#[]⟩) _ k1
  have hs3 : Same (· = w.heap.size + 1) w2 _ := (⟨rfl, rfl, rfl, Nat.le_refl _, fun _ _ _ => rfl⟩ : Same (· = w.heap.size + 1) w2 (w2.drewN nq)).trans a2
  obtain ⟨w3, hw3⟩ : ∃ w3, w3 = (((w2.drewN nq).setCell ⟨w.heap.size + 1, 0, none⟩ (.int .u8 0)).setCell ⟨w.heap.size + 1, 1, none⟩ (.int .i64 0)).setCell ⟨w.heap.size + 1, 2, none⟩ (.string ⟨#[]⟩) := ⟨_, rfl⟩
  rw [← hw3] at a1 hs3 ⊢
  have k3 : w3.heap[w.heap.size + 1 + 1]? = some (.cells #[.int .i64 0, .int .u32 0, .int .u32 0] 119 (0, 0)) := by rw [hs3.block _ (lt_of_heap' k2) (by omega)]; exact k2
  obtain ⟨b1, b2⟩ := set3 w3 (w.heap.size + 1 + 1) _ _ _ (.int .i64 0) (.int .u32 0) (.int .u32 0) _ k3
  have hs4 : Same (fun g => g = w.heap.size + 1 ∨ g = w.heap.size + 1 + 1) w2 _ := (hs3.weak fun _ h => .inl h).trans (b2.weak fun _ h => .inr h)
  obtain ⟨w4, hw4⟩ : ∃ w4, w4 = ((w3.setCell ⟨w.heap.size + 1 + 1, 0, none⟩ (.int .i64 0)).setCell ⟨w.heap.size + 1 + 1, 1, none⟩ (.int .u32 0)).setCell ⟨w.heap.size + 1 + 1, 2, none⟩ (.int .u32 0) := ⟨_, rfl⟩
  rw [← hw4] at b1 b2 hs4 ⊢
  have a4 : w4.heap[w.heap.size + 1]? = some (.cells #[.int .u8 0, .int .i64 0, .string ⟨#[]⟩] 261 (0, 0)) := by rw [b2.block _ (lt_of_heap' a1) (by omega)]; exact a1
  have l1 := run_loadVar_row w4 _ _ 261 _ _ _ a4 Tryz.underlying261 rfl (by kernel_rfl)
  have l2 := run_loadVar_row w4 _ _ 119 _ _ _ b1 Tryz.underlying119 rfl (by kernel_rfl)
  refine bodyPost_ret (v := .tuple #[.agg #[.int .u8 0, .int .i64 0, .string ⟨#[]⟩], .agg #[.int .i64 0, .int .u32 0, .int .u32 0], .bool false]) ?_ rfl ⟨rfl, hd2.on hs4 ?_, hs2.then (hs4.weak ?_)⟩
  · rw [results_cell_cell_tmp rfl]
    simp [asAddr, Result.andThen, l1, l2]
  · intro g hg h
    have := hSl g hg
    omega
  · intro g h
    exact .inr (by omega)
end Go.Proofs.YtapijhhmjjplmaaGreatDoor
namespace Go.Proofs.YtapijhhmjjplmaaGreatDoor
open Go.RowKit Go.Maps
set_option maxRecDepth 100000 in
set_option maxHeartbeats 2000000 in
theorem prog_each0 (bd m n : Nat) (S : Nat → Prop) (d : Dsk) (tv : Addr) (fn : Fn) (fa fc : Array Value) (w : World) (h : DskAt w S bd m d) (hn : 4 ≤ n) (hb : n ≤ 4096) (h1 : d.safe.length = n) (hz : d.at 1 (by omega) = z64) (hSl : ∀ g, S g → g < w.heap.size) :
    Calls Tryz.prog 85 #[.pointer (some ⟨bd, 0, none⟩), .pointer (some tv), .func fn fa fc] w fun e w' => e = .returned (.agg #[.int .i64 1, .int .u32 0, .int .u32 (headC n : Int)]) ∧ DskAt w' S bd m d ∧ Same S w w' := by
  have HS : Hid (∀ w2, Below w.heap.size w w2 → Calls Tryz.prog 62 #[.pointer (some ⟨bd, 0, none⟩)] w2 fun e w' => e = .returned (.int .i64 (n : Int)) ∧ w2 = w') := by
    intro w2 hb2
    have := dsk_sectors bd m S d w2 (h.on (T := fun _ => False) (.of_below hb2) (fun _ _ h => h))
    rw [h1] at this
    exact this
  have HT : Hid (∀ w, Calls Tryz.prog 147 #[.int .i64 (n : Int)] w fun e w' => e = .returned (.agg #[.int .i64 1, .int .u32 0, .int .u32 (headC n : Int)]) ∧ Below w.heap.size w w') := fun w => prog_firstTip n hb w
  have HR : Hid (∀ w2, Below w.heap.size w w2 → Calls Tryz.prog 148 #[.agg #[.int .i64 1, .int .u32 0, .int .u32 (headC n : Int)], .pointer (some ⟨bd, 0, none⟩), .pointer (some tv)] w2 fun e w' => e = .returned (.tuple #[.agg #[.int .u8 0, .int .i64 0, .string ⟨#[]⟩], .agg #[.int .i64 0, .int .u32 0, .int .u32 0], .bool false]) ∧ DskAt w' S bd m d ∧ Same S w2 w') := fun w2 hb2 => prog_tip0 bd m n S d (headC n) _ w2 (h.on (T := fun _ => False) (.of_below hb2) (fun _ _ h => h)) hn hb h1 hz (fun g hg => Nat.lt_of_lt_of_le (hSl g hg) hb2.size)
  obtain ⟨c, hc⟩ : ∃ c, c = headC n := ⟨_, rfl⟩
  rw [← hc] at HT HR ⊢
  clear hc h h1 hz
  have hnot : ∀ (x : Bool) (w : World), (Op.unary .not (.bool x)).run Tryz.prog w = .ok (.bool (!x)) w := fun _ _ => rfl
  go_enter Tryz.func85, Tryz.ntmps85
  go_wp2_with fail
  refine (HS.out _ ((Below.refl _ _).alloc (Nat.le_refl _) _)).mono ?_
  rintro e w1 ⟨rfl, rfl⟩
  go_wp2_with fail
  refine (HT.out _).mono ?_
  rintro e w1 ⟨rfl, hb1⟩
  have hsz := hb1.size
  have hrow : w1.heap[w.heap.size]? = some (.cells #[.int .i64 0, .int .u32 0, .int .u32 0] 119 (0, 0)) := by
    rw [hb1.block _ (by simp)]
    exact heap_alloc_new w _
  have HB1 : Hid (Below w.heap.size w w1) := ((Below.refl _ _).alloc (Nat.le_refl _) _).trans (hb1.mono (by simp))
  have HR1 : Hid (w1.heap[w.heap.size]? = some (.cells #[.int .i64 0, .int .u32 0, .int .u32 0] 119 (0, 0))) := hrow
  clear hb1 hrow HS HT
  go_wp2
  obtain ⟨w2, hw2⟩ : ∃ w2, w2 = w1.alloc (.cells #[.int .i64 1, .int .u32 0, .int .u32 (c : Int)] 119) := ⟨_, rfl⟩
  rw [← hw2]
  have hs2 : w2.heap.size = w1.heap.size + 1 := by rw [hw2]; simp
  have k1 : w2.heap[w1.heap.size]? = some (.cells #[.int .i64 1, .int .u32 0, .int .u32 (c : Int)] 119 (0, 0)) := by rw [hw2]; exact heap_alloc_new w1 _
  have k0 : w2.heap[w.heap.size]? = some (.cells #[.int .i64 0, .int .u32 0, .int .u32 0] 119 (0, 0)) := by
    rw [hw2, heapOldI _ _ (lt_of_heap' HR1.out)]
    exact HR1.out
  have hb2 : Below w.heap.size w w2 := by rw [hw2]; exact HB1.out.alloc HB1.out.size _
  have hgl : w.heap.size < w1.heap.size := lt_of_heap' HR1.out
  obtain ⟨b, hbb⟩ : ∃ b, b = w1.heap.size := ⟨_, rfl⟩
  rw [← hbb] at hs2 k1 hgl ⊢
  have HC := HR.out w2 hb2
  have HK : Hid (w2.heap[w.heap.size]? = some (.cells #[.int .i64 0, .int .u32 0, .int .u32 0] 119 (0, 0)) ∧ w2.heap[b]? = some (.cells #[.int .i64 1, .int .u32 0, .int .u32 (c : Int)] 119 (0, 0)) ∧ Below w.heap.size w w2 ∧ w2.heap.size = b + 1 ∧ w.heap.size < b) := ⟨k0, k1, hb2, hs2, hgl⟩
  clear hw2 hs2 k0 k1 hb2 hgl hbb HB1 HR1 HR hsz
  go_loopw [10] (fun _ wr => Hid (wr = w2)) (fun _ _ => 0)
  case atStart => exact rfl
  case round =>
    have hwe := hrel.out
    subst hwe
    obtain ⟨k0, k1, hb2, hs2, hgl⟩ := HK.out
    have c10 : wr.cell? ⟨b, 0, none⟩ = some (.int .i64 1) := cell_of_row _ _ _ _ _ _ k1
    have c11 : wr.cell? ⟨b, 1, none⟩ = some (.int .u32 0) := cell_of_row _ _ _ _ _ _ k1
    have c12 : wr.cell? ⟨b, 2, none⟩ = some (.int .u32 (c : Int)) := cell_of_row _ _ _ _ _ _ k1
    clear k0 k1 hb2 hs2 hgl
    go_wp2_with fail
    refine HC.mono ?_
    rintro e w3 ⟨rfl, hd3, hs3⟩
    have HK3 : Hid (w3.heap[w.heap.size]? = some (.cells #[.int .i64 0, .int .u32 0, .int .u32 0] 119 (0, 0)) ∧ w3.heap[b]? = some (.cells #[.int .i64 1, .int .u32 0, .int .u32 (c : Int)] 119 (0, 0)) ∧ DskAt w3 S bd m d ∧ Same S w w3) := by
      obtain ⟨k0, k1, hb2, hs2, hgl⟩ := HK.out
      exact ⟨by rw [hs3.block _ (by omega) (fun h => by have := hSl _ h; omega)]; exact k0, by rw [hs3.block _ (by omega) (fun h => by have := hSl _ h; omega)]; exact k1, hd3, (Same.of_below hb2).trans hs3⟩
    clear HC hd3 hs3 c10 c11 c12 hrel HK
    obtain ⟨k0, k1, -, -⟩ := HK3.out
    have c00 : w3.cell? ⟨w.heap.size, 0, none⟩ = some (.int .i64 0) := cell_of_row _ _ _ _ _ _ k0
    have c01 : w3.cell? ⟨w.heap.size, 1, none⟩ = some (.int .u32 0) := cell_of_row _ _ _ _ _ _ k0
    have c02 : w3.cell? ⟨w.heap.size, 2, none⟩ = some (.int .u32 0) := cell_of_row _ _ _ _ _ _ k0
    have f00 := frozen_of_row w3 w.heap.size 0 _ _ k0
    have f01 := frozen_of_row w3 w.heap.size 1 _ _ k0
    have f02 := frozen_of_row w3 w.heap.size 2 _ _ k0
    have c10 : w3.cell? ⟨b, 0, none⟩ = some (.int .i64 1) := cell_of_row _ _ _ _ _ _ k1
    have c11 : w3.cell? ⟨b, 1, none⟩ = some (.int .u32 0) := cell_of_row _ _ _ _ _ _ k1
    have c12 : w3.cell? ⟨b, 2, none⟩ = some (.int .u32 (c : Int)) := cell_of_row _ _ _ _ _ _ k1
    have hl0 := lt_of_heap' k0
    have hl1 := lt_of_heap' k1
    clear k0 k1
    go_wp2
    obtain ⟨k0, k1, hd3, hs3⟩ := HK3.out
    obtain ⟨a1, a2⟩ := set3 w3 w.heap.size _ _ _ (.int .i64 1) (.int .u32 0) (.int .u32 (c : Int)) _ k0
    obtain ⟨w4, hw4⟩ : ∃ w4, w4 = ((w3.setCell ⟨w.heap.size, 0, none⟩ (.int .i64 1)).setCell ⟨w.heap.size, 1, none⟩ (.int .u32 0)).setCell ⟨w.heap.size, 2, none⟩ (.int .u32 (c : Int)) := ⟨_, rfl⟩
    rw [← hw4] at a1 a2 ⊢
    have hl4 := lt_of_heap' a1
    have hs5 : Same (· = w.heap.size) w3 ((w4.alloc (.cells #[.int .u8 0, .int .i64 0, .string ⟨#[]⟩] 261)).alloc (.cells #[.int .i64 0, .int .u32 0, .int .u32 0] 119)) := (a2.alloc _).alloc _
    refine bodyPost_ret (results_cell_row (p := 6) (ty := 119) rfl _ _ w.heap.size 119 #[.int .i64 1, .int .u32 0, .int .u32 (c : Int)] (0, 0) _ rfl ?hg Tryz.underlying119 rfl (by kernel_rfl)) rfl ?_
    case hg =>
      rw [heapOldI _ _ (by simp; omega), heapOldI _ _ hl4]
      exact a1
    refine ⟨rfl, hd3.on hs5 ?_, hs3.then (hs5.weak ?_)⟩
    · intro g hg h
      have := hSl g hg
      omega
    · intro g h
      exact .inr (by omega)
def rowO (h i : Nat) : Array Value := #[if 0 < i then .map (some (h + 2)) else .map none, if 1 < i then .map (some (h + 3)) else .map none, if 2 < i then .map (some (h + 4)) else .map none, if 3 < i then .map (some (h + 5)) else .map none]
theorem rowO_set (h i : Nat) (hi : i < 4) : (rowO h i).setIfInBounds i (.map (some (h + 2 + i))) = rowO h (i + 1) ∧ (rowO h i)[i]? = some (.map none) := by
  have h4 : i = 0 ∨ i = 1 ∨ i = 2 ∨ i = 3 := by omega
  rcases h4 with rfl | rfl | rfl | rfl
  · exact ⟨rfl, rfl⟩
  · exact ⟨rfl, rfl⟩
  · exact ⟨rfl, rfl⟩
  · exact ⟨rfl, rfl⟩
theorem set4 (w : World) (g : Nat) (x y z u a b c d : Value) (t : TypeId) (h : w.heap[g]? = some (.cells #[x, y, z, u] t (0, 0))) :
    ((((w.setCell ⟨g, 0, none⟩ a).setCell ⟨g, 1, none⟩ b).setCell ⟨g, 2, none⟩ c).setCell ⟨g, 3, none⟩ d).heap[g]? = some (.cells #[a, b, c, d] t (0, 0)) ∧ Same (· = g) w ((((w.setCell ⟨g, 0, none⟩ a).setCell ⟨g, 1, none⟩ b).setCell ⟨g, 2, none⟩ c).setCell ⟨g, 3, none⟩ d) := by
  refine ⟨?_, ((((Same.refl (· = g) w).setCell ⟨g, 0, none⟩ rfl a).setCell ⟨g, 1, none⟩ rfl b).setCell ⟨g, 2, none⟩ rfl c).setCell ⟨g, 3, none⟩ rfl d⟩
  rw [heap_setCell_same _ g 3 _ _ _ (heap_setCell_same _ g 2 _ _ _ (heap_setCell_same _ g 1 _ _ _ (heap_setCell_same _ g 0 _ _ _ h)))]
  rfl
/-- The state at the head of newObjects' loop. -/
def ObjI (w : World) (i : Nat) (wr : World) : Prop := wr.heap.size = w.heap.size + 2 + i ∧ wr.heap[w.heap.size]? = some (.cells #[.map none, .map none, .map none, .map none] 117 (0, 0)) ∧ wr.heap[w.heap.size + 1]? = some (.cells (rowO w.heap.size i) 117 (0, 0)) ∧ Below w.heap.size w wr
set_option maxRecDepth 100000 in
set_option maxHeartbeats 2000000 in
theorem prog_newObjects (w : World) : Calls Tryz.prog 146 #[] w fun e w' => e = .returned (.agg #[.map (some (w.heap.size + 2)), .map (some (w.heap.size + 3)), .map (some (w.heap.size + 4)), .map (some (w.heap.size + 5))]) ∧ Below w.heap.size w w' := by
  have hmm : ∀ w, (Instr.makeMap 115 none).run Tryz.prog w = .ok (.map (some w.heap.size)) (w.alloc (.map #[] 0)) := fun w => run_makeMap _ w
  have HI0 : Hid (ObjI w 0 ((w.alloc (.cells #[.map none, .map none, .map none, .map none] 117)).alloc (.cells #[.map none, .map none, .map none, .map none] 117))) := by
    refine ⟨by simp, ?_, ?_, ((Below.refl _ _).alloc (Nat.le_refl _) _).alloc (by simp) _⟩
    · rw [heapOldI _ _ (by simp)]
      exact heap_alloc_new w _
    · exact heap_alloc2_new w _ _
  go_enter Tryz.func146, Tryz.ntmps146
  go_wp2
  go_loopw [3] (fun iv_ wr => ∃ i : Nat, i ≤ 4 ∧ iv_ = .int .i64 (i : Int) ∧ Hid (ObjI w i wr)) (fun iv_ _ => 4 - (intOf iv_).toNat)
  case atStart => exact ⟨0, by omega, rfl, HI0⟩
  case round =>
    clear HI0
    obtain ⟨i, hi, rfl, HI⟩ := hrel
    obtain ⟨hs, k0, k1, hb⟩ := HI.out
    by_cases hlt : i < 4
    · obtain ⟨hr1, hr2⟩ := rowO_set w.heap.size i hlt
      have ci : wr.cell? ⟨w.heap.size + 1, i, none⟩ = some (.map none) := by rw [cell_of_row _ _ _ _ _ _ k1, hr2]
      have fi := frozen_of_row wr (w.heap.size + 1) i _ _ k1
      have hl1 : w.heap.size + 1 < wr.heap.size := by omega
      have hii : (i : Int) < 4 := by omega
      have HN : Hid (ObjI w (i + 1) ((wr.setCell ⟨w.heap.size + 1, i, none⟩ (.map (some wr.heap.size))).alloc (.map #[] 0))) := by
        refine ⟨by simp [World.setCell]; omega, ?_, ?_, (hb.setCell (by show w.heap.size ≤ w.heap.size + 1; omega) _).alloc (by simp [World.setCell]; omega) _⟩
        · rw [heapOldI _ _ (by simp [World.setCell]; omega), heap_setCell_other _ _ _ _ (by show w.heap.size ≠ w.heap.size + 1; omega)]
          exact k0
        · rw [heapOldI _ _ (by simp [World.setCell]; omega), heap_setCell_same _ (w.heap.size + 1) i _ _ _ k1, hs, hr1]
      clear k0 k1 hb hr1 hr2 hs HI
      go_wp2
      go_roundw
      case rel => exact ⟨i + 1, by omega, by go_num, HN⟩
      case measure => (simp [intOf]; try omega)
    · have h4 : i = 4 := by omega
      subst h4
      have c10 : wr.cell? ⟨w.heap.size + 1, 0, none⟩ = some (.map (some (w.heap.size + 2))) := cell_of_row _ _ _ _ _ _ k1
      have c11 : wr.cell? ⟨w.heap.size + 1, 1, none⟩ = some (.map (some (w.heap.size + 3))) := cell_of_row _ _ _ _ _ _ k1
      have c12 : wr.cell? ⟨w.heap.size + 1, 2, none⟩ = some (.map (some (w.heap.size + 4))) := cell_of_row _ _ _ _ _ _ k1
      have c13 : wr.cell? ⟨w.heap.size + 1, 3, none⟩ = some (.map (some (w.heap.size + 5))) := cell_of_row _ _ _ _ _ _ k1
      have c00 : wr.cell? ⟨w.heap.size, 0, none⟩ = some (.map none) := cell_of_row _ _ _ _ _ _ k0
      have c01 : wr.cell? ⟨w.heap.size, 1, none⟩ = some (.map none) := cell_of_row _ _ _ _ _ _ k0
      have c02 : wr.cell? ⟨w.heap.size, 2, none⟩ = some (.map none) := cell_of_row _ _ _ _ _ _ k0
      have c03 : wr.cell? ⟨w.heap.size, 3, none⟩ = some (.map none) := cell_of_row _ _ _ _ _ _ k0
      have f00 := frozen_of_row wr w.heap.size 0 _ _ k0
      have f01 := frozen_of_row wr w.heap.size 1 _ _ k0
      have f02 := frozen_of_row wr w.heap.size 2 _ _ k0
      have f03 := frozen_of_row wr w.heap.size 3 _ _ k0
      clear k0 k1 hb hs
      go_wp2
      obtain ⟨hs, k0, k1, hb⟩ := HI.out
      obtain ⟨a1, a2⟩ := set4 wr w.heap.size _ _ _ _ (.map (some (w.heap.size + 2))) (.map (some (w.heap.size + 3))) (.map (some (w.heap.size + 4))) (.map (some (w.heap.size + 5))) _ k0
      refine bodyPost_ret (results_cell_row (p := 0) (ty := 117) rfl _ _ w.heap.size 117 _ (0, 0) _ rfl a1 Tryz.underlying117 rfl (by kernel_rfl)) rfl ?_
      exact ⟨rfl, hb.trans (a2.below (fun k hk => by subst hk; exact Nat.le_refl _) (by omega))⟩
set_option maxRecDepth 100000 in
theorem prog_newIntake (w : World) : Calls Tryz.prog 84 #[] w fun e w' => ∃ b a1 a2 a3 a4 a5, e = .returned (.pointer (some ⟨b, 0, none⟩)) ∧ Below w.heap.size w w' ∧ w.heap.size ≤ b ∧ w'.heap[b]? = some (.cells #[.map (some a1), .map (some a2), .map (some a3), .map (some a4), .slice none 0 0, .map (some a5)] 178 (0, 0)) := by
  have hmm : ∀ w, (Instr.makeMap 176 none).run Tryz.prog w = .ok (.map (some w.heap.size)) (w.alloc (.map #[] 0)) := fun w => run_makeMap _ w
  have H1 : Hid (Calls Tryz.prog 146 #[] w fun e w' => e = .returned (.agg #[.map (some (w.heap.size + 2)), .map (some (w.heap.size + 3)), .map (some (w.heap.size + 4)), .map (some (w.heap.size + 5))]) ∧ Below w.heap.size w w') := prog_newObjects w
  go_enter Tryz.func84, Tryz.ntmps84
  go_wp2_with (go_at_call 146; refine H1.out.mono ?_; rintro e w1 ⟨rfl, hb⟩; have HB : Hid (Below w.heap.size w w1) := hb; clear hb H1)
  go_ret
  exact ⟨w1.heap.size + 1, _, _, _, _, _, rfl, (HB.out.alloc HB.out.size _).alloc (by have := HB.out.size; simp; omega) _, by have := HB.out.size; omega, heap_alloc2_new w1 _ _⟩
end Go.Proofs.YtapijhhmjjplmaaGreatDoor
namespace Go.Proofs.YtapijhhmjjplmaaGreatDoor
open Go.RowKit Go.Maps
theorem set2 (w : World) (g : Nat) (x y a b : Value) (t : TypeId) (h : w.heap[g]? = some (.cells #[x, y] t (0, 0))) :
    ((w.setCell ⟨g, 0, none⟩ a).setCell ⟨g, 1, none⟩ b).heap[g]? = some (.cells #[a, b] t (0, 0)) ∧ Same (· = g) w ((w.setCell ⟨g, 0, none⟩ a).setCell ⟨g, 1, none⟩ b) := by
  refine ⟨?_, ((Same.refl (· = g) w).setCell ⟨g, 0, none⟩ rfl a).setCell ⟨g, 1, none⟩ rfl b⟩
  rw [heap_setCell_same _ g 1 _ _ _ (heap_setCell_same _ g 0 _ _ _ h)]
  rfl
set_option maxRecDepth 100000 in
set_option maxHeartbeats 2000000 in
theorem prog_last0 (ba : Nat) (w : World) (h : w.cell? ⟨ba, 3, none⟩ = some (.slice none 0 0)) : Calls Tryz.prog 87 #[.pointer (some ⟨ba, 0, none⟩)] w fun e w' => ∃ rb, e = .returned (.tuple #[.agg #[.pointer (some ⟨rb + 1, 0, none⟩), .int .i64 0], .nilIface]) ∧ Below w.heap.size w w' ∧ w.heap.size ≤ rb ∧ w'.heap[rb]? = some (.map #[] 0) ∧ w'.heap[rb + 1]? = some (.cells #[.string ⟨#[]⟩, .map (some rb)] 274 (0, 0)) := by
  have hl := block_lt_of_cell h
  have HT := prog_newTree
  go_enter Tryz.func87, Tryz.ntmps87
  go_wp2_with fail
  refine (HT _).mono ?_
  rintro e w1 ⟨rfl, hb1, hs1, hk1, hk2⟩
  have k0 : w1.heap[w.heap.size]? = some (.cells #[.pointer none, .int .i64 0] 113 (0, 0)) := by
    rw [hb1.block _ (by simp)]
    exact heap_alloc_new w _
  have c0 : w1.cell? ⟨w.heap.size, 0, none⟩ = some (.pointer none) := cell_of_row _ _ _ _ _ _ k0
  have c1 : w1.cell? ⟨w.heap.size, 1, none⟩ = some (.int .i64 0) := cell_of_row _ _ _ _ _ _ k0
  have f0 := frozen_of_row w1 w.heap.size 0 _ _ k0
  have f1 := frozen_of_row w1 w.heap.size 1 _ _ k0
  have es : (w.alloc (.cells #[.pointer none, .int .i64 0] 113)).heap.size = w.heap.size + 1 := by simp
  rw [es] at hb1 hs1 hk1 hk2 ⊢
  have HB1 : Hid (Below w.heap.size w w1) := ((Below.refl _ _).alloc (Nat.le_refl _) _).trans (hb1.mono (by omega))
  have HK : Hid (w1.heap.size = w.heap.size + 1 + 3 ∧ w1.heap[w.heap.size + 1 + 1]? = some (.map #[] 0) ∧ w1.heap[w.heap.size + 1 + 2]? = some (.cells #[.string ⟨#[]⟩, .map (some (w.heap.size + 1 + 1))] 274 (0, 0)) ∧ w1.heap[w.heap.size]? = some (.cells #[.pointer none, .int .i64 0] 113 (0, 0))) := ⟨hs1, hk1, hk2, k0⟩
  clear hb1 hs1 hk1 hk2 k0 es HT
  go_wp2
  obtain ⟨hs1, hk1, hk2, k0⟩ := HK.out
  obtain ⟨a1, -⟩ := set2 w1 w.heap.size _ _ (.pointer (some ⟨w.heap.size + 1 + 2, 0, none⟩)) (.int .i64 0) _ k0
  have l1 := run_loadVar_row (P := Tryz.prog) _ _ _ 113 _ _ _ a1 Tryz.underlying113 rfl (by kernel_rfl)
  refine bodyPost_ret (v := .tuple #[.agg #[.pointer (some ⟨w.heap.size + 1 + 2, 0, none⟩), .int .i64 0], .nilIface]) ?_ rfl ⟨w.heap.size + 1 + 1, rfl, (HB1.out.setCell (Nat.le_refl _) _).setCell (Nat.le_refl _) _, by omega, ?_, ?_⟩
  · rw [results_cell_tmp rfl]
    simp [asAddr, Result.andThen, l1]
  · rw [heap_setCell_other _ _ _ _ (by show w.heap.size + 1 + 1 ≠ w.heap.size; omega), heap_setCell_other _ _ _ _ (by show w.heap.size + 1 + 1 ≠ w.heap.size; omega)]
    exact hk1
  · rw [heap_setCell_other _ _ _ _ (by show w.heap.size + 1 + 1 + 1 ≠ w.heap.size; omega), heap_setCell_other _ _ _ _ (by show w.heap.size + 1 + 1 + 1 ≠ w.heap.size; omega)]
    exact hk2
set_option maxRecDepth 100000 in
set_option maxHeartbeats 2000000 in
theorem prog_hasHead (bd m n : Nat) (S : Nat → Prop) (d : Dsk) (w : World) (h : DskAt w S bd m d) (hn : 0 < n) (hb : n ≤ 4096) (h1 : d.safe.length = n) :
    Calls Tryz.prog 83 #[.pointer (some ⟨bd, 0, none⟩)] w fun e w' => e = .returned (.bool (decide (d.at 0 (by omega) = headS n))) ∧ DskAt w' S bd m d ∧ Same S w w' := by
  have HRD : Hid (Calls Tryz.prog 104 #[.pointer (some ⟨bd, 0, none⟩), .int .i64 0] w fun e w' => e = .returned (.tuple #[.string (d.at 0 (by omega)), .nilIface]) ∧ DskAt w' S bd m d ∧ Same S w w') := dsk_read bd m S d 0 w h (by omega) (by omega)
  have HSC : Hid (∀ w2, DskAt w2 S bd m d → Calls Tryz.prog 62 #[.pointer (some ⟨bd, 0, none⟩)] w2 fun e w' => e = .returned (.int .i64 (n : Int)) ∧ w2 = w') := by
    intro w2 hd
    have := dsk_sectors bd m S d w2 hd
    rw [h1] at this
    exact this
  have HHD : Hid (∀ w, Calls Tryz.prog 82 #[.int .i64 (n : Int)] w fun e w' => e = .returned (.string (headS n)) ∧ Below w.heap.size w w') := fun w => prog_headOf n hb w
  obtain ⟨x, hx⟩ : ∃ x, x = d.at 0 (by omega) := ⟨_, rfl⟩
  obtain ⟨hd, hhd⟩ : ∃ hd, hd = headS n := ⟨_, rfl⟩
  rw [← hx, ← hhd]
  rw [← hx] at HRD
  rw [← hhd] at HHD
  have hbq : (x.toList == hd.toList) = decide (x = hd) := str_beq x hd
  obtain ⟨q, hq⟩ : ∃ q, q = decide (x = hd) := ⟨_, rfl⟩
  rw [← hq] at hbq ⊢
  clear hx hhd h hq h1
  go_enter Tryz.func83, Tryz.ntmps83
  go_wp2_with (first | (go_at_call 104; refine HRD.out.mono ?_; rintro e w1 ⟨rfl, hd1, hs1⟩; have HS1 := HSC.out w1 hd1; have HD1 : Hid (DskAt w1 S bd m d ∧ Same S w w1) := ⟨hd1, hs1⟩; clear hd1 hs1 HRD HSC) | (go_at_call 62; refine HS1.mono ?_; rintro e w2 ⟨rfl, rfl⟩; clear HS1) | (go_at_call 82; refine (HHD.out _).mono ?_; rintro e w3 ⟨rfl, hb3⟩; have HB3 : Hid (Below w1.heap.size w1 w3) := hb3; clear hb3 HHD))
  go_ret
  obtain ⟨hd1, hs1⟩ := HD1.out
  have hb3 := HB3.out
  exact ⟨rfl, hd1.on (T := fun _ => False) (.of_below hb3) (fun _ _ h => h), hs1.trans (.of_below hb3)⟩
end Go.Proofs.YtapijhhmjjplmaaGreatDoor
