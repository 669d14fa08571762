/- OWN TEXT: joined of: TW3 PT2 PT3 PT1 RT2 RT3 RT4 PT4 PT5 PT6. -/
import Derived.Sort.KeysCollected
import Derived.Laws.RangeAny
import Derived.Test.YtapijhhmjjplmaaGreatDoorJtrees4
namespace Go.Proofs.YtapijhhmjjplmaaGreatDoor
open Go.RowKit Go.Maps
/-- A set, and all above a mark. -/
def up (S : Nat → Prop) (n : Nat) : Nat → Prop := fun g => S g ∨ n ≤ g
theorem up_up (S : Nat → Prop) (n m : Nat) (h : n ≤ m) : ∀ g, up (up S n) m g → up S n g := by
  intro g hg
  rcases hg with hg | hg
  · exact hg
  · exact .inr (by omega)
/-- One step on, where the second may touch what the first left new. -/
theorem Same.then {S : Nat → Prop} {a b c : World} (h : Same S a b) (h' : Same (up S a.heap.size) b c) : Same S a c :=
  ⟨h'.os.trans h.os, h'.tape.trans h.tape, h'.output.trans h.output, Nat.le_trans h.size h'.size, fun k hk hn => (h'.block k (by have := h.size; omega) (by rintro (h1 | h1); exact hn h1; omega)).trans (h.block k hk hn)⟩
theorem Same.of_below {S : Nat → Prop} {a b : World} (h : Below a.heap.size a b) : Same S a b := ⟨h.os, h.tape, h.output, h.size, fun k hk _ => h.block k hk⟩
theorem rwrite_len (r : RDsk) (k : Nat) (s : ByteArray) : (r.write k s).seen.length = r.seen.length ∧ (r.write k s).safe = r.safe ∧ (r.write k s).wait.length ≤ r.wait.length + 1 := by
  unfold RDsk.write
  split
  · exact ⟨by rw [op_seen], op_safe r, by rw [op_wait]; omega⟩
  · refine ⟨?_, op_safe r, ?_⟩
    · show (r.op.seen.set k s).length = _
      rw [List.length_set, op_seen]
    · show (r.op.wait ++ [(k, s)]).length ≤ _
      rw [List.length_append, op_wait]
      simp
/-- The state at the head of wipe's loop. -/
def WipeAt (w : World) (S : Nat → Prop) (be n from_ : Nat) (r : RDsk) (i : Nat) (wr : World) : Prop :=
  ∃ ri, RefAt wr (up S w.heap.size) be ri ∧ Same S w wr ∧ wipeR (n - i) i ri = wipeR (n - from_) from_ r ∧ ri.seen.length = n ∧ ri.safe.length = n ∧ ri.wait.length ≤ r.wait.length + (i - from_)
set_option maxRecDepth 100000 in
set_option maxHeartbeats 2000000 in
theorem ref_wipe (be : Nat) (S : Nat → Prop) (r : RDsk) (n from_ : Nat) (w : World) (h : RefAt w S be r) (hn : 0 < n) (hb : n ≤ 4096) (h1 : r.seen.length = n) (h2 : r.safe.length = n) (hw : r.wait.length ≤ 900000) (hf : from_ ≤ n) :
    Calls Tryz.prog 187 #[.pointer (some ⟨be, 0, none⟩), .int .i64 (from_ : Int)] w fun e w' => e = .returned (.int .i64 ((wipeR (n - from_) from_ r).2 : Int)) ∧ RefAt w' (up S w.heap.size) be (wipeR (n - from_) from_ r).1 ∧ Same S w w' := by
  have HZ : Hid (∀ w, Calls Tryz.prog 111 #[.int .i64 64] w fun e w' => e = .returned (.string z64) ∧ Below w.heap.size w w') := zeros_any
  have HI0 : Hid (∀ w', Below w.heap.size w w' → WipeAt w S be n from_ r from_ w') := fun w' hb' => ⟨r, (h.on (T := fun _ => False) ⟨hb'.os, hb'.tape, hb'.output, hb'.size, fun k hk _ => hb'.block k hk⟩ (fun _ _ h => h)).mono (fun _ h => .inl h), .of_below hb', rfl, h1, h2, by omega⟩
  have hz64 : z64.size = 64 := z64_size
  have HW : Hid (r.wait.length ≤ 900000) := hw
  have hbi : (n : Int) ≤ 4096 := by omega
  have hfi : (from_ : Int) ≤ n := by omega
  obtain ⟨z, hz⟩ : ∃ z, z = z64 := ⟨_, rfl⟩
  rw [← hz] at HZ hz64
  have HZZ : Hid (z = z64) := hz
  clear h h1 h2 hw hz
  go_enter Tryz.func187, Tryz.ntmps187
  go_wp2_with (go_at_call 111; refine (HZ.out _).mono ?_; rintro e w1 ⟨rfl, hb1⟩; have HI : Hid (WipeAt w S be n from_ r from_ w1) := HI0.out _ hb1; clear hb1 HI0 HZ)
  go_loopw [6] (fun iv_ wr => ∃ i : Nat, from_ ≤ i ∧ i ≤ n ∧ iv_ = .int .i64 (i : Int) ∧ Hid (WipeAt w S be n from_ r i wr)) (fun iv_ _ => n - (intOf iv_).toNat)
  case atStart => exact ⟨from_, by omega, hf, rfl, HI⟩
  case round =>
    clear HI
    obtain ⟨i, hfi', hi, rfl, HV⟩ := hrel
    obtain ⟨ri, hri, hsr, hwi, hsn, hsf, hwt⟩ := HV.out
    have HR := hri
    obtain ⟨sv, nv, wv, hrv⟩ := hri
    obtain ⟨gn, cn, rfl, -, hc, -⟩ := hrv.seen.open (by omega)
    have c1 : wr.cell? ⟨be, 1, none⟩ = some (.slice (some ⟨gn, 0, none⟩) n cn) := by rw [cell_of_row _ _ _ _ _ _ hrv.blk, ← hsn]; rfl
    have HRI : Hid (RefAt wr (up S w.heap.size) be ri ∧ Same S w wr ∧ wipeR (n - i) i ri = wipeR (n - from_) from_ r ∧ ri.seen.length = n ∧ ri.safe.length = n ∧ ri.wait.length ≤ r.wait.length + (i - from_)) := ⟨HR, hsr, hwi, hsn, hsf, hwt⟩
    by_cases hlt : i < n
    · obtain ⟨x, hx⟩ : ∃ x, x = ri.seen[i]'(by omega) := ⟨_, rfl⟩
      have cx : wr.cell? ⟨gn, i, none⟩ = some (.string x) := by
        rw [hc i (by rw [strs_length]; omega), hx]
        simp [strs]
      have hxs : ri.seen[i]? = some x := by rw [hx]; exact List.getElem?_eq_getElem _
      have HXS : Hid (ri.seen[i]? = some x) := hxs
      have hun : n - i = (n - (i + 1)) + 1 := by omega
      have HUN : Hid (n - i = (n - (i + 1)) + 1) := hun
      have hlti : (i : Int) < n := by omega
      clear HV HR hrv hsr hwi hsn hsf hwt hc hx hxs hun
      by_cases hxz : x = z
      · subst hxz
        have hne : (x.toList == x.toList) = true := by rw [str_beq, decide_eq_true_iff]
        go_wp2
        all_goals
          go_roundw
          case rel =>
            refine ⟨i + 1, by omega, by omega, by go_num, ?_⟩
            obtain ⟨HR, hsr, hwi, hsn, hsf, hwt⟩ := HRI.out
            refine ⟨ri, HR.on (T := fun _ => False) ⟨rfl, rfl, rfl, Nat.le_refl _, fun _ _ _ => rfl⟩ (fun _ _ h => h), hsr, ?_, hsn, hsf, by omega⟩
            rw [← hwi, HUN.out]
            conv => rhs; unfold wipeR
            rw [if_pos (by rw [HXS.out, HZZ.out])]
          case measure => (simp [intOf]; try omega)
      · have hne : (x.toList == z.toList) = false := by rw [str_beq, decide_eq_false_iff_not]; exact hxz
        have HWR : Hid (Calls Tryz.prog 114 #[.pointer (some ⟨be, 0, none⟩), .int .i64 (i : Int), .string z] wr fun e w' => e = .returned (.int .i64 ri.ans) ∧ RefAt w' (up (up S w.heap.size) wr.heap.size) be (ri.write i z) ∧ Same (up S w.heap.size) wr w') := by
          obtain ⟨HR, hsr, hwi, hsn, hsf, hwt⟩ := HRI.out
          exact ref_write be _ ri i z wr HR (by omega) hz64 (by have := HW.out; omega)
        have HXZ : Hid (x ≠ z) := hxz
        have hans : ri.ans = 0 ∧ ri.op.down = false ∨ ri.ans = 2 ∧ ri.op.down = true := by
          unfold RDsk.ans
          cases ri.op.down
          · exact .inl ⟨rfl, rfl⟩
          · exact .inr ⟨rfl, rfl⟩
        clear hxz
        rcases hans with ⟨ha, hd⟩ | ⟨ha, hd⟩
        · rw [ha] at HWR
          have HD : Hid (ri.op.down = false) := hd
          clear ha hd
          go_wp2_with (go_at_call 114; refine HWR.out.mono ?_; rintro e w2 ⟨rfl, hr2, hs2⟩; have HR2 : Hid (RefAt w2 (up (up S w.heap.size) wr.heap.size) be (ri.write i z)) := hr2; have HS2 : Hid (Same (up S w.heap.size) wr w2) := hs2; clear hr2 hs2 HWR)
          all_goals
            go_roundw
            case rel =>
              refine ⟨i + 1, by omega, by omega, by go_num, ?_⟩
              obtain ⟨HR, hsr, hwi, hsn, hsf, hwt⟩ := HRI.out
              obtain ⟨l1, l2, l3⟩ := rwrite_len ri i z
              refine ⟨ri.write i z, (HR2.out.mono (up_up _ _ _ hsr.size)).on (T := fun _ => False) ⟨rfl, rfl, rfl, Nat.le_refl _, fun _ _ _ => rfl⟩ (fun _ _ h => h), hsr.then HS2.out, ?_, by omega, by rw [l2]; exact hsf, by omega⟩
              rw [← hwi, HUN.out]
              conv => rhs; unfold wipeR
              rw [if_neg (by rw [HXS.out]; intro e; exact HXZ.out (by cases e; exact HZZ.out.symm)), HD.out, if_neg (by simp), HZZ.out]
            case measure => (simp [intOf]; try omega)
        · rw [ha] at HWR
          have HD : Hid (ri.op.down = true) := hd
          clear ha hd
          go_wp2_with (go_at_call 114; refine HWR.out.mono ?_; rintro e w2 ⟨rfl, hr2, hs2⟩; have HR2 : Hid (RefAt w2 (up (up S w.heap.size) wr.heap.size) be (ri.write i z)) := hr2; have HS2 : Hid (Same (up S w.heap.size) wr w2) := hs2; clear hr2 hs2 HWR)
          go_ret
          obtain ⟨HR, hsr, hwi, hsn, hsf, hwt⟩ := HRI.out
          have hv : wipeR (n - from_) from_ r = (ri.op, 2) := by
            rw [← hwi, HUN.out]
            unfold wipeR
            rw [if_neg (by rw [HXS.out]; intro e; exact HXZ.out (by cases e; exact HZZ.out.symm)), HD.out, if_pos rfl]
          have hwr : ri.write i z = ri.op := by unfold RDsk.write; rw [HD.out, if_pos rfl]
          rw [hv]
          refine ⟨rfl, ?_, hsr.then HS2.out⟩
          have h3 := HR2.out.mono (up_up _ _ _ hsr.size)
          rw [hwr] at h3
          exact h3
    · have hin : i = n := by omega
      have HF : Hid (Calls Tryz.prog 116 #[.pointer (some ⟨be, 0, none⟩)] wr fun e w' => e = .returned (.int .i64 (ri.fcode : Int)) ∧ RefAt w' (up S w.heap.size) be ri.flush ∧ Same (up S w.heap.size) wr w') := by
        have h3 := ref_flush be (up S w.heap.size) ri wr HR (by omega) (by omega) (by omega)
        rw [RDsk.ans_fcode] at h3
        exact h3
      have hnlt : ¬ (i : Int) < n := by omega
      obtain ⟨fc, hfc⟩ : ∃ fc, fc = ri.fcode := ⟨_, rfl⟩
      rw [← hfc] at HF
      have HFC : Hid (fc = ri.fcode) := hfc
      have HIN : Hid (i = n) := hin
      clear HV HR hrv hsr hwi hsn hsf hwt hc hfc hin
      go_wp2_with (go_at_call 116; refine HF.out.mono ?_; rintro e w2 ⟨rfl, hr2, hs2⟩; have HR2 : Hid (RefAt w2 (up S w.heap.size) be ri.flush) := hr2; have HS2 : Hid (Same (up S w.heap.size) wr w2) := hs2; clear hr2 hs2 HF)
      go_ret
      obtain ⟨HR, hsr, hwi, hsn, hsf, hwt⟩ := HRI.out
      have hv : wipeR (n - from_) from_ r = (ri.flush, fc) := by
        rw [← hwi, HIN.out, Nat.sub_self, HFC.out]
        rfl
      rw [hv]
      exact ⟨rfl, HR2.out, hsr.then HS2.out⟩
end Go.Proofs.YtapijhhmjjplmaaGreatDoor
namespace Go.Proofs.YtapijhhmjjplmaaGreatDoor
open Go.RowKit Go.Maps
def ptrV (b : Nat) : Value := .pointer (some ⟨b, 0, none⟩)
/-- The map of a directory: its names, and the nodes that they lead to. -/
structure Kids (T : Tre) (nb : List ByteArray → Nat) (p : List ByteArray) (D : DataW Value) : Prop where
  tidy : Tidy D
  mem : ∃ es, D = .map es ∧ ∀ l d, (l, d) ∈ es ↔ ∃ k, l = .string (bl k) ∧ (lookT T (p ++ [k])).isSome ∧ d = .held (ptrV (nb (p ++ [k])))
theorem sameKey_str (a b : List UInt8) : (Lit.string a).sameKey (.string b) = decide (a = b) := by
  show (a == b) = _
  by_cases h : a = b
  · rw [h]; simp
  · rw [decide_eq_false h]; simpa using h
theorem sameKey_iff {l : Lit} {b : List UInt8} : l.sameKey (.string b) = true ↔ l = .string b := by
  constructor
  · intro h; exact WideAt.sameKey_eq h
  · rintro rfl; rw [sameKey_str]; simp
theorem Kids.has {T : Tre} {nb : List ByteArray → Nat} {p : List ByteArray} {D : DataW Value} (h : Kids T nb p D) (k : ByteArray) : Maps.has D (.string (bl k)) = (lookT T (p ++ [k])).isSome := by
  obtain ⟨es, rfl, hm⟩ := h.mem
  rw [has_eq]
  cases hs : (lookT T (p ++ [k])).isSome
  · rw [List.any_eq_false]
    rintro ⟨l, d⟩ hx he
    obtain ⟨k', rfl, h1, -⟩ := (hm l d).1 hx
    have := sameKey_iff.1 he
    simp only [Lit.string.injEq] at this
    rw [bl_inj this, hs] at h1
    cases h1
  · rw [List.any_eq_true]
    exact ⟨(.string (bl k), .held (ptrV (nb (p ++ [k])))), (hm _ _).2 ⟨k, rfl, hs, rfl⟩, sameKey_iff.2 rfl⟩
theorem Kids.at {T : Tre} {nb : List ByteArray → Nat} {p : List ByteArray} {D : DataW Value} (h : Kids T nb p D) (k : ByteArray) (z : DataW Value) : D.atKey (.string (bl k)) z = if (lookT T (p ++ [k])).isSome then .held (ptrV (nb (p ++ [k]))) else z := by
  obtain ⟨es, rfl, hm⟩ := h.mem
  cases hf : es.find? (fun p => p.1.sameKey (.string (bl k))) with
  | none =>
    have e : (DataW.map es).atKey (.string (bl k)) z = z := by simp only [DataW.atKey, hf]
    rw [e]
    cases hs : (lookT T (p ++ [k])).isSome
    · rfl
    · rw [List.find?_eq_none] at hf
      exact absurd (sameKey_iff.2 rfl) (hf (.string (bl k), .held (ptrV (nb (p ++ [k])))) ((hm _ _).2 ⟨k, rfl, hs, rfl⟩))
  | some x =>
    obtain ⟨l, d⟩ := x
    have e : (DataW.map es).atKey (.string (bl k)) z = d := by simp only [DataW.atKey, hf]
    rw [e]
    have h1 := List.mem_of_find?_eq_some hf
    have h2 := List.find?_some hf
    obtain ⟨k', rfl, h3, rfl⟩ := (hm l d).1 h1
    have := sameKey_iff.1 h2
    simp only [Lit.string.injEq] at this
    rw [bl_inj this] at h3 ⊢
    rw [h3]
    rfl
theorem Kids.keys {T : Tre} (hT : WFT T) {nb : List ByteArray → Nat} {p : List ByteArray} {D : DataW Value} (h : Kids T nb p D) : (strKeys D).Perm ((kidsU T p).map bl) ∧ Maps.size D = (kidsU T p).length := by
  obtain ⟨es, rfl, hm⟩ := h.mem
  obtain ⟨es', he, ht⟩ := h.tidy
  cases he
  have hp : (strKeys (.map es : DataW Value)).Perm ((kidsU T p).map bl) := by
    show (es.map fun p => strOf p.1).Perm _
    rw [List.perm_ext_iff_of_nodup]
    · intro a
      rw [List.mem_map, List.mem_map]
      constructor
      · rintro ⟨⟨l, d⟩, hx, rfl⟩
        obtain ⟨k, rfl, h1, -⟩ := (hm l d).1 hx
        exact ⟨k, (mem_kidsU hT p k).2 h1, rfl⟩
      · rintro ⟨k, hk, rfl⟩
        exact ⟨(.string (bl k), .held (ptrV (nb (p ++ [k])))), (hm _ _).2 ⟨k, rfl, (mem_kidsU hT p k).1 hk, rfl⟩, rfl⟩
    · rw [List.nodup_iff_pairwise_ne, List.pairwise_map]
      refine ht.imp_of_mem ?_
      rintro ⟨l, d⟩ ⟨l', d'⟩ hx hy hne e
      obtain ⟨k, rfl, -, -⟩ := (hm l d).1 hx
      obtain ⟨k', rfl, -, -⟩ := (hm l' d').1 hy
      exact hne (congrArg Lit.string e)
    · rw [List.nodup_iff_pairwise_ne, List.pairwise_map]
      exact (List.nodup_iff_pairwise_ne.1 (nodup_kidsU hT p)).imp (fun hne e => hne (bl_inj e))
  refine ⟨hp, ?_⟩
  have := hp.length_eq
  rw [List.length_map] at this
  show es.length = _
  rw [← this]
  show _ = (es.map _).length
  rw [List.length_map]
theorem mem_insert {x y : Lit × DataW Value} : ∀ l : List (Lit × DataW Value), y ∈ DataW.insert x l ↔ y = x ∨ y ∈ l
  | [] => by simp [DataW.insert]
  | z :: r => by
    unfold DataW.insert
    split
    · simp
    · rw [List.mem_cons, mem_insert r, List.mem_cons]
      constructor
      · rintro (h | h | h)
        · exact .inr (.inl h)
        · exact .inl h
        · exact .inr (.inr h)
      · rintro (h | h | h)
        · exact .inr (.inl h)
        · exact .inl h
        · exact .inr (.inr h)
theorem Kids.put {T T' : Tre} {nb nb' : List ByteArray → Nat} {p : List ByteArray} {D : DataW Value} (h : Kids T nb p D) (n : ByteArray) (hn : (lookT T (p ++ [n])) = none) (h1 : ∀ k, (lookT T' (p ++ [k])).isSome = ((lookT T (p ++ [k])).isSome || decide (k = n))) (h2 : ∀ k, k ≠ n → nb' (p ++ [k]) = nb (p ++ [k])) (ht : Tidy (D.put (.string (bl n)) (.held (ptrV (nb' (p ++ [n])))))) :
    Kids T' nb' p (D.put (.string (bl n)) (.held (ptrV (nb' (p ++ [n]))))) := by
  refine ⟨ht, ?_⟩
  obtain ⟨es, rfl, hm⟩ := h.mem
  refine ⟨_, rfl, fun l d => ?_⟩
  rw [mem_insert, List.mem_filter]
  constructor
  · rintro (e | ⟨hx, hne⟩)
    · cases e
      exact ⟨n, rfl, by rw [h1]; simp, rfl⟩
    · obtain ⟨k, rfl, h3, rfl⟩ := (hm l d).1 hx
      have hkn : k ≠ n := by
        rintro rfl
        rw [hn] at h3
        cases h3
      exact ⟨k, rfl, by rw [h1, h3]; rfl, by rw [h2 k hkn]⟩
  · rintro ⟨k, rfl, h3, rfl⟩
    by_cases hkn : k = n
    · subst hkn
      exact .inl rfl
    · rw [h1, decide_eq_false hkn, Bool.or_false] at h3
      refine .inr ⟨(hm _ _).2 ⟨k, rfl, h3, by rw [h2 k hkn]⟩, ?_⟩
      show (!(Lit.string (bl k)).sameKey (.string (bl n))) = true
      rw [sameKey_str, decide_eq_false (fun e => hkn (bl_inj e))]
      rfl
theorem Kids.del {T T' : Tre} {nb : List ByteArray → Nat} {p : List ByteArray} {D : DataW Value} (h : Kids T nb p D) (n : ByteArray) (h1 : ∀ k, (lookT T' (p ++ [k])).isSome = ((lookT T (p ++ [k])).isSome && decide (k ≠ n))) (ht : Tidy (D.del (.string (bl n)))) : Kids T' nb p (D.del (.string (bl n))) := by
  refine ⟨ht, ?_⟩
  obtain ⟨es, rfl, hm⟩ := h.mem
  refine ⟨_, rfl, fun l d => ?_⟩
  rw [List.mem_filter]
  constructor
  · rintro ⟨hx, hne⟩
    obtain ⟨k, rfl, h3, rfl⟩ := (hm l d).1 hx
    have hkn : k ≠ n := by
      rintro rfl
      have : (!(Lit.string (bl k)).sameKey (.string (bl k))) = true := hne
      rw [sameKey_str] at this
      simp at this
    exact ⟨k, rfl, by rw [h1, h3, decide_eq_true hkn]; rfl, rfl⟩
  · rintro ⟨k, rfl, h3, rfl⟩
    rw [h1, Bool.and_eq_true, decide_eq_true_iff] at h3
    refine ⟨(hm _ _).2 ⟨k, rfl, h3.1, rfl⟩, ?_⟩
    show (!(Lit.string (bl k)).sameKey (.string (bl n))) = true
    rw [sameKey_str, decide_eq_false (fun e => h3.2 (bl_inj e))]
    rfl
theorem Kids.same {T T' : Tre} {nb nb' : List ByteArray → Nat} {p : List ByteArray} {D : DataW Value} (h : Kids T nb p D) (h1 : ∀ k, (lookT T' (p ++ [k])).isSome = (lookT T (p ++ [k])).isSome) (h2 : ∀ k, (lookT T (p ++ [k])).isSome → nb' (p ++ [k]) = nb (p ++ [k])) : Kids T' nb' p D := by
  refine ⟨h.tidy, ?_⟩
  obtain ⟨es, rfl, hm⟩ := h.mem
  refine ⟨es, rfl, fun l d => ?_⟩
  rw [hm]
  constructor
  · rintro ⟨k, rfl, h3, rfl⟩
    exact ⟨k, rfl, by rw [h1]; exact h3, by rw [h2 k h3]⟩
  · rintro ⟨k, rfl, h3, rfl⟩
    rw [h1] at h3
    exact ⟨k, rfl, h3, by rw [h2 k h3]⟩
theorem Kids.empty {T : Tre} {nb : List ByteArray → Nat} {p : List ByteArray} (h : ∀ k, lookT T (p ++ [k]) = none) : Kids T nb p (.map []) := by
  refine ⟨tidy_empty, [], rfl, fun l d => ⟨fun h => (by cases h), ?_⟩⟩
  rintro ⟨k, -, h3, -⟩
  rw [h] at h3
  cases h3
end Go.Proofs.YtapijhhmjjplmaaGreatDoor
namespace Go.Proofs.YtapijhhmjjplmaaGreatDoor
open Go.RowKit Go.Maps
def isNode (T : Tre) (p : List ByteArray) : Prop := p = [] ∨ (lookT T p).isSome
def datT (T : Tre) (p : List ByteArray) : ByteArray := match lookT T p with
  | some x => x.data
  | none => ⟨#[]⟩
def rowN (T : Tre) (mb : List ByteArray → Nat) (p : List ByteArray) : Array Value := #[.string (datT T p), .map (if isF T p then none else some (mb p))]
theorem rowN_file {T : Tre} {mb : List ByteArray → Nat} {p : List ByteArray} (h : isF T p = true) : rowN T mb p = #[.string (datT T p), .map none] := by unfold rowN; rw [h]; rfl
theorem rowN_dir {T : Tre} {mb : List ByteArray → Nat} {p : List ByteArray} (h : isF T p = false) : rowN T mb p = #[.string (datT T p), .map (some (mb p))] := by unfold rowN; rw [h]; rfl
/-- The tree's nodes and maps, by their paths. -/
structure TreeM (w : World) (S : Nat → Prop) (rb : Nat) (T : Tre) (nb mb : List ByteArray → Nat) : Prop where
  root : nb [] = rb
  sn : ∀ p, isNode T p → S (nb p)
  node : ∀ p, isNode T p → w.heap[nb p]? = some (.cells (rowN T mb p) 274 (0, 0))
  sm : ∀ p, isNode T p → isF T p = false → S (mb p)
  map : ∀ p, isNode T p → isF T p = false → ∃ D, w.ownsMap Tryz.prog 9 heldR (mb p) 256 D ∧ Kids T nb p D
  i1 : ∀ p q, isNode T p → isNode T q → nb p = nb q → p = q
  i2 : ∀ p q, isNode T p → isF T p = false → isNode T q → isF T q = false → mb p = mb q → p = q
  i3 : ∀ p q, isNode T p → isNode T q → isF T q = false → nb p ≠ mb q
theorem TreeM.on {w w' : World} {S U : Nat → Prop} {rb : Nat} {T : Tre} {nb mb : List ByteArray → Nat} (h : TreeM w S rb T nb mb) (hs : Same U w w') (hd : ∀ g, S g → ¬ U g) : TreeM w' S rb T nb mb :=
  ⟨h.root, h.sn, fun p hp => by rw [hs.block _ (lt_of_heap' (h.node p hp)) (hd _ (h.sn p hp))]; exact h.node p hp, h.sm, fun p hp hf => by
    obtain ⟨D, h1, h2⟩ := h.map p hp hf
    exact ⟨D, ownsMap_heap h1 (hs.block _ (ownsMap_lt h1) (hd _ (h.sm p hp hf))), h2⟩, h.i1, h.i2, h.i3⟩
theorem TreeM.mono {w : World} {S U : Nat → Prop} {rb : Nat} {T : Tre} {nb mb : List ByteArray → Nat} (h : TreeM w S rb T nb mb) (hd : ∀ g, S g → U g) : TreeM w U rb T nb mb :=
  ⟨h.root, fun p hp => hd _ (h.sn p hp), h.node, fun p hp hf => hd _ (h.sm p hp hf), h.map, h.i1, h.i2, h.i3⟩
theorem own_tight {w : World} {k : TypeId} {b n : Nat} {D : DataW Value} (h : w.ownsMap Tryz.prog k heldR b n D) : w.ownsMap Tryz.prog k heldR b (Maps.size D) D := by
  obtain ⟨es, clock, hb, F, hs, hD⟩ := h
  refine ⟨es, clock, hb, F, ?_, hD⟩
  rw [hD, Maps.size_eq, length_read]
  exact Nat.le_refl _
theorem kidsLe {T : Tre} (hT : WFT T) {nb : List ByteArray → Nat} {p : List ByteArray} {D : DataW Value} (h : Kids T nb p D) : Maps.size D ≤ 256 := by
  rw [(h.keys hT).2]
  exact Nat.le_trans (kids_len _ _) hT.len
/-- A file's bytes turn. -/
theorem TreeM.set {w : World} {S : Nat → Prop} {rb : Nat} {T : Tre} {nb mb : List ByteArray → Nat} (h : TreeM w S rb T nb mb) {l : List ByteArray} {x : Itm} (hx : lookT T l = some x) (hd : x.dir = false) (d : ByteArray) : TreeM (w.setCell ⟨nb l, 0, none⟩ (.string d)) S rb (setD T l d) nb mb := by
  have hn : ∀ p, isNode (setD T l d) p ↔ isNode T p := fun p => by
    unfold isNode
    rw [look_setD]
    cases lookT T p <;> simp
  have hf : ∀ p, isF (setD T l d) p = isF T p := fun p => by
    unfold isF
    rw [look_setD]
    cases lookT T p with
    | none => rfl
    | some y =>
      show (!(if p = l then { y with data := d } else y).dir) = _
      split <;> rfl
  have hln : isNode T l := .inr (by rw [hx]; rfl)
  have hlf : isF T l = true := by unfold isF; rw [hx]; show (!x.dir) = true; rw [hd]; rfl
  have hs : Same (· = nb l) w (w.setCell ⟨nb l, 0, none⟩ (.string d)) := Same.setCell (S := (· = nb l)) (Same.refl _ w) ⟨nb l, 0, none⟩ rfl _
  refine ⟨h.root, fun p hp => h.sn p ((hn p).1 hp), fun p hp => ?_, fun p hp hpf => h.sm p ((hn p).1 hp) (by rw [← hf]; exact hpf), fun p hp hpf => ?_, fun p q hp hq => h.i1 p q ((hn p).1 hp) ((hn q).1 hq), fun p q hp hpf hq hqf => h.i2 p q ((hn p).1 hp) (by rw [← hf]; exact hpf) ((hn q).1 hq) (by rw [← hf]; exact hqf), fun p q hp hq hqf => h.i3 p q ((hn p).1 hp) ((hn q).1 hq) (by rw [← hf]; exact hqf)⟩
  · by_cases e : p = l
    · subst e
      rw [heap_setCell_same w _ 0 _ _ _ (h.node p hln), rowN_file hlf, rowN_file (by rw [hf]; exact hlf)]
      have : datT (setD T p d) p = d := by unfold datT; rw [look_setD, hx]; simp
      rw [this]
      rfl
    · rw [heap_setCell_other _ _ _ _ (fun e2 => e (h.i1 p l ((hn p).1 hp) hln e2)), h.node p ((hn p).1 hp)]
      have h1 : rowN (setD T l d) mb p = rowN T mb p := by
        unfold rowN
        rw [hf]
        have : datT (setD T l d) p = datT T p := by
          unfold datT
          rw [look_setD]
          cases lookT T p with
          | none => rfl
          | some y => show (if p = l then { y with data := d } else y).data = _; rw [if_neg e]
        rw [this]
      rw [h1]
  · obtain ⟨D, h1, h2⟩ := h.map p ((hn p).1 hp) (by rw [← hf]; exact hpf)
    refine ⟨D, ownsMap_heap h1 (hs.block _ (ownsMap_lt h1) (fun e => h.i3 l p hln ((hn p).1 hp) (by rw [← hf]; exact hpf) e.symm)), h2.same (fun k => ?_) (fun k _ => rfl)⟩
    rw [look_setD]
    cases lookT T (p ++ [k]) <;> rfl
theorem strKey : Keyed Tryz.prog 9 := string_keyed Tryz.underlying9
theorem orphan {T : Tre} (hT : WFT T) {l : List ByteArray} (h0 : l ≠ []) (hn : lookT T l = none) (k : ByteArray) : lookT T (l ++ [k]) = none := by
  cases hx : lookT T (l ++ [k]) with
  | none => rfl
  | some y =>
    obtain ⟨h1, h2⟩ := look_some hx
    have := hT.up y h1
    rw [h2, List.dropLast_concat] at this
    obtain ⟨z, hz, -⟩ := this h0
    rw [hn] at hz
    cases hz
/-- The tree with a node more: its block is laid, and its name is in its directory's map. -/
theorem TreeM.more {w w1 w2 : World} {S U : Nat → Prop} {rb : Nat} {T : Tre} {nb mb : List ByteArray → Nat} (h : TreeM w S rb T nb mb) (hT : WFT T) {l : List ByteArray} (h0 : l ≠ []) (hn : lookT T l = none) (hdn : isNode T l.dropLast) (hdf : isF T l.dropLast = false) (x : Itm) (hxl : x.names = l) (b bm : Nat)
    (hT' : WFT (T ++ [x]))
    (hs1 : Same (fun _ => False) w w1) (hb : w.heap.size ≤ b ∧ b < w1.heap.size) (hbm : x.dir = true → w.heap.size ≤ bm ∧ bm < w1.heap.size ∧ bm ≠ b ∧ w1.ownsMap Tryz.prog 9 heldR bm 0 (.map []))
    (hrow : w1.heap[b]? = some (.cells #[.string x.data, .map (if x.dir then some bm else none)] 274 (0, 0)))
    (hs2 : Same (· = mb l.dropLast) w1 w2) (hSU : ∀ g, S g → U g) (hnew : ∀ g, w.heap.size ≤ g → U g)
    (hput : ∀ D, w1.ownsMap Tryz.prog 9 heldR (mb l.dropLast) 256 D → w2.ownsMap Tryz.prog 9 heldR (mb l.dropLast) 257 (D.put (.string (bl (l.getLast?.getD ⟨#[]⟩))) (.held (ptrV b)))) :
    TreeM w2 U rb (T ++ [x]) (fun p => if p = l then b else nb p) (fun p => if p = l then bm else mb p) := by
  have hlook : ∀ p, lookT (T ++ [x]) p = if p = l then some x else lookT T p := fun p => by rw [look_append (by rw [hxl]; exact hn), hxl]
  have hnode : ∀ p, isNode (T ++ [x]) p → p ≠ l → isNode T p := fun p hp hne => by
    rcases hp with e | e
    · exact .inl e
    · rw [hlook, if_neg hne] at e; exact .inr e
  have hisF : ∀ p, p ≠ l → isF (T ++ [x]) p = isF T p := fun p hne => by unfold isF; rw [hlook, if_neg hne]
  have hdat : ∀ p, p ≠ l → datT (T ++ [x]) p = datT T p := fun p hne => by unfold datT; rw [hlook, if_neg hne]
  have hdl : l.dropLast ≠ l := fun e => by
    have := congrArg List.length e
    rw [List.length_dropLast] at this
    have := List.length_pos_iff.2 h0
    omega
  have hold : ∀ p, isNode T p → nb p < w.heap.size := fun p hp => lt_of_heap' (h.node p hp)
  have holdm : ∀ p, isNode T p → isF T p = false → mb p < w.heap.size := fun p hp hf => by
    obtain ⟨D, h1, -⟩ := h.map p hp hf
    exact ownsMap_lt h1
  have hsz := hs1.size
  refine ⟨?_, fun p hp => ?_, fun p hp => ?_, fun p hp hf => ?_, fun p hp hf => ?_, fun p q hp hq e => ?_, fun p q hp hpf2 hq hqf2 e => ?_, fun p q hp hq hqf2 e => ?_⟩
  · show (if [] = l then b else nb []) = rb
    rw [if_neg (fun e => h0 e.symm)]; exact h.root
  · show U (if p = l then b else nb p)
    by_cases e : p = l
    · rw [if_pos e]; exact hnew b hb.1
    · rw [if_neg e]; exact hSU _ (h.sn p (hnode p hp e))
  · show w2.heap[(if p = l then b else nb p)]? = some (.cells (rowN (T ++ [x]) (fun p => if p = l then bm else mb p) p) _ _)
    by_cases e : p = l
    · subst e
      rw [if_pos rfl, hs2.block b hb.2 (fun e2 => by have := holdm _ hdn hdf; omega), hrow]
      have e1 : datT (T ++ [x]) p = x.data := by unfold datT; rw [hlook, if_pos rfl]
      have e2 : isF (T ++ [x]) p = !x.dir := by unfold isF; rw [hlook, if_pos rfl]
      unfold rowN
      rw [e1, e2]
      cases x.dir <;> simp
    · have hpn := hnode p hp e
      rw [if_neg e, hs2.block _ (by have := hold p hpn; omega) (fun e2 => h.i3 p _ hpn hdn hdf e2), hs1.block _ (hold p hpn) (fun h => h), h.node p hpn]
      unfold rowN
      rw [hdat p e, hisF p e]
      show _ = some (Obj.cells #[_, .map (if _ then none else some (if p = l then bm else mb p))] _ _)
      rw [if_neg e]
  · show U (if p = l then bm else mb p)
    by_cases e : p = l
    · subst e
      rw [if_pos rfl]
      have e2 : isF (T ++ [x]) p = !x.dir := by unfold isF; rw [hlook, if_pos rfl]
      rw [e2] at hf
      exact hnew _ (hbm (by simpa using hf)).1
    · rw [if_neg e]
      exact hSU _ (h.sm p (hnode p hp e) (by rw [← hisF p e]; exact hf))
  · by_cases e : p = l
    · subst e
      have e2 : isF (T ++ [x]) p = !x.dir := by unfold isF; rw [hlook, if_pos rfl]
      rw [e2] at hf
      obtain ⟨g1, g2, g3, g4⟩ := hbm (by simpa using hf)
      refine ⟨.map [], ?_, Kids.empty fun k => ?_⟩
      · show World.ownsMap _ _ _ _ (if p = p then bm else mb p) _ _
        rw [if_pos rfl]
        exact (ownsMap_heap g4 (hs2.block bm g2 (fun e3 => by have := holdm _ hdn hdf; omega))).mono (Nat.zero_le _)
      · rw [hlook, if_neg (fun e3 => by have := congrArg List.length e3; simp at this)]
        exact orphan hT h0 hn k
    · have hpn := hnode p hp e
      have hpf2 : isF T p = false := by rw [← hisF p e]; exact hf
      obtain ⟨D, h1, h2⟩ := h.map p hpn hpf2
      have h1' : w1.ownsMap Tryz.prog 9 heldR (mb p) 256 D := ownsMap_heap h1 (hs1.block _ (ownsMap_lt h1) (fun h => h))
      have hnbk : ∀ k, p ++ [k] ≠ l → (if p ++ [k] = l then b else nb (p ++ [k])) = nb (p ++ [k]) := fun k hk => if_neg hk
      by_cases e2 : p = l.dropLast
      · have hl : p ++ [l.getLast?.getD ⟨#[]⟩] = l := by rw [e2]; exact names_last h0
        obtain ⟨n, hnn⟩ : ∃ n, n = l.getLast?.getD ⟨#[]⟩ := ⟨_, rfl⟩
        rw [← hnn] at hl hput
        have hput2 := hput D (by rw [← e2]; exact h1')
        rw [← e2] at hput2
        have hb' : (if p ++ [n] = l then b else nb (p ++ [n])) = b := if_pos hl
        have hpk : ∀ k, p ++ [k] = l ↔ k = n := fun k => by
          rw [← hl]
          simp
        have hk2 := h2.put (T' := T ++ [x]) (nb' := fun q => if q = l then b else nb q) n (by rw [hl]; exact hn) (fun k => by
          rw [hlook]
          by_cases ek : k = n
          · rw [if_pos ((hpk k).2 ek), decide_eq_true ek]; simp
          · rw [if_neg (fun h => ek ((hpk k).1 h)), decide_eq_false ek]; simp) (fun k hk => by
          show (if p ++ [k] = l then b else _) = _
          rw [if_neg (fun h => hk ((hpk k).1 h))]) (by rw [hb']; exact hput2.tidy strKey)
        rw [hb'] at hk2
        refine ⟨_, ?_, hk2⟩
        show World.ownsMap _ _ _ _ (if p = l then bm else mb p) _ _
        rw [if_neg e]
        exact (own_tight hput2).mono (kidsLe hT' hk2)
      · refine ⟨D, ?_, h2.same (fun k => ?_) (fun k hk => ?_)⟩
        · show World.ownsMap _ _ _ _ (if p = l then bm else mb p) _ _
          rw [if_neg e]
          exact ownsMap_heap h1' (hs2.block _ (ownsMap_lt h1') (fun e3 => e2 (h.i2 p _ hpn hpf2 hdn hdf e3)))
        · rw [hlook, if_neg (fun e3 => e2 (by rw [← e3, List.dropLast_concat]))]
        · show (if p ++ [k] = l then b else _) = _
          rw [if_neg (fun e3 => e2 (by rw [← e3, List.dropLast_concat]))]
  · have e' : (if p = l then b else nb p) = (if q = l then b else nb q) := e
    by_cases ep : p = l
    · by_cases eq : q = l
      · rw [ep, eq]
      · rw [if_pos ep, if_neg eq] at e'
        have := hold q (hnode q hq eq)
        omega
    · by_cases eq : q = l
      · rw [if_neg ep, if_pos eq] at e'
        have := hold p (hnode p hp ep)
        omega
      · rw [if_neg ep, if_neg eq] at e'
        exact h.i1 p q (hnode p hp ep) (hnode q hq eq) e'
  · have e' : (if p = l then bm else mb p) = (if q = l then bm else mb q) := e
    have hl2 : ∀ p, p = l → isF (T ++ [x]) p = false → w.heap.size ≤ bm := fun p e hf => by
      subst e
      have e2 : isF (T ++ [x]) p = !x.dir := by unfold isF; rw [hlook, if_pos rfl]
      rw [e2] at hf
      exact (hbm (by simpa using hf)).1
    by_cases ep : p = l
    · by_cases eq : q = l
      · rw [ep, eq]
      · rw [if_pos ep, if_neg eq] at e'
        have h1 := holdm q (hnode q hq eq) (by rw [← hisF q eq]; exact hqf2)
        have h2 := hl2 p ep hpf2
        omega
    · by_cases eq : q = l
      · rw [if_neg ep, if_pos eq] at e'
        have h1 := holdm p (hnode p hp ep) (by rw [← hisF p ep]; exact hpf2)
        have h2 := hl2 q eq hqf2
        omega
      · rw [if_neg ep, if_neg eq] at e'
        exact h.i2 p q (hnode p hp ep) (by rw [← hisF p ep]; exact hpf2) (hnode q hq eq) (by rw [← hisF q eq]; exact hqf2) e'
  · have e' : (if p = l then b else nb p) = (if q = l then bm else mb q) := e
    have hl2 : q = l → w.heap.size ≤ bm ∧ bm ≠ b := fun eq => by
      have e2 : isF (T ++ [x]) q = !x.dir := by unfold isF; rw [hlook, if_pos eq]
      rw [e2] at hqf2
      have := hbm (by simpa using hqf2)
      exact ⟨this.1, this.2.2.1⟩
    by_cases ep : p = l
    · by_cases eq : q = l
      · rw [if_pos ep, if_pos eq] at e'
        exact (hl2 eq).2 e'.symm
      · rw [if_pos ep, if_neg eq] at e'
        have h1 := holdm q (hnode q hq eq) (by rw [← hisF q eq]; exact hqf2)
        omega
    · by_cases eq : q = l
      · rw [if_neg ep, if_pos eq] at e'
        have h1 := hold p (hnode p hp ep)
        have h2 := (hl2 eq).1
        omega
      · rw [if_neg ep, if_neg eq] at e'
        exact h.i3 p q (hnode p hp ep) (hnode q hq eq) (by rw [← hisF q eq]; exact hqf2) e'
/-- The tree without a node: its name is out of its directory's map. -/
theorem TreeM.less {w w2 : World} {S : Nat → Prop} {rb : Nat} {T : Tre} {nb mb : List ByteArray → Nat} (h : TreeM w S rb T nb mb) {l : List ByteArray} (h0 : l ≠ []) (hdn : isNode T l.dropLast) (hdf : isF T l.dropLast = false)
    (hs2 : Same (· = mb l.dropLast) w w2)
    (hdel : ∀ D, w.ownsMap Tryz.prog 9 heldR (mb l.dropLast) 256 D → w2.ownsMap Tryz.prog 9 heldR (mb l.dropLast) 256 (D.del (.string (bl (l.getLast?.getD ⟨#[]⟩))))) :
    TreeM w2 S rb (dropT T l) nb mb := by
  have hlook : ∀ p, lookT (dropT T l) p = if p = l then none else lookT T p := look_dropT T l
  have hdl : l.dropLast ≠ l := fun e => by
    have := congrArg List.length e
    rw [List.length_dropLast] at this
    have := List.length_pos_iff.2 h0
    omega
  have hnode : ∀ p, isNode (dropT T l) p → isNode T p ∧ p ≠ l := fun p hp => by
    rcases hp with e | e
    · exact ⟨.inl e, by rw [e]; exact fun e => h0 e.symm⟩
    · rw [hlook] at e
      by_cases ep : p = l
      · rw [if_pos ep] at e; cases e
      · rw [if_neg ep] at e; exact ⟨.inr e, ep⟩
  have hisF : ∀ p, p ≠ l → isF (dropT T l) p = isF T p := fun p hne => by unfold isF; rw [hlook, if_neg hne]
  have hdat : ∀ p, p ≠ l → datT (dropT T l) p = datT T p := fun p hne => by unfold datT; rw [hlook, if_neg hne]
  refine ⟨h.root, fun p hp => h.sn p (hnode p hp).1, fun p hp => ?_, fun p hp hf => ?_, fun p hp hf => ?_, fun p q hp hq => h.i1 p q (hnode p hp).1 (hnode q hq).1, fun p q hp hpf hq hqf => ?_, fun p q hp hq hqf => ?_⟩
  · obtain ⟨hpn, e⟩ := hnode p hp
    rw [hs2.block _ (lt_of_heap' (h.node p hpn)) (fun e2 => h.i3 p _ hpn hdn hdf e2), h.node p hpn]
    unfold rowN
    rw [hdat p e, hisF p e]
  · obtain ⟨hpn, e⟩ := hnode p hp
    exact h.sm p hpn (by rw [← hisF p e]; exact hf)
  · obtain ⟨hpn, e⟩ := hnode p hp
    have hpf2 : isF T p = false := by rw [← hisF p e]; exact hf
    obtain ⟨D, h1, h2⟩ := h.map p hpn hpf2
    by_cases e2 : p = l.dropLast
    · have hl : p ++ [l.getLast?.getD ⟨#[]⟩] = l := by rw [e2]; exact names_last h0
      obtain ⟨n, hnn⟩ : ∃ n, n = l.getLast?.getD ⟨#[]⟩ := ⟨_, rfl⟩
      rw [← hnn] at hl hdel
      have hdel2 := hdel D (by rw [← e2]; exact h1)
      rw [← e2] at hdel2
      have hpk : ∀ k, p ++ [k] = l ↔ k = n := fun k => by
        rw [← hl]
        simp
      refine ⟨_, hdel2, h2.del n (fun k => ?_) (hdel2.tidy strKey)⟩
      rw [hlook]
      by_cases ek : k = n
      · rw [if_pos ((hpk k).2 ek), decide_eq_false (fun h => h ek)]; simp
      · rw [if_neg (fun h => ek ((hpk k).1 h)), decide_eq_true ek]; simp
    · refine ⟨D, ownsMap_heap h1 (hs2.block _ (ownsMap_lt h1) (fun e3 => e2 (h.i2 p _ hpn hpf2 hdn hdf e3))), h2.same (fun k => ?_) (fun k hk => rfl)⟩
      rw [hlook, if_neg (fun e3 => e2 (by rw [← e3, List.dropLast_concat]))]
  · exact h.i2 p q (hnode p hp).1 (by rw [← hisF p (hnode p hp).2]; exact hpf) (hnode q hq).1 (by rw [← hisF q (hnode q hq).2]; exact hqf)
  · exact h.i3 p q (hnode p hp).1 (hnode q hq).1 (by rw [← hisF q (hnode q hq).2]; exact hqf)
end Go.Proofs.YtapijhhmjjplmaaGreatDoor
namespace Go.Proofs.YtapijhhmjjplmaaGreatDoor
open Go.RowKit
def okN (n : Nat) : Bool := (decide (97 ≤ n) && decide (n ≤ 122)) || (decide (48 ≤ n) && decide (n ≤ 57)) || decide (n = 46) || decide (n = 95) || decide (n = 45)
theorem okB_N (b : UInt8) : okB b = okN b.toNat := rfl
theorem okN_cases (n : Nat) : (okN n = true ∧ ((97 ≤ n ∧ n ≤ 122) ∨ (48 ≤ n ∧ n ≤ 57) ∨ n = 46 ∨ n = 95 ∨ n = 45)) ∨ (okN n = false ∧ (n < 45 ∨ n = 47 ∨ (58 ≤ n ∧ n ≤ 94) ∨ n = 96 ∨ 123 ≤ n)) := by
  cases h : okN n
  · refine .inr ⟨rfl, ?_⟩
    simp [okN] at h
    omega
  · refine .inl ⟨rfl, ?_⟩
    simp [okN] at h
    omega
set_option maxRecDepth 100000 in
set_option maxHeartbeats 1000000 in
theorem prog_isOf (n : Nat) (w : World) :
    Calls Tryz.prog 228 #[.int .i32 (n : Int)] w fun e w' => e = .returned (.bool (okN n)) ∧ w = w' := by
  obtain ⟨b, hb⟩ : ∃ b, b = okN n := ⟨_, rfl⟩
  rw [← hb]
  have HB : Hid (b = okN n) := hb
  clear hb
  rcases okN_cases n with ⟨h1, h2⟩ | ⟨h1, h2⟩
  · have HN : Hid (b = true) := HB.out.trans h1
    clear h1 HB
    rcases h2 with ⟨h2, h3⟩ | ⟨h2, h3⟩ | h2 | h2 | h2
    all_goals
      go_enter Tryz.func228, Tryz.ntmps228
      go_wp2
      go_ret
      refine ⟨?_, rfl⟩
      rw [HN.out]
      first
        | rfl
        | (show Ending.returned (Value.bool (decide ((n : Int) ≤ 122))) = _; rw [decide_eq_true (by omega)])
        | (show Ending.returned (Value.bool (decide ((n : Int) ≤ 57))) = _; rw [decide_eq_true (by omega)])
        | (simp [*])
  · have HN : Hid (b = false) := HB.out.trans h1
    have e1 : ((n : Int) == 46) = false := by rw [beq_eq_false_iff_ne]; omega
    have e2 : ((n : Int) == 95) = false := by rw [beq_eq_false_iff_ne]; omega
    have e3 : ((n : Int) == 45) = false := by rw [beq_eq_false_iff_ne]; omega
    clear h1 HB
    rcases h2 with h2 | h2 | ⟨h2, h3⟩ | h2 | h2
    all_goals
      go_enter Tryz.func228, Tryz.ntmps228
      go_wp2
      go_ret
      refine ⟨?_, rfl⟩
      rw [HN.out]
      first
        | rfl
        | (simp [*]; try omega)
set_option maxRecDepth 100000 in
set_option maxHeartbeats 1000000 in
theorem prog_isName (s : ByteArray) (w : World) (hs : s.size ≤ 1000000) :
    Calls Tryz.prog 157 #[.string s] w fun e w' => e = .returned (.bool (nmB s)) ∧ Below w.heap.size w w' := by
  have hsi : (s.size : Int) ≤ 1000000 := by omega
  have hnot : ∀ (x : Bool) (w : World), (Op.unary .not (.bool x)).run Tryz.prog w = .ok (.bool (!x)) w := fun _ _ => rfl
  by_cases h1 : s.size < 1
  · have HN : Hid (nmB s = false) := by show nmL (bl s) = _; unfold nmL; rw [bl_length, decide_eq_false (show ¬ 1 ≤ s.size by omega)]; simp
    go_enter Tryz.func157, Tryz.ntmps157
    go_wp2
    go_ret
    exact ⟨by rw [HN.out]; rfl, Below.refl _ _⟩
  · by_cases h2 : 16 < s.size
    · have HN : Hid (nmB s = false) := by show nmL (bl s) = _; unfold nmL; rw [bl_length, decide_eq_false (show ¬ s.size ≤ 16 by omega)]; simp
      go_enter Tryz.func157, Tryz.ntmps157
      go_wp2
      go_ret
      exact ⟨by rw [HN.out]; rfl, Below.refl _ _⟩
    · have HIT : Hid (∀ k, Below w.heap.size w (w.iter s k)) := fun k => (Below.refl _ w).alloc (Nat.le_refl _) _
      have HOF : Hid (∀ n w, Calls Tryz.prog 228 #[.int .i32 (n : Nat)] w fun e w' => e = .returned (.bool (okN n)) ∧ w = w') := fun n w => prog_isOf n w
      go_enter Tryz.func157, Tryz.ntmps157
      go_wp2
      go_loopw [] (fun wr => ∃ k : Nat, k ≤ s.size ∧ wr = w.iter s k ∧ Hid (((bl s).take k).all okB = true)) (fun wr => s.size - wr.iterPos w.heap.size)
      case atStart => exact ⟨0, Nat.zero_le _, rfl, rfl⟩
      case round =>
        obtain ⟨k, hk, rfl, Hk⟩ := hrel
        by_cases hlt : k < s.size
        · have HT := take_all_snoc s k hlt
          by_cases hasc : (s[k]).toNat < 128
          · have hnx : ∀ ty, (Instr.next (.pointer (some ⟨w.heap.size, 0, none⟩)) true ty).run Tryz.prog (w.iter s k) = .ok (.tuple #[.bool true, .int .i64 k, .int .i32 (s[k]).toNat]) (w.iter s (k + 1)) := fun ty => run_next_ascii w s k ty hlt hasc
            obtain ⟨n, hn⟩ : ∃ n, n = (s[k]).toNat := ⟨_, rfl⟩
            rw [okB_N, ← hn] at HT
            rw [← hn] at hnx
            cases hok : okN n
            · have HN : Hid (nmB s = false) := take_all_false _ (k + 1) (by rw [HT, hok, Bool.and_false])
              have HC : Hid (∀ w, Calls Tryz.prog 228 #[.int .i32 (n : Nat)] w fun e w' => e = .returned (.bool false) ∧ w = w') := fun w => by rw [← hok]; exact HOF.out n w
              clear HT hok hn
              go_wp2_with (go_at_call 228; refine (HC.out _).mono ?_; rintro e w1 ⟨rfl, rfl⟩)
              go_ret
              exact ⟨by rw [HN.out]; rfl, HIT.out _⟩
            · have HN : Hid (((bl s).take (k + 1)).all okB = true) := by show _ = _; rw [HT, Hk.out, hok]; rfl
              have HC : Hid (∀ w, Calls Tryz.prog 228 #[.int .i32 (n : Nat)] w fun e w' => e = .returned (.bool true) ∧ w = w') := fun w => by rw [← hok]; exact HOF.out n w
              clear HT hok hn Hk
              go_wp2_with (go_at_call 228; refine (HC.out _).mono ?_; rintro e w1 ⟨rfl, rfl⟩)
              go_roundw
              case rel => exact ⟨k + 1, by omega, rfl, HN⟩
              case measure => (simp; try omega)
          · have hd := decode_high s k hlt (by omega)
            have hnx : ∀ ty, (Instr.next (.pointer (some ⟨w.heap.size, 0, none⟩)) true ty).run Tryz.prog (w.iter s k) = _ := fun ty => run_next_any w s k ty hlt
            obtain ⟨n, hn⟩ : ∃ n, n = (Utf8.decode s k).1 := ⟨_, rfl⟩
            obtain ⟨m, hm⟩ : ∃ m, m = (Utf8.decode s k).2 := ⟨_, rfl⟩
            rw [← hn, ← hm] at hnx
            rw [← hn] at hd
            have hof : okN n = false := by
              rcases okN_cases n with ⟨-, h⟩ | ⟨h, -⟩
              · omega
              · exact h
            have hob : okB s[k] = false := by
              rw [okB_N]
              rcases okN_cases s[k].toNat with ⟨-, h⟩ | ⟨h, -⟩
              · omega
              · exact h
            have HN : Hid (nmB s = false) := take_all_false _ (k + 1) (by rw [HT, hob, Bool.and_false])
            have HC : Hid (∀ w, Calls Tryz.prog 228 #[.int .i32 (n : Nat)] w fun e w' => e = .returned (.bool false) ∧ w = w') := fun w => by rw [← hof]; exact HOF.out n w
            clear HT hof hob hn hm hd
            go_wp2_with (go_at_call 228; refine (HC.out _).mono ?_; rintro e w1 ⟨rfl, rfl⟩)
            go_ret
            exact ⟨by rw [HN.out]; rfl, HIT.out _⟩
        · have hnx : ∀ ty, (Instr.next (.pointer (some ⟨w.heap.size, 0, none⟩)) true ty).run Tryz.prog (w.iter s k) = _ := fun ty => run_next_end w s k ty hlt
          have hks : k = s.size := by omega
          have hall : (bl s).all okB = true := by
            have := Hk.out
            rw [List.take_of_length_le (by rw [bl_length]; omega)] at this
            exact this
          have HN : Hid (nmB s = true) := by
            show nmL (bl s) = _
            unfold nmL
            rw [hall, bl_length, decide_eq_true (show 1 ≤ s.size by omega), decide_eq_true (show s.size ≤ 16 by omega)]
            rfl
          clear hall hks
          go_wp2
          go_ret
          exact ⟨by rw [HN.out]; rfl, HIT.out _⟩
end Go.Proofs.YtapijhhmjjplmaaGreatDoor
namespace Go.Proofs.YtapijhhmjjplmaaGreatDoor
open Go.RowKit
theorem own_sh {w : World} {B n k : Nat} {e : TypeId} {v : Value} {xs : List Value} (h : w.ownsRow B e k v n xs) : ∃ ao c, v = .slice ao n c := by
  obtain ⟨-, h2 | ⟨g, cap, cur, hv, -⟩⟩ := h
  · exact ⟨none, 0, by rw [h2.2, h2.1]⟩
  · exact ⟨_, cap, hv⟩
theorem own_snoc {w : World} {B : Nat} {e : TypeId} {v : Value} {l : List ByteArray} {x : ByteArray} (h : w.ownsRow B e 1 v (l.length + 1) (strs l ++ [.string x])) : Hid (w.ownsRow B e 1 v (l ++ [x]).length (strs (l ++ [x]))) := by
  have e1 : (l ++ [x]).length = l.length + 1 := by simp
  have e2 : strs (l ++ [x]) = strs l ++ [.string x] := by simp [strs]
  show World.ownsRow _ _ _ _ _ _ _
  rw [e1, e2]
  exact h
/-- What Names leaves: a path's names in a row of its own, or that it is none. -/
def NamesPost (w : World) (s : ByteArray) (e : Ending) (w' : World) : Prop := ∃ v b, e = .returned (.tuple #[v, .bool b]) ∧ Below w.heap.size w w' ∧ ((∃ l, pathOf s = some l ∧ b = true ∧ w'.ownsRow w.heap.size 9 1 v l.length (strs l)) ∨ (pathOf s = none ∧ b = false))
/-- How far a path is cut. -/
structure Cutting (s : ByteArray) (k f : Nat) (done : List ByteArray) : Prop where
  val : Valid done
  len : done.length ≤ k
  st : (k ≤ s.size ∧ f ≤ k ∧ cutL (bl s) = done.map bl ++ cutL ((bl s).drop f) ∧ ∀ b ∈ ((bl s).drop f).take (k - f), b ≠ 47) ∨ (k = s.size + 1 ∧ f = k ∧ cutL (bl s) = done.map bl)
theorem Cutting.start (s : ByteArray) : Cutting s 0 0 [] := ⟨(by intro n hn; cases hn), Nat.le_refl _, .inl ⟨Nat.zero_le _, Nat.le_refl _, rfl, by simp⟩⟩
theorem drop_at (s : ByteArray) (f k : Nat) (hf : f ≤ k) (hk : k < s.size) : (bl s).drop f = ((bl s).drop f).take (k - f) ++ s[k] :: (bl s).drop (k + 1) := by
  have hl : k < (bl s).length := by rw [bl_length]; exact hk
  have h1 : (bl s).drop k = s[k] :: (bl s).drop (k + 1) := by
    rw [List.drop_eq_getElem_cons hl]
    have := bl_get s k hk
    rw [List.getElem?_eq_getElem hl] at this
    rw [Option.some.inj this]
    rfl
  conv => lhs; rw [← List.take_append_drop (k - f) ((bl s).drop f)]
  rw [List.drop_drop, show f + (k - f) = k by omega, h1]
  rfl
theorem Cutting.go {s : ByteArray} {k f : Nat} {done : List ByteArray} (h : Cutting s k f done) (hk : k < s.size) (hc : s[k] ≠ 47) : Cutting s (k + 1) f done := by
  obtain ⟨h1, h2, ⟨a, b, c, d⟩ | ⟨a, -, -⟩⟩ := h
  · refine ⟨h1, by omega, .inl ⟨by omega, by omega, c, fun x hx => ?_⟩⟩
    rw [drop_at s f k b hk, show k + 1 - f = (((bl s).drop f).take (k - f)).length + 1 by rw [List.length_take, List.length_drop, bl_length]; omega] at hx
    rw [List.take_length_add_append] at hx
    rcases List.mem_append.1 hx with hx | hx
    · exact d x hx
    · simp at hx
      rw [hx]; exact hc
  · omega
theorem Cutting.piece {s : ByteArray} {k f : Nat} {done : List ByteArray} (h : Cutting s k f done) (hk : k ≤ s.size) (hc : ∀ hk : k < s.size, s[k] = 47) : f ≤ k ∧ bl (s.extract f k) ∈ cutL (bl s) ∧ (nmB (s.extract f k) = true → Cutting s (k + 1) (k + 1) (done ++ [s.extract f k])) := by
  obtain ⟨h1, h2, ⟨a, b, c, d⟩ | ⟨a, -, -⟩⟩ := h
  · have hp : cutL ((bl s).drop f) = bl (s.extract f k) :: (if k < s.size then cutL ((bl s).drop (k + 1)) else []) := by
      rw [bl_extract]
      by_cases hlt : k < s.size
      · rw [if_pos hlt]
        conv => lhs; rw [drop_at s f k b hlt, hc hlt]
        exact cutL_one _ _ d
      · rw [if_neg hlt]
        have e : ((bl s).drop f).take (k - f) = (bl s).drop f := List.take_of_length_le (by rw [List.length_drop, bl_length]; omega)
        rw [e] at d ⊢
        exact cutL_none _ d
    refine ⟨b, by rw [c, hp]; simp, fun hn => ⟨fun n hm => ?_, by simp; omega, ?_⟩⟩
    · rcases List.mem_append.1 hm with hm | hm
      · exact h1 n hm
      · simp at hm
        rw [hm]; exact hn
    · by_cases hlt : k < s.size
      · refine .inl ⟨by omega, Nat.le_refl _, ?_, by simp⟩
        rw [c, hp, if_pos hlt]
        simp
      · refine .inr ⟨by omega, rfl, ?_⟩
        rw [c, hp, if_neg hlt]
        simp
  · omega
theorem cut_bad {s : ByteArray} (h0 : s.size ≠ 0) {x : ByteArray} (hx : bl x ∈ cutL (bl s)) (hn : nmB x = false) : pathOf s = none := by
  unfold pathOf
  rw [if_neg h0, if_neg]
  intro h
  have hm : x ∈ cutB s := List.mem_map.2 ⟨bl x, hx, lb_bl x⟩
  have := List.all_eq_true.1 h.1 x hm
  rw [hn] at this
  cases this
theorem Cutting.whole {s : ByteArray} (h0 : s.size ≠ 0) {f : Nat} {done : List ByteArray} (h : Cutting s (s.size + 1) f done) : pathOf s = if done.length ≤ 8 then some done else none := by
  obtain ⟨h1, h2, ⟨a, -, -, -⟩ | ⟨-, -, c⟩⟩ := h
  · omega
  · have e : cutB s = done := by
      unfold cutB
      rw [c, List.map_map]
      conv => rhs; rw [← List.map_id done]
      apply List.map_congr_left
      intro x _
      exact lb_bl x
    unfold pathOf
    rw [if_neg h0, e]
    have : done.all nmB = true := List.all_eq_true.2 h1
    rw [this]
    by_cases hl : done.length ≤ 8
    · rw [if_pos ⟨rfl, hl⟩, if_pos hl]
    · rw [if_neg (fun h => hl h.2), if_neg hl]
set_option maxRecDepth 100000 in
set_option maxHeartbeats 2000000 in
theorem ref_names (s : ByteArray) (w : World) (hs : s.size ≤ 262144) :
    Calls Tryz.prog 191 #[.string s] w fun e w' => NamesPost w s e w' := by
  have hsi : (s.size : Int) ≤ 262144 := by omega
  have hnot : ∀ (x : Bool) (w : World), (Op.unary .not (.bool x)).run Tryz.prog w = .ok (.bool (!x)) w := fun _ _ => rfl
  obtain ⟨i0, hi0, hz0, hz1, hz2⟩ := info_parts infoStr9
  by_cases h0 : s.size = 0
  · have e := size_zero h0
    subst e
    go_enter Tryz.func191, Tryz.ntmps191
    go_wp2
    refine bodyPost_ret (results_tmp2 rfl _ _ _) rfl ?_
    exact ⟨_, _, rfl, Below.refl _ _, .inl ⟨[], rfl, rfl, World.ownsRow_nil _ _ _ _⟩⟩
  · have hne : s.toList.isEmpty = false := by
      rw [ByteArray.toList_eq]
      cases hp : s.data.toList with
      | nil => exact absurd (by rw [← bl_length]; unfold bl; rw [hp]; rfl) h0
      | cons _ _ => rfl
    go_enter Tryz.func191, Tryz.ntmps191
    go_wp2
    go_loopw [4, 5, 6] (fun v fv iv wr => ∃ (k f : Nat) (done : List ByteArray), k ≤ s.size + 1 ∧ f ≤ k ∧ iv = .int .i64 (k : Int) ∧ fv = .int .i64 (f : Int) ∧ Hid (Cutting s k f done) ∧ Hid (wr.ownsRow w.heap.size 9 1 v done.length (strs done)) ∧ Hid (Below w.heap.size w wr)) (fun _ _ i _ => s.size + 1 - (intOf i).toNat)
    case atStart => exact ⟨0, 0, [], by omega, Nat.le_refl _, rfl, rfl, Cutting.start s, World.ownsRow_nil _ _ _ _, Below.refl _ _⟩
    case round =>
      obtain ⟨k, f, done, hk, hfk, rfl, rfl, HC, HO, HB⟩ := hrel
      by_cases hle : k ≤ s.size
      · by_cases hgo : ∃ hlt : k < s.size, s[k] ≠ 47
        · obtain ⟨hlt, hc⟩ := hgo
          have hcn : ((s[k].toNat : Int) != 47) = true := by
            rw [bne_iff_ne]
            intro e
            exact hc (UInt8.toNat.inj (by have : s[k].toNat = 47 := by omega
                                          rw [this]; rfl))
          have HC2 : Hid (Cutting s (k + 1) f done) := HC.out.go hlt hc
          clear hc HC
          go_wp2
          go_roundw
          case rel => exact ⟨k + 1, f, done, by omega, by omega, by go_num, rfl, HC2, HO, HB⟩
          case measure => (simp [intOf]; try omega)
        · have hc : ∀ hlt : k < s.size, s[k] = 47 := fun hlt => Decidable.not_not.1 fun h => hgo ⟨hlt, h⟩
          obtain ⟨hfk2, hmem, hnext⟩ := HC.out.piece hle hc
          have HX : Hid (bl (s.extract f k) ∈ cutL (bl s)) := hmem
          have HNX : Hid (nmB (s.extract f k) = true → Cutting s (k + 1) (k + 1) (done ++ [s.extract f k])) := hnext
          have hxs : (s.extract f k).size ≤ 262144 := by rw [ByteArray.size_extract]; omega
          obtain ⟨x, hx⟩ : ∃ x, x = s.extract f k := ⟨_, rfl⟩
          have HCN := ref_name x wr (by rw [hx]; omega)
          have HNM : Hid (∀ w : World, Calls Tryz.prog 257 #[.string x] w fun e w' => e = .returned (.bool (nmB x)) ∧ w = w') := fun w => ref_name x w (by rw [hx]; omega)
          rw [← hx] at HX HNX
          have HLEN : Hid (done.length ≤ 300000) := Nat.le_trans HC.out.len (by omega)
          clear hmem hnext hgo HCN hxs hfk2
          cases hnm : nmB x
          · have HP : Hid (pathOf s = none) := cut_bad h0 HX.out hnm
            have HNM2 : Hid (∀ w : World, Calls Tryz.prog 257 #[.string x] w fun e w' => e = .returned (.bool false) ∧ w = w') := fun w => by rw [← hnm]; exact HNM.out w
            clear HNM HNX HX hnm HC
            by_cases hlt : k < s.size
            · have hcn : ((s[k].toNat : Int) != 47) = false := by rw [hc hlt]; rfl
              clear hc
              go_wp2_with (go_at_call 257; rw [← hx]; refine (HNM2.out _).mono ?_; rintro e w1 ⟨rfl, rfl⟩)
              refine bodyPost_ret (results_tmp2 rfl _ _ _) rfl ?_
              exact ⟨_, _, rfl, HB.out, .inr ⟨HP.out, rfl⟩⟩
            · clear hc
              go_wp2_with (go_at_call 257; rw [← hx]; refine (HNM2.out _).mono ?_; rintro e w1 ⟨rfl, rfl⟩)
              refine bodyPost_ret (results_tmp2 rfl _ _ _) rfl ?_
              exact ⟨_, _, rfl, HB.out, .inr ⟨HP.out, rfl⟩⟩
          · have HC2 : Hid (Cutting s (k + 1) (k + 1) (done ++ [x])) := HNX.out hnm
            have HNM2 : Hid (∀ w : World, Calls Tryz.prog 257 #[.string x] w fun e w' => e = .returned (.bool true) ∧ w = w') := fun w => by rw [← hnm]; exact HNM.out w
            clear HNM HNX HX hnm HC
            by_cases hlt : k < s.size
            · have hcn : ((s[k].toNat : Int) != 47) = false := by rw [hc hlt]; rfl
              clear hc
              go_wp2_with (first | (go_at_call 257; rw [← hx]; refine (HNM2.out _).mono ?_; rintro e w1 ⟨rfl, rfl⟩) | (at_builtin; rw [← hx]; refine wpList_append_own_at _ rfl _ _ 35 rfl w.heap.size 9 i0 (.string ⟨#[]⟩) 1 16 Tryz.underlying35 hi0 hz0 hz1 hz2 rfl (by decide) _ _ _ rfl (World.ownsRow.alloc HO.out _) _ 1 1 [.string x] rfl rfl (cell_one_new _ _ _) (by intro u hu; rw [List.mem_singleton] at hu; subst hu; rfl) (by have := HLEN.out; unfold maxLen; omega) (by have := HLEN.out; omega) (by have := HB.out.size; simp; omega) ?_; intro v' w2 hown' hgrow _ _; have HO2 : Hid (w2.ownsRow w.heap.size 9 1 v' (done.length + 1) (strs done ++ [.string x])) := hown'; have HB2 : Hid (Below w.heap.size w w2) := (HB.out.alloc HB.out.size _).grown hgrow (by have := HB.out.size; simp; omega) (fun g hg => own_base_of HO.out g hg); clear hown' hgrow))
              go_roundw
              case rel => exact ⟨k + 1, k + 1, done ++ [x], by omega, by omega, by go_num, by go_num, HC2, own_snoc HO2.out, HB2⟩
              case measure => (simp [intOf]; try omega)
            · clear hc
              go_wp2_with (first | (go_at_call 257; rw [← hx]; refine (HNM2.out _).mono ?_; rintro e w1 ⟨rfl, rfl⟩) | (at_builtin; rw [← hx]; refine wpList_append_own_at _ rfl _ _ 35 rfl w.heap.size 9 i0 (.string ⟨#[]⟩) 1 16 Tryz.underlying35 hi0 hz0 hz1 hz2 rfl (by decide) _ _ _ rfl (World.ownsRow.alloc HO.out _) _ 1 1 [.string x] rfl rfl (cell_one_new _ _ _) (by intro u hu; rw [List.mem_singleton] at hu; subst hu; rfl) (by have := HLEN.out; unfold maxLen; omega) (by have := HLEN.out; omega) (by have := HB.out.size; simp; omega) ?_; intro v' w2 hown' hgrow _ _; have HO2 : Hid (w2.ownsRow w.heap.size 9 1 v' (done.length + 1) (strs done ++ [.string x])) := hown'; have HB2 : Hid (Below w.heap.size w w2) := (HB.out.alloc HB.out.size _).grown hgrow (by have := HB.out.size; simp; omega) (fun g hg => own_base_of HO.out g hg); clear hown' hgrow))
              go_roundw
              case rel => exact ⟨k + 1, k + 1, done ++ [x], by omega, by omega, by go_num, by go_num, HC2, own_snoc HO2.out, HB2⟩
              case measure => (simp [intOf]; try omega)
      · have hks : k = s.size + 1 := by omega
        subst hks
        have hp := HC.out.whole h0
        obtain ⟨ao, cap, rfl⟩ := own_sh HO.out
        by_cases hl : done.length ≤ 8
        · rw [if_pos hl] at hp
          have HP : Hid (pathOf s = some done) := hp
          clear hp
          go_wp2
          refine bodyPost_ret (results_tmp2 rfl _ _ _) rfl ?_
          exact ⟨_, _, rfl, HB.out, .inl ⟨done, HP.out, decide_eq_true (by omega), HO.out⟩⟩
        · rw [if_neg hl] at hp
          have HP : Hid (pathOf s = none) := hp
          clear hp
          go_wp2
          refine bodyPost_ret (results_tmp2 rfl _ _ _) rfl ?_
          exact ⟨_, _, rfl, HB.out, .inr ⟨HP.out, decide_eq_false (by omega)⟩⟩
end Go.Proofs.YtapijhhmjjplmaaGreatDoor
namespace Go.Proofs.YtapijhhmjjplmaaGreatDoor
open Go.RowKit
def itmV (x : Itm) : List Value := [.string (joinB x.names), .bool x.dir, .string x.data]
def itmsV (T : Tre) : List Value := T.flatMap itmV
theorem itmsV_length (T : Tre) : (itmsV T).length = T.length * 3 := by
  induction T with
  | nil => rfl
  | cons p r ih =>
    have e : itmsV (p :: r) = itmV p ++ itmsV r := rfl
    rw [e, List.length_append, ih, List.length_cons]
    show 3 + _ = _
    omega
theorem itmsV_at : ∀ (T : Tre) (k : Nat) (h : k < T.length) (j : Nat), j < 3 → (itmsV T)[k * 3 + j]? = (itmV T[k])[j]?
  | p :: r, 0, _, j, hj => by
    have e : itmsV (p :: r) = itmV p ++ itmsV r := rfl
    rw [e, Nat.zero_mul, Nat.zero_add, List.getElem?_append_left (by show j < 3; exact hj)]
    rfl
  | p :: r, k + 1, h, j, hj => by
    have e : itmsV (p :: r) = itmV p ++ itmsV r := rfl
    rw [e, List.getElem?_append_right (by show 3 ≤ _; omega)]
    have e2 : (k + 1) * 3 + j - (itmV p).length = k * 3 + j := by show (k + 1) * 3 + j - 3 = _; omega
    rw [e2]
    exact itmsV_at r k (by simpa using h) j hj
/-- The reference's tree in memory. -/
def TreeR (w : World) (S : Nat → Prop) (tv : Value) (T : Tre) : Prop := OwnS w S 316 3 tv T.length (itmsV T)
theorem TreeR.open {w : World} {S : Nat → Prop} {tv : Value} {T : Tre} (h : TreeR w S tv T) (hn : 0 < T.length) :
    ∃ g cap, tv = .slice (some ⟨g, 0, none⟩) T.length cap ∧ S g ∧ g < w.heap.size ∧ (∀ k (hk : k < T.length), w.cell? ⟨g, k * 3, none⟩ = some (.string (joinB T[k].names)) ∧ w.cell? ⟨g, k * 3 + 1, none⟩ = some (.bool T[k].dir) ∧ w.cell? ⟨g, k * 3 + 2, none⟩ = some (.string T[k].data)) ∧ ∀ j, w.frozen? ⟨g, j, none⟩ = false := by
  obtain ⟨g, cap, hv, hg, hc, hf⟩ := OwnS.open h hn
  refine ⟨g, cap, hv, hg, OwnS.lt h (by rw [hv]; rfl), fun k hk => ?_, hf⟩
  have hj : ∀ j, j < 3 → ∀ u, (itmV T[k])[j]? = some u → w.cell? ⟨g, k * 3 + j, none⟩ = some u := fun j hj u hu => by
    have hl : k * 3 + j < (itmsV T).length := by rw [itmsV_length]; omega
    have h1 := hc _ hl
    have h2 := itmsV_at T k hk j hj
    rw [List.getElem?_eq_getElem hl, hu] at h2
    rw [h1, Option.some.inj h2]
  exact ⟨hj 0 (by omega) _ rfl, hj 1 (by omega) _ rfl, hj 2 (by omega) _ rfl⟩
theorem TreeR.nil {w : World} {S : Nat → Prop} {tv : Value} (h : TreeR w S tv []) : ∃ ao c, tv = .slice ao 0 c := by
  obtain ⟨ao, c, h⟩ := own_sh h.1
  exact ⟨ao, c, h⟩
/-- The place that find tells. -/
def findR (T : Tre) (p : List ByteArray) : Int := if (lookT T p).isSome then (idxT T p : Int) else -1
theorem idx_some {T : Tre} {p : List ByteArray} {x : Itm} (h : lookT T p = some x) : ∃ hl : idxT T p < T.length, T[idxT T p] = x := by
  induction T with
  | nil => cases h
  | cons y r ih =>
    unfold lookT at h
    rw [List.find?_cons] at h
    by_cases e : y.names = p
    · rw [decide_eq_true e] at h
      have hi : idxT (y :: r) p = 0 := by unfold idxT; rw [List.findIdx_cons, decide_eq_true e]; rfl
      refine ⟨by rw [hi]; simp, ?_⟩
      simp only [hi, List.getElem_cons_zero]
      exact Option.some.inj h
    · rw [decide_eq_false e] at h
      have hi : idxT (y :: r) p = idxT r p + 1 := by unfold idxT; rw [List.findIdx_cons, decide_eq_false e]; rfl
      obtain ⟨h1, h2⟩ := ih h
      refine ⟨by rw [hi]; simp; exact h1, ?_⟩
      simp only [hi, List.getElem_cons_succ]
      exact h2
theorem idx_eq {T : Tre} {p : List ByteArray} {k : Nat} (hk : k < T.length) (h1 : ∀ j (hj : j < T.length), j < k → T[j].names ≠ p) (h2 : T[k].names = p) : idxT T p = k ∧ (lookT T p).isSome := by
  refine ⟨?_, ?_⟩
  · unfold idxT
    rw [List.findIdx_eq hk]
    refine ⟨decide_eq_true h2, fun j hj => decide_eq_false (h1 j (by omega) hj)⟩
  · unfold lookT
    rw [List.find?_isSome]
    exact ⟨T[k], List.getElem_mem _, decide_eq_true h2⟩
theorem look_all {T : Tre} {p : List ByteArray} (h : ∀ j (hj : j < T.length), T[j].names ≠ p) : lookT T p = none := by
  unfold lookT
  rw [List.find?_eq_none]
  intro x hx e
  obtain ⟨j, hj, rfl⟩ := List.getElem_of_mem hx
  exact h j hj (by simpa using e)
theorem joinB_size : ∀ (l : List ByteArray), Valid l → (joinB l).size ≤ 17 * l.length := by
  intro l
  suffices h : ∀ l : List ByteArray, Valid l.reverse → (joinB l.reverse).size ≤ 17 * l.length by
    intro hv
    have := h l.reverse
    rw [List.reverse_reverse, List.length_reverse] at this
    exact this hv
  intro l
  induction l with
  | nil => intro _; exact Nat.le_refl _
  | cons n r ih =>
    intro hv
    rw [List.reverse_cons] at hv ⊢
    have h1 := ih (fun x hx => hv x (by simp at hx ⊢; exact .inl hx))
    have h2 := nmB_size (hv n (by simp))
    rw [joinB_snoc]
    unfold jn
    split
    · simp; omega
    · rw [ByteArray.size_append, ByteArray.size_append, List.length_cons]
      show _ + 1 + _ ≤ _
      omega
set_option maxRecDepth 100000 in
set_option maxHeartbeats 1000000 in
theorem ref_find (S : Nat → Prop) (tv : Value) (T : Tre) (p : List ByteArray) (w : World) (h : TreeR w S tv T) (hT : WFT T) (hp : Valid p) :
    Calls Tryz.prog 193 #[tv, .string (joinB p)] w fun e w' => e = .returned (.int .i64 (findR T p)) ∧ w = w' := by
  obtain ⟨s, hs⟩ : ∃ s, s = joinB p := ⟨_, rfl⟩
  rw [← hs]
  have HS : Hid (s = joinB p) := hs
  clear hs
  by_cases h0 : 0 < T.length
  · obtain ⟨g, cap, rfl, hg, hgl, hc, -⟩ := h.open h0
    have HC : Hid (∀ k (hk : k < T.length), w.cell? ⟨g, k * 3, none⟩ = some (.string (joinB T[k].names)) ∧ w.cell? ⟨g, k * 3 + 1, none⟩ = some (.bool T[k].dir) ∧ w.cell? ⟨g, k * 3 + 2, none⟩ = some (.string T[k].data)) := hc
    have HT : Hid (WFT T) := hT
    have hn := hT.len
    obtain ⟨n, hnn⟩ : ∃ n, n = T.length := ⟨_, rfl⟩
    rw [← hnn] at hn ⊢
    have HN : Hid (n = T.length) := hnn
    clear h hT hc hnn h0
    go_enter Tryz.func193, Tryz.ntmps193
    go_wp2
    go_loop [5] (fun i => ∃ k : Nat, k ≤ n ∧ i = .int .i64 k ∧ Hid (∀ j (hj : j < T.length), j < k → T[j].names ≠ p)) (fun i => n - (intOf i).toNat)
    case atStart => exact ⟨0, Nat.zero_le _, rfl, fun j _ hj => absurd hj (Nat.not_lt_zero _)⟩
    case round =>
      obtain ⟨k, hk, rfl, Hk⟩ := hrel
      by_cases hlt : k < n
      · have hkt : k < T.length := by rw [← HN.out]; exact hlt
        obtain ⟨c0, -, -⟩ := HC.out k hkt
        obtain ⟨x, hx⟩ : ∃ x, x = joinB T[k].names := ⟨_, rfl⟩
        rw [← hx] at c0
        have hv := (HT.out.val T[k] (List.getElem_mem _)).2.2
        by_cases he : T[k].names = p
        · have hb : (x.toList == s.toList) = true := by rw [str_beq, decide_eq_true_iff, hx, HS.out, he]
          obtain ⟨h1, h2⟩ := idx_eq hkt Hk.out he
          have HR : Hid (findR T p = (k : Int)) := by show _ = _; unfold findR; rw [if_pos h2, h1]
          clear h1 h2 he hv hx
          go_wp2
          go_ret
          exact ⟨by rw [HR.out]; rfl, rfl⟩
        · have hb : (x.toList == s.toList) = false := by
            rw [str_beq, decide_eq_false_iff_not, hx, HS.out]
            exact fun e => he (joinB_inj hv hp e)
          have HK : Hid (∀ j (hj : j < T.length), j < k + 1 → T[j].names ≠ p) := fun j hj hjk => by
            rcases Nat.lt_or_ge j k with h' | h'
            · exact Hk.out j hj h'
            · have : j = k := by omega
              subst this
              exact he
          clear he hv hx Hk
          go_wp2
          go_round
          case rel => exact ⟨k + 1, by omega, by go_num, HK⟩
          case measure => (simp [intOf]; try omega)
      · have HR : Hid (findR T p = -1) := by
          show _ = _
          have := look_all (T := T) (p := p) (fun j hj => Hk.out j hj (by rw [← HN.out] at hj; omega))
          unfold findR
          rw [this]
          rfl
        go_wp2
        go_ret
        exact ⟨by rw [HR.out]; rfl, rfl⟩
  · have hT0 : T = [] := List.eq_nil_of_length_eq_zero (by omega)
    subst hT0
    obtain ⟨ao, c, rfl⟩ := h.nil
    clear h hT h0
    go_enter Tryz.func193, Tryz.ntmps193
    go_wp2
    go_loop [5] (fun i => i = .int .i64 0) (fun _ => 0)
    case atStart => rfl
    case round =>
      obtain rfl := hrel
      go_wp2
      go_ret
      exact ⟨rfl, rfl⟩
end Go.Proofs.YtapijhhmjjplmaaGreatDoor
namespace Go.Proofs.YtapijhhmjjplmaaGreatDoor
open Go.RowKit
/-- A slice of strings that is read alone. -/
def StrsAt (w : World) (nv : Value) (l : List ByteArray) : Prop := (l = [] ∧ ∃ ao c, nv = .slice ao 0 c) ∨ ∃ g c, nv = .slice (some ⟨g, 0, none⟩) l.length c ∧ g < w.heap.size ∧ ∀ j (hj : j < l.length), w.cell? ⟨g, j, none⟩ = some (.string l[j])
theorem StrsAt.of_own {w : World} {B : Nat} {nv : Value} {l : List ByteArray} (h : w.ownsRow B 9 1 nv l.length (strs l)) : StrsAt w nv l := by
  by_cases h0 : 0 < l.length
  · obtain ⟨g, cap, hv, -, hc, -⟩ := OwnS.open (S := fun _ => True) (xs := strs l) ⟨own_base h (Nat.zero_le _), fun _ _ => trivial⟩ h0
    refine .inr ⟨g, cap, hv, (h.lt g (by rw [hv]; rfl)).2, fun j hj => ?_⟩
    rw [hc j (by rw [strs_length]; exact hj)]
    simp [strs]
  · have e := List.eq_nil_of_length_eq_zero (Nat.eq_zero_of_not_pos h0)
    subst e
    obtain ⟨ao, c, hv⟩ := own_sh h
    exact .inl ⟨rfl, ao, c, hv⟩
theorem StrsAt.on {w w' : World} {nv : Value} {l : List ByteArray} (h : StrsAt w nv l) (hb : Below w.heap.size w w') : StrsAt w' nv l := by
  rcases h with h | ⟨g, c, hv, hg, hc⟩
  · exact .inl h
  · exact .inr ⟨g, c, hv, Nat.lt_of_lt_of_le hg hb.size, fun j hj => by rw [hb.cell hg]; exact hc j hj⟩
/-- The place that Find tells. -/
def findAt (T : Tre) (l : List ByteArray) : Int := if findE T [] l ≠ 0 then 0 else if l = [] then -1 else (idxT T l : Int)
theorem findE_step {T : Tre} {l : List ByteArray} {k : Nat} (hk : k < l.length) : findE T (l.take k) (l.drop k) = if isF T (l.take k) then 7 else if (lookT T (l.take (k + 1))).isNone then 6 else findE T (l.take (k + 1)) (l.drop (k + 1)) := by
  rw [List.drop_eq_getElem_cons hk]
  have e : l.take k ++ [l[k]] = l.take (k + 1) := (List.take_succ_eq_append_getElem hk).symm
  conv => lhs; unfold findE
  rw [e]
theorem Valid.take {l : List ByteArray} (h : Valid l) (k : Nat) : Valid (l.take k) := fun n hn => h n (List.mem_of_mem_take hn)
theorem Valid.dropLast {l : List ByteArray} (h : Valid l) : Valid l.dropLast := fun n hn => h n ((List.dropLast_sublist l).subset hn)
set_option maxRecDepth 100000 in
set_option maxHeartbeats 2000000 in
theorem ref_Find (S : Nat → Prop) (tv nv : Value) (T : Tre) (l : List ByteArray) (w : World) (h : TreeR w S tv T) (hT : WFT T) (hv : Valid l) (h8 : l.length ≤ 8) (hn : StrsAt w nv l) :
    Calls Tryz.prog 200 #[tv, nv] w fun e w' => e = .returned (.tuple #[.int .i64 (findAt T l), .int .i64 (findE T [] l : Nat)]) ∧ w = w' := by
  have hnot : ∀ (x : Bool) (w : World), (Op.unary .not (.bool x)).run Tryz.prog w = .ok (.bool (!x)) w := fun _ _ => rfl
  have HH : Hid (TreeR w S tv T) := h
  have HT : Hid (WFT T) := hT
  have HV : Hid (Valid l) := hv
  obtain ⟨at0, cp, rfl⟩ := own_sh h.1
  rcases hn with ⟨rfl, ao, c, rfl⟩ | ⟨g, c, rfl, hg, hc⟩
  · clear h hT hv
    go_enter Tryz.func200, Tryz.ntmps200
    go_wp2
    go_loop [6, 7, 8] (fun pv av iv => iv = .int .i64 0 ∧ av = .int .i64 (-1)) (fun _ _ _ => 0)
    case atStart => exact ⟨rfl, rfl⟩
    case round =>
      obtain ⟨rfl, rfl⟩ := hrel
      go_wp2
      refine bodyPost_ret (results_tmp2 rfl _ _ _) rfl ?_
      exact ⟨rfl, rfl⟩
  · have HC : Hid (∀ j (hj : j < l.length), w.cell? ⟨g, j, none⟩ = some (.string l[j])) := hc
    obtain ⟨n, hnn⟩ : ∃ n, n = l.length := ⟨_, rfl⟩
    have HN : Hid (n = l.length) := hnn
    rw [← hnn]
    have hn8 : n ≤ 8 := by omega
    clear h hT hv hc hnn
    go_enter Tryz.func200, Tryz.ntmps200
    go_wp2
    go_loop [6, 7, 8] (fun pv av iv => ∃ (k : Nat) (a : Int), k ≤ n ∧ -1 ≤ a ∧ a ≤ 256 ∧ iv = .int .i64 (k : Int) ∧ av = .int .i64 a ∧ (∃ q, pv = .string q ∧ Hid (q = joinB (l.take k))) ∧ Hid ((k = 0 ∧ a = -1) ∨ (0 < k ∧ (lookT T (l.take k)).isSome ∧ a = (idxT T (l.take k) : Int))) ∧ Hid (findE T [] l = findE T (l.take k) (l.drop k))) (fun _ _ i => n - (intOf i).toNat)
    case atStart => exact ⟨0, -1, by omega, by omega, by omega, rfl, rfl, ⟨_, rfl, rfl⟩, .inl ⟨rfl, rfl⟩, rfl⟩
    case round =>
      obtain ⟨k, a, hk, ha0, ha1, rfl, rfl, ⟨q, rfl, HQ⟩, HA, HE⟩ := hrel
      by_cases hlt : k < n
      · have hkl : k < l.length := by rw [← HN.out]; exact hlt
        have hst := findE_step (T := T) hkl
        have ck := HC.out k hkl
        obtain ⟨x, hx⟩ : ∃ x, x = l[k] := ⟨_, rfl⟩
        rw [← hx] at ck
        have hj : jn q x = joinB (l.take (k + 1)) := by rw [List.take_succ_eq_append_getElem hkl, joinB_snoc, ← HQ.out, ← hx]
        have hqs : q.size + x.size ≤ 1000000 := by
          have h1 := joinB_size _ (HV.out.take k)
          have h2 := nmB_size (HV.out l[k] (List.getElem_mem _))
          rw [← HQ.out, List.length_take] at h1
          rw [← hx] at h2
          omega
        have HJ : Hid (Calls Tryz.prog 197 #[.string q, .string x] w fun e w' => e = .returned (.string (joinB (l.take (k + 1)))) ∧ w = w') := by
          have := ref_join q x w hqs
          rw [hj] at this
          exact this
        have HF : Hid (Calls Tryz.prog 193 #[.slice at0 T.length cp, .string (joinB (l.take (k + 1)))] w fun e w' => e = .returned (.int .i64 (findR T (l.take (k + 1)))) ∧ w = w') := ref_find S _ T _ w HH.out HT.out (HV.out.take _)
        obtain ⟨q', hq'⟩ : ∃ q', q' = joinB (l.take (k + 1)) := ⟨_, rfl⟩
        rw [← hq'] at HJ HF
        have HQ' : Hid (q' = joinB (l.take (k + 1))) := hq'
        -- the test: is what was found a file?
        have htest : Hid ((a = -1 ∧ isF T (l.take k) = false) ∨ ∃ (gi ci : Nat) (d : Bool) (m : Nat), at0 = some ⟨gi, 0, none⟩ ∧ a = (m : Int) ∧ m < T.length ∧ w.cell? ⟨gi, m * 3 + 1, none⟩ = some (.bool d) ∧ isF T (l.take k) = !d) := by
          rcases HA.out with ⟨rfl, e⟩ | ⟨h1, h2, e⟩
          · exact .inl ⟨e, by rw [List.take_zero]; unfold isF; rw [look_root HT.out]⟩
          · obtain ⟨y, hy⟩ := Option.isSome_iff_exists.1 h2
            obtain ⟨hil, hiy⟩ := idx_some hy
            obtain ⟨gi, ci, hvi, -, -, hci, -⟩ := HH.out.open (by omega)
            cases hvi
            refine .inr ⟨gi, cp, y.dir, idxT T (l.take k), rfl, e, hil, ?_, ?_⟩
            · rw [(hci _ hil).2.1, hiy]
            · unfold isF; rw [hy]
        clear hj hqs hq' hx
        have hfr : findR T (l.take (k + 1)) < 0 ∧ lookT T (l.take (k + 1)) = none ∨ ∃ m : Nat, m ≤ 256 ∧ findR T (l.take (k + 1)) = m ∧ (lookT T (l.take (k + 1))).isSome ∧ (m : Int) = idxT T (l.take (k + 1)) := by
          unfold findR
          cases hl : lookT T (l.take (k + 1)) with
          | none => exact .inl ⟨by simp, rfl⟩
          | some y =>
            obtain ⟨hil, -⟩ := idx_some hl
            have := HT.out.len
            exact .inr ⟨idxT T (l.take (k + 1)), by omega, by simp, rfl, rfl⟩
        have HFR : Hid (findR T (l.take (k + 1)) < 0 ∧ lookT T (l.take (k + 1)) = none ∨ ∃ m : Nat, m ≤ 256 ∧ findR T (l.take (k + 1)) = m ∧ (lookT T (l.take (k + 1))).isSome ∧ (m : Int) = idxT T (l.take (k + 1))) := hfr
        obtain ⟨fr, hfr0⟩ : ∃ fr, fr = findR T (l.take (k + 1)) := ⟨_, rfl⟩
        rw [← hfr0] at HF HFR
        clear hfr0 hfr HA
        have hTl : T.length ≤ 256 := HT.out.len
        obtain ⟨nT, hnT⟩ : ∃ nT, nT = T.length := ⟨_, rfl⟩
        rw [← hnT] at hTl HF htest ⊢
        clear hnT
        cases hisf : isF T (l.take k)
        · rw [hisf, if_neg (by simp)] at hst
          have HST : Hid (findE T [] l = if (lookT T (l.take (k + 1))).isNone then 6 else findE T (l.take (k + 1)) (l.drop (k + 1))) := by show _ = _; rw [HE.out, hst]
          rw [hisf] at htest
          clear hst hisf HE
          have hgo : (a = -1) ∨ ∃ (gi : Nat) (m : Nat), at0 = some ⟨gi, 0, none⟩ ∧ a = (m : Int) ∧ m < nT ∧ w.cell? ⟨gi, m * 3 + 1, none⟩ = some (.bool true) := by
            rcases htest.out with ⟨e, -⟩ | ⟨gi, ci, d, m, h1, h2, h3, h4, h5⟩
            · exact .inl e
            · have : d = true := by cases d; cases h5; rfl
              subst this
              exact .inr ⟨gi, m, h1, h2, h3, h4⟩
          clear htest
          rcases HFR.out with ⟨hneg, hnone⟩ | ⟨m2, hm2, hfm, hsome, hidx⟩
          · have HZ : Hid (findE T [] l = 6) := by show _ = _; rw [HST.out, hnone]; rfl
            clear HST hnone HFR
            rcases hgo with rfl | ⟨gi, m, rfl, rfl, hmT, cm⟩
            · go_wp2_with (first | (go_at_call 197; refine HJ.out.mono ?_; rintro e w1 ⟨rfl, rfl⟩) | (go_at_call 193; refine HF.out.mono ?_; rintro e w1 ⟨rfl, rfl⟩))
              refine bodyPost_ret (results_tmp2 rfl _ _ _) rfl ?_
              unfold findAt
              rw [HZ.out]
              exact ⟨rfl, rfl⟩
            · go_wp2_with (first | (go_at_call 197; refine HJ.out.mono ?_; rintro e w1 ⟨rfl, rfl⟩) | (go_at_call 193; refine HF.out.mono ?_; rintro e w1 ⟨rfl, rfl⟩))
              refine bodyPost_ret (results_tmp2 rfl _ _ _) rfl ?_
              unfold findAt
              rw [HZ.out]
              exact ⟨rfl, rfl⟩
          · have HZ : Hid (findE T [] l = findE T (l.take (k + 1)) (l.drop (k + 1))) := by
              show _ = _
              rw [HST.out, if_neg]
              intro hn
              rw [Option.isNone_iff_eq_none] at hn
              rw [hn] at hsome
              cases hsome
            have HA2 : Hid ((k + 1 = 0 ∧ (m2 : Int) = -1) ∨ (0 < k + 1 ∧ (lookT T (l.take (k + 1))).isSome ∧ (m2 : Int) = (idxT T (l.take (k + 1)) : Int))) := .inr ⟨by omega, hsome, hidx⟩
            subst hfm
            clear HST hsome hidx HFR
            rcases hgo with rfl | ⟨gi, m, rfl, rfl, hmT, cm⟩
            · go_wp2_with (first | (go_at_call 197; refine HJ.out.mono ?_; rintro e w1 ⟨rfl, rfl⟩) | (go_at_call 193; refine HF.out.mono ?_; rintro e w1 ⟨rfl, rfl⟩))
              go_round
              case rel => exact ⟨k + 1, m2, by omega, by omega, by omega, by go_num, rfl, ⟨_, rfl, HQ'⟩, HA2, HZ⟩
              case measure => (simp [intOf]; try omega)
            · go_wp2_with (first | (go_at_call 197; refine HJ.out.mono ?_; rintro e w1 ⟨rfl, rfl⟩) | (go_at_call 193; refine HF.out.mono ?_; rintro e w1 ⟨rfl, rfl⟩))
              go_round
              case rel => exact ⟨k + 1, m2, by omega, by omega, by omega, by go_num, rfl, ⟨_, rfl, HQ'⟩, HA2, HZ⟩
              case measure => (simp [intOf]; try omega)
        · rw [hisf, if_pos rfl] at hst
          have HZ : Hid (findE T [] l = 7) := by show _ = _; rw [HE.out, hst]
          rw [hisf] at htest
          clear hst hisf HE HFR
          obtain ⟨gi, m, rfl, rfl, hmT, cm⟩ : ∃ (gi : Nat) (m : Nat), at0 = some ⟨gi, 0, none⟩ ∧ a = (m : Int) ∧ m < nT ∧ w.cell? ⟨gi, m * 3 + 1, none⟩ = some (.bool false) := by
            rcases htest.out with ⟨e, h⟩ | ⟨gi, ci, d, m, h1, h2, h3, h4, h5⟩
            · cases h
            · have : d = false := by cases d; rfl; cases h5
              subst this
              exact ⟨gi, m, h1, h2, h3, h4⟩
          clear htest
          go_wp2
          refine bodyPost_ret (results_tmp2 rfl _ _ _) rfl ?_
          unfold findAt
          rw [HZ.out]
          exact ⟨rfl, rfl⟩
      · have hks : k = n := by omega
        subst hks
        have hz : findE T [] l = 0 := by
          rw [HE.out, List.drop_of_length_le (by rw [← HN.out]; exact Nat.le_refl _)]
          rfl
        have hat : findAt T l = a := by
          unfold findAt
          rw [hz, if_neg (by simp)]
          have et : l.take k = l := List.take_of_length_le (by rw [← HN.out]; exact Nat.le_refl _)
          rcases HA.out with ⟨rfl, e⟩ | ⟨h1, h2, e⟩
          · rw [if_pos (List.eq_nil_of_length_eq_zero HN.out.symm), e]
          · rw [et] at e
            rw [if_neg (by rintro rfl; have := HN.out; simp at this; omega), e]
        have HZ : Hid (findE T [] l = 0 ∧ findAt T l = a) := ⟨hz, hat⟩
        clear hz hat HA HE HQ
        go_wp2
        refine bodyPost_ret (results_tmp2 rfl _ _ _) rfl ?_
        rw [HZ.out.1, HZ.out.2]
        exact ⟨rfl, rfl⟩
end Go.Proofs.YtapijhhmjjplmaaGreatDoor
namespace Go.Proofs.YtapijhhmjjplmaaGreatDoor
open Go.RowKit
theorem index_one : ∀ l : List UInt8, (Lib.index l [47] = -1 ∧ ∀ b ∈ l, b ≠ 47) ∨ ∃ i : Nat, Lib.index l [47] = (i : Int) ∧ l = l.take i ++ 47 :: l.drop (i + 1) ∧ ∀ b ∈ l.take i, b ≠ 47
  | [] => .inl ⟨by simp [Lib.index], by simp⟩
  | b :: l => by
    by_cases h : b = 47
    · subst h
      refine .inr ⟨0, ?_, by simp, by simp⟩
      rw [Lib.index]; simp [List.isPrefixOf]
    · have hp : ([47] : List UInt8).isPrefixOf (b :: l) = false := by simp [List.isPrefixOf, Ne.symm h]
      have hix : Lib.index (b :: l) [47] = if Lib.index l [47] == -1 then -1 else Lib.index l [47] + 1 := by rw [Lib.index, hp]; simp
      rcases index_one l with ⟨h1, h2⟩ | ⟨i, h1, h2, h3⟩
      · refine .inl ⟨by rw [hix, h1]; rfl, fun c hc => ?_⟩
        rcases List.mem_cons.1 hc with rfl | hc
        · exact h
        · exact h2 c hc
      · refine .inr ⟨i + 1, ?_, ?_, ?_⟩
        · rw [hix, h1, if_neg (by rw [beq_iff_eq]; omega)]; omega
        · rw [List.take_succ_cons, List.drop_succ_cons, List.cons_append, ← h2]
        · intro c hc
          rw [List.take_succ_cons] at hc
          rcases List.mem_cons.1 hc with rfl | hc
          · exact h
          · exact h3 c hc
theorem cut_hit {l : List UInt8} {i : Nat} (h2 : l = l.take i ++ 47 :: l.drop (i + 1)) (h3 : ∀ b ∈ l.take i, b ≠ 47) : cutL l = l.take i :: cutL (l.drop (i + 1)) := by
  have h := cutL_one (l.take i) (l.drop (i + 1)) h3
  rw [← h2] at h
  exact h
theorem split_cutL : ∀ (k : Nat) (l : List UInt8), ((cutL l).length ≤ k + 1 → Lib.splitK [47] 0 k l = cutL l) ∧ (k + 1 < (cutL l).length → (Lib.splitK [47] 0 k l).length = k + 1)
  | 0, l => by
    rcases index_one l with ⟨-, h2⟩ | ⟨i, -, h2, h3⟩
    · rw [cutL_none l h2]
      exact ⟨fun _ => rfl, fun h => by simp at h⟩
    · rw [cut_hit h2 h3]
      refine ⟨fun h => ?_, fun _ => rfl⟩
      have := List.length_pos_iff.2 (cutL_ne (l.drop (i + 1)))
      rw [List.length_cons] at h
      omega
  | k + 1, l => by
    rcases index_one l with ⟨h1, h2⟩ | ⟨i, h1, h2, h3⟩
    · have e : Lib.splitK [47] 0 (k + 1) l = [l] := by unfold Lib.splitK; rw [h1]; rfl
      rw [e, cutL_none l h2]
      exact ⟨fun _ => rfl, fun h => by simp at h⟩
    · have e : Lib.splitK [47] 0 (k + 1) l = l.take i :: Lib.splitK [47] 0 k (l.drop (i + 1)) := by
        conv => lhs; unfold Lib.splitK
        rw [h1, if_neg (by rw [beq_iff_eq]; omega)]
        simp
      have hc := cut_hit h2 h3
      obtain ⟨a, b⟩ := split_cutL k (l.drop (i + 1))
      rw [e, hc, List.length_cons]
      refine ⟨fun h => ?_, fun h => ?_⟩
      · rw [a (by omega)]
      · rw [List.length_cons, b (by omega)]
theorem cutL_le : ∀ l : List UInt8, (cutL l).length ≤ l.length + 1
  | [] => by simp [cutL]
  | b :: l => by
    have := cutL_le l
    unfold cutL
    split
    · simp; omega
    · split
      · simp
      · rename_i hx
        rw [hx] at this
        simp at this ⊢
        omega
theorem split_cut (s : ByteArray) : ((cutB s).length ≤ 8 → Lib.splitB slash 0 (min 9 (s.size + 1) - 1) s = cutB s) ∧ (8 < (cutB s).length → 8 < (Lib.splitB slash 0 (min 9 (s.size + 1) - 1) s).length) := by
  have hd := Lib.splitB_data slash 0 (min 9 (s.size + 1) - 1) s
  have hl : (Lib.splitB slash 0 (min 9 (s.size + 1) - 1) s).length = (Lib.splitK [47] 0 (min 9 (s.size + 1) - 1) (bl s)).length := by
    have := congrArg List.length hd
    rw [List.length_map] at this
    exact this
  obtain ⟨h1, h2⟩ := split_cutL (min 9 (s.size + 1) - 1) (bl s)
  have h3 := cutL_le (bl s)
  rw [bl_length] at h3
  rw [cutB_length]
  have hb : Lib.splitK [47] 0 (min 9 (s.size + 1) - 1) (bl s) = cutL (bl s) → Lib.splitB slash 0 (min 9 (s.size + 1) - 1) s = cutB s := fun e => by
    have hd' : (Lib.splitB slash 0 (min 9 (s.size + 1) - 1) s).map bl = cutL (bl s) := hd.trans e
    unfold cutB
    rw [← hd', List.map_map]
    conv => lhs; rw [← List.map_id (Lib.splitB slash 0 (min 9 (s.size + 1) - 1) s)]
    apply List.map_congr_left
    intro x _
    exact (lb_bl x).symm
  refine ⟨fun h => hb (h1 (by omega)), fun h => ?_⟩
  rw [hl]
  by_cases h9 : (cutL (bl s)).length ≤ min 9 (s.size + 1) - 1 + 1
  · rw [h1 h9]; exact h
  · rw [h2 (by omega)]; omega
set_option maxRecDepth 100000 in
theorem prog_clone (s : ByteArray) (w : World) (hs : s.size ≤ 1000000) : Calls Tryz.prog 158 #[.string s] w fun e w' => e = .returned (.string s) ∧ Below w.heap.size w w' := by
  have HC : Hid (Calls Tryz.prog 229 #[.string s] w fun e w' => e = .returned (.string s) ∧ Below w.heap.size w w') := Tryz.stringslite_Clone s w (by omega)
  go_enter Tryz.func158, Tryz.ntmps158
  go_wp2_with (go_at_call 229; refine HC.out.mono ?_; rintro e w1 ⟨rfl, hb⟩; have HB : Hid (Below w.heap.size w w1) := hb; clear hb)
  go_ret
  exact ⟨rfl, HB.out⟩
end Go.Proofs.YtapijhhmjjplmaaGreatDoor
namespace Go.Proofs.YtapijhhmjjplmaaGreatDoor
open Go.RowKit
/-- Names in a row that may be cut. -/
def NamesV (w : World) (v : Value) (l : List ByteArray) : Prop := (l = [] ∧ ∃ ao c, v = .slice ao 0 c) ∨ ∃ g c, v = .slice (some ⟨g, 0, none⟩) l.length c ∧ l.length ≤ c ∧ g < w.heap.size ∧ ∀ j (hj : j < l.length), w.cell? ⟨g, j, none⟩ = some (.string l[j])
theorem NamesV.at {w : World} {v : Value} {l : List ByteArray} (h : NamesV w v l) : StrsAt w v l := by
  rcases h with h | ⟨g, c, h1, -, h3, h4⟩
  · exact .inl h
  · exact .inr ⟨g, c, h1, h3, h4⟩
theorem NamesV.on {w w' : World} {v : Value} {l : List ByteArray} (h : NamesV w v l) (hb : Below w.heap.size w w') : NamesV w' v l := by
  rcases h with h | ⟨g, c, h1, h2, h3, h4⟩
  · exact .inl h
  · exact .inr ⟨g, c, h1, h2, Nat.lt_of_lt_of_le h3 hb.size, fun j hj => by rw [hb.cell h3]; exact h4 j hj⟩
/-- What namesOf leaves. -/
def PNames (w : World) (a : Nat → Addr) (s : ByteArray) (e : Ending) (w' : World) : Prop := ∃ v c, e = .returned (.tuple #[v, errV a c]) ∧ Below w.heap.size w w' ∧ ((∃ l, pathOf s = some l ∧ c = 0 ∧ NamesV w' v l) ∨ (pathOf s = none ∧ c = 5))
/-- And of a bad path there are no names. -/
def PNames2 (w : World) (a : Nat → Addr) (s : ByteArray) (e : Ending) (w' : World) : Prop := ∃ v c, e = .returned (.tuple #[v, errV a c]) ∧ Below w.heap.size w w' ∧ ((∃ l, pathOf s = some l ∧ c = 0 ∧ NamesV w' v l) ∨ (pathOf s = none ∧ c = 5 ∧ v = .slice none 0 0))
theorem PNames2.weak {w w' : World} {a : Nat → Addr} {s : ByteArray} {e : Ending} (h : PNames2 w a s e w') : PNames w a s e w' := by
  obtain ⟨v, c, h1, h2, h3 | ⟨h3, h4, -⟩⟩ := h
  · exact ⟨v, c, h1, h2, .inl h3⟩
  · exact ⟨v, c, h1, h2, .inr ⟨h3, h4⟩⟩
theorem PNames2.bad {w w' : World} {a : Nat → Addr} {s : ByteArray} (hb : Below w.heap.size w w') (h : pathOf s = none) : PNames2 w a s (.returned (.tuple #[.slice none 0 0, rv (a 4)])) w' := ⟨_, 5, rfl, hb, .inr ⟨h, rfl, rfl⟩⟩
set_option maxRecDepth 100000 in
set_option maxHeartbeats 2000000 in
theorem prog_names2 (s : ByteArray) (w : World) (a : Nat → Addr) (m : Int) (hE : w.cell? ⟨4, 0, none⟩ = some (rv (a 4))) (hm : w.cell? ⟨15, 0, none⟩ = some (.int .i64 m)) (hs : s.size ≤ 262144) :
    Calls Tryz.prog 89 #[.string s] w fun e w' => PNames2 w a s e w' := by
  have hnot : ∀ (x : Bool) (w : World), (Op.unary .not (.bool x)).run Tryz.prog w = .ok (.bool (!x)) w := fun _ _ => rfl
  by_cases h0 : s.size = 0
  · have e := size_zero h0
    subst e
    go_enter Tryz.func89, Tryz.ntmps89
    go_wp2
    refine bodyPost_ret (results_tmp2 rfl _ _ _) rfl ?_
    exact ⟨_, 0, rfl, Below.refl _ _, .inl ⟨[], rfl, rfl, .inl ⟨rfl, _, _, rfl⟩⟩⟩
  · have hne : s.toList.isEmpty = false := by
      rw [ByteArray.toList_eq]
      cases hp : s.data.toList with
      | nil => exact absurd (by rw [← bl_length]; unfold bl; rw [hp]; rfl) h0
      | cons _ _ => rfl
    have hSP := Tryz.strings_SplitN s slash 9 m w (by omega) hm (by decide) (by omega) (by omega)
    obtain ⟨hc1, hc2⟩ := split_cut s
    have hsz : ∀ x ∈ cutB s, x.size ≤ 1000000 := fun x hx => by
      unfold cutB at hx
      obtain ⟨y, hy, rfl⟩ := List.mem_map.1 hx
      have h1 : ∀ l : List UInt8, ∀ y ∈ cutL l, y.length ≤ l.length := by
        intro l
        induction l with
        | nil => intro y hy; simp [cutL] at hy; rw [hy]; simp
        | cons b l ih =>
          intro y hy
          unfold cutL at hy
          split at hy
          · rcases List.mem_cons.1 hy with rfl | hy
            · simp
            · have := ih y hy; simp; omega
          · split at hy
            · simp at hy; rw [hy]; simp
            · rename_i x r hx
              rcases List.mem_cons.1 hy with rfl | hy
              · have := ih x (by rw [hx]; simp); simp; exact this
              · have := ih y (by rw [hx]; simp [hy]); simp; omega
      have := h1 _ y hy
      rw [bl_length] at this
      show (lb y).size ≤ _
      rw [← bl_length, bl_lb]
      omega
    obtain ⟨L, hL⟩ : ∃ L, L = Lib.splitB slash 0 (min 9 (s.size + 1) - 1) s := ⟨_, rfl⟩
    have hL9 : L.length ≤ 9 := by rw [hL]; refine Nat.le_trans (Lib.splitB_length_le _ _ _ _) ?_; omega
    have hLN : L.length ≤ min 9 (s.size + 1) := by rw [hL]; refine Nat.le_trans (Lib.splitB_length_le _ _ _ _) ?_; omega
    rw [← hL] at hSP hc1 hc2
    obtain ⟨N, hN⟩ : ∃ N, N = min 9 (s.size + 1) := ⟨_, rfl⟩
    rw [← hN] at hSP hLN
    have hSP2 : Calls Tryz.prog 156 #[.string s, .string ⟨#[47]⟩, .int .i64 9] w fun e w' => e = .returned (.slice (some ⟨w.heap.size, 0, none⟩) L.length N) ∧ w' = w.alloc (.cells (Lib.cellsOf L N) 9) := hSP
    have HSP : Hid (Calls Tryz.prog 156 #[.string s, .string ⟨#[47]⟩, .int .i64 9] w fun e w' => e = .returned (.slice (some ⟨w.heap.size, 0, none⟩) L.length N) ∧ w' = w.alloc (.cells (Lib.cellsOf L N) 9)) := hSP2
    have hEl := block_lt_of_cell hE
    have hrow : ∀ w' : World, w'.heap[w.heap.size]? = some (.cells (Lib.cellsOf L N) 9 (0, 0)) → ∀ j (hj : j < L.length), w'.cell? ⟨w.heap.size, j, none⟩ = some (.string L[j]) := fun w' h j hj => by
      rw [cell_of_row _ _ _ _ _ _ h]
      unfold Lib.cellsOf
      rw [List.getElem?_toArray, List.getElem?_append_left (by simpa using hj), List.getElem?_map, List.getElem?_eq_getElem hj]
      rfl
    have HROW : Hid (∀ w' : World, w'.heap[w.heap.size]? = some (.cells (Lib.cellsOf L N) 9 (0, 0)) → ∀ j (hj : j < L.length), w'.cell? ⟨w.heap.size, j, none⟩ = some (.string L[j])) := hrow
    by_cases h8 : 8 < L.length
    · have HP : Hid (pathOf s = none) := by
        show _ = _
        unfold pathOf
        rw [if_neg h0, if_neg]
        rintro ⟨-, h⟩
        have := hc1 h
        rw [this] at h8
        omega
      obtain ⟨W1, hW1⟩ : ∃ W1, W1 = w.alloc (.cells (Lib.cellsOf L N) 9) := ⟨_, rfl⟩
      rw [← hW1] at HSP
      have hB1 : Below w.heap.size w W1 := by rw [hW1]; exact (Below.refl _ _).alloc (Nat.le_refl _) _
      have HB1 : Hid (Below w.heap.size w W1) := hB1
      have hE1 : W1.cell? ⟨4, 0, none⟩ = some (rv (a 4)) := by rw [hB1.cell hEl]; exact hE
      obtain ⟨ev, hev⟩ : ∃ ev, ev = rv (a 4) := ⟨_, rfl⟩
      rw [← hev] at hE1
      have HEV : Hid (ev = rv (a 4)) := hev
      clear hSP hSP2 hc1 hc2 hsz hrow hL hN hW1 hB1 hE hm hev HROW
      go_enter Tryz.func89, Tryz.ntmps89
      go_wp2_with (go_at_call 156; refine HSP.out.mono ?_; rintro e w1 ⟨rfl, rfl⟩)
      go_quiet (fail)
      go_wp2
      refine bodyPost_ret (results_tmp2 rfl _ _ _) rfl ?_
      rw [HEV.out]
      exact PNames2.bad (below_drewN' HB1.out _) HP.out
    · have hLc : L = cutB s := hc1 (Nat.le_of_not_lt fun h => h8 (hc2 h))
      have HLC : Hid (L = cutB s) := hLc
      rw [← hLc] at hsz
      have HSZ : Hid (∀ x ∈ L, x.size ≤ 1000000) := hsz
      obtain ⟨n, hn⟩ : ∃ n, n = L.length := ⟨_, rfl⟩
      have HN : Hid (n = L.length) := hn
      rw [← hn] at HSP hLN h8 hL9
      obtain ⟨W1, hW1⟩ : ∃ W1, W1 = w.alloc (.cells (Lib.cellsOf L N) 9) := ⟨_, rfl⟩
      rw [← hW1] at HSP
      have HB1 : Hid (Below w.heap.size w W1) := by show Below _ _ _; rw [hW1]; exact (Below.refl _ _).alloc (Nat.le_refl _) _
      have HR1 : Hid (W1.heap[w.heap.size]? = some (.cells (Lib.cellsOf L N) 9 (0, 0))) := by show _ = _; rw [hW1]; exact heap_alloc_new w _
      have HE : Hid (w.cell? ⟨4, 0, none⟩ = some (rv (a 4))) := hE
      clear hSP hSP2 hc1 hc2 hsz hrow hL hN hW1 hE hm hLc hn
      go_enter Tryz.func89, Tryz.ntmps89
      go_wp2_with (go_at_call 156; refine HSP.out.mono ?_; rintro e w1 ⟨rfl, rfl⟩)
      go_loopw [17] (fun iv wr => ∃ k : Nat, k ≤ n ∧ iv = .int .i64 (k : Int) ∧ Hid (wr.heap[w.heap.size]? = some (.cells (Lib.cellsOf L N) 9 (0, 0))) ∧ Hid (Below w.heap.size w wr) ∧ Hid (∀ j (hj : j < L.length), j < k → nmB L[j] = true)) (fun i _ => n - (intOf i).toNat)
      case atStart => exact ⟨0, by omega, rfl, HR1, HB1, fun j _ h => absurd h (Nat.not_lt_zero _)⟩
      case round =>
        clear HR1 HB1
        obtain ⟨k, hk, rfl, HR, HB, HK⟩ := hrel
        by_cases hlt : k < n
        · have hkl : k < L.length := by rw [← HN.out]; exact hlt
          have ck := HROW.out wr HR.out k hkl
          obtain ⟨x, hx⟩ : ∃ x, x = L[k] := ⟨_, rfl⟩
          rw [← hx] at ck
          have hxs := HSZ.out x (by rw [hx]; exact List.getElem_mem _)
          have HNM : Hid (Calls Tryz.prog 157 #[.string x] wr fun e w' => e = .returned (.bool (nmB x)) ∧ Below wr.heap.size wr w') := prog_isName x wr hxs
          have hlr := lt_of_heap' HR.out
          cases hnm : nmB x
          · rw [hnm] at HNM
            have HP : Hid (pathOf s = none) := by
              show _ = _
              unfold pathOf
              rw [if_neg h0, if_neg, ]
              rintro ⟨h, -⟩
              have := List.all_eq_true.1 h x (by rw [← HLC.out, hx]; exact List.getElem_mem _)
              rw [hnm] at this
              cases this
            obtain ⟨ev, hev⟩ : ∃ ev, ev = rv (a 4) := ⟨_, rfl⟩
            have HEV : Hid (ev = rv (a 4)) := hev
            have HE1 : Hid (∀ w1, Below wr.heap.size wr w1 → w1.cell? ⟨4, 0, none⟩ = some ev ∧ Below w.heap.size w w1) := fun w1 h1 => by
              have hb := HB.out.trans (h1.mono HB.out.size)
              exact ⟨by rw [hev, hb.cell hEl]; exact HE.out, hb⟩
            clear hnm hx HK hev HE HR
            go_wp2_with (go_at_call 157; refine HNM.out.mono ?_; rintro e w1 ⟨rfl, hb1⟩; obtain ⟨hE1, hB1⟩ := HE1.out w1 hb1; have HB1 : Hid (Below w.heap.size w w1) := hB1; clear hb1 hB1)
            go_quiet (fail)
            go_wp2
            refine bodyPost_ret (results_tmp2 rfl _ _ _) rfl ?_
            rw [HEV.out]
            exact PNames2.bad (below_drewN' HB1.out _) HP.out
          · rw [hnm] at HNM
            have HCL : Hid (∀ w1, Calls Tryz.prog 158 #[.string x] w1 fun e w' => e = .returned (.string x) ∧ Below w1.heap.size w1 w') := fun w1 => prog_clone x w1 hxs
            have HK2 : Hid (∀ j (hj : j < L.length), j < k + 1 → nmB L[j] = true) := fun j hj hjk => by
              rcases Nat.lt_or_ge j k with h' | h'
              · exact HK.out j hj h'
              · have : j = k := by omega
                subst this
                rw [← hx]; exact hnm
            have HFIN : Hid (∀ w1 w2, Below wr.heap.size wr w1 → Below w1.heap.size w1 w2 → w2.cell? ⟨w.heap.size, k, none⟩ = some (.string x) ∧ w2.frozen? ⟨w.heap.size, k, none⟩ = false ∧ Hid ((w2.setCell ⟨w.heap.size, k, none⟩ (.string x)).heap[w.heap.size]? = some (.cells (Lib.cellsOf L N) 9 (0, 0))) ∧ Hid (Below w.heap.size w (w2.setCell ⟨w.heap.size, k, none⟩ (.string x)))) := fun w1 w2 h1 h2 => by
              have hb := h1.trans (h2.mono h1.size)
              have hr : w2.heap[w.heap.size]? = some (.cells (Lib.cellsOf L N) 9 (0, 0)) := by rw [hb.block _ hlr]; exact HR.out
              have hc := HROW.out w2 hr k hkl
              rw [← hx] at hc
              refine ⟨hc, frozen_of_row _ _ _ _ _ hr, ?_, ?_⟩
              · show _ = _
                rw [heap_setCell_same _ _ _ _ _ _ hr]
                congr 2
                apply Array.ext_getElem?
                intro i
                rw [Array.getElem?_setIfInBounds]
                split
                · subst i
                  rw [cell_of_row _ _ _ _ _ _ hr] at hc
                  split
                  · exact hc.symm
                  · rename_i h; rw [Array.getElem?_eq_none (by omega)]
                · rfl
              · exact (HB.out.trans (hb.mono HB.out.size)).setCell (p := ⟨w.heap.size, k, none⟩) (Nat.le_refl _) _
            clear hnm hx HK HR HB
            go_wp2_with (first | (go_at_call 157; refine HNM.out.mono ?_; rintro e w1 ⟨rfl, hb1⟩; have HB1 : Hid (Below wr.heap.size wr w1) := hb1; clear hb1) | (go_at_call 158; refine (HCL.out _).mono ?_; rintro e w2 ⟨rfl, hb2⟩; obtain ⟨cz, fz, HR2, HB2⟩ := HFIN.out w1 w2 HB1.out hb2; clear hb2))
            go_roundw
            case rel => exact ⟨k + 1, by omega, by go_num, HR2, HB2, HK2⟩
            case measure => (simp [intOf]; try omega)
        · have hkn : k = n := by omega
          subst hkn
          have HP : Hid (pathOf s = some L) := by
            show _ = _
            unfold pathOf
            rw [if_neg h0, ← HLC.out, if_pos]
            refine ⟨List.all_eq_true.2 fun x hx => ?_, by have := HN.out; omega⟩
            obtain ⟨j, hj, rfl⟩ := List.getElem_of_mem hx
            exact HK.out j hj (by have := HN.out; omega)
          have HV : Hid (NamesV wr (.slice (some ⟨w.heap.size, 0, none⟩) k N) L) := .inr ⟨w.heap.size, N, by rw [← HN.out], by rw [← HN.out]; exact hLN, lt_of_heap' HR.out, HROW.out wr HR.out⟩
          clear HK HR
          go_wp2
          refine bodyPost_ret (results_tmp2 rfl _ _ _) rfl ?_
          exact ⟨_, 0, rfl, HB.out, .inl ⟨L, HP.out, rfl, HV.out⟩⟩
theorem prog_names (s : ByteArray) (w : World) (a : Nat → Addr) (m : Int) (hE : w.cell? ⟨4, 0, none⟩ = some (rv (a 4))) (hm : w.cell? ⟨15, 0, none⟩ = some (.int .i64 m)) (hs : s.size ≤ 262144) :
    Calls Tryz.prog 89 #[.string s] w fun e w' => PNames w a s e w' := (prog_names2 s w a m hE hm hs).mono fun _ _ h => h.weak
end Go.Proofs.YtapijhhmjjplmaaGreatDoor
namespace Go.Proofs.YtapijhhmjjplmaaGreatDoor
open Go.RowKit Go.Maps
theorem zero_node : ∀ w, (zeroValue 111).run Tryz.prog w = .ok (.pointer none) w := fun _ => by kernel_rfl
/-- 'next, ok := at.below[name]'. -/
theorem wpList_lookup_node {w : World} {ops : Array Oper} {rest : List Oper} {o : Oper} {a : Act} {Q : Exit → Act → World → Prop} (hg : o.guard = none) (mo x : Operand) (hop : o.op = Op.lookup 272 mo x true)
    (b n : Nat) (D : DataW Value) (T : Tre) (nb : List ByteArray → Nat) (p : List ByteArray) (hK : Kids T nb p D) (hm : a.eval mo = .map (some b)) (hown : w.ownsMap Tryz.prog 9 heldR b n D) (k : ByteArray) (hx : a.eval x = .string k) (hk : k.size ≤ 1000000)
    (v : Value) (ok : Bool) (hv : (if (lookT T (p ++ [k])).isSome then ptrV (nb (p ++ [k])) else .pointer none) = v) (hok : (lookT T (p ++ [k])).isSome = ok)
    (hC : wpList Tryz.prog ops Q rest (a.put o.dst (.tuple #[v, .bool ok])) w) : wpList Tryz.prog ops Q (o :: rest) a w := by
  refine wpList_lookup_own_ok w hg mo x 272 hop 9 111 strKey Tryz.underlying272 heldR (zero_node w) (.held (.pointer none)) [] rfl b n D hm hown _ (.string (bl k)) hx (WideMaps.keyOf_string_mk Tryz.underlying9 (by unfold maxLen; omega)) (fun v' ps hv' => ?_)
  have h1 := hK.at k (.held (.pointer none))
  have h2 : (DataW.held v' : DataW Value) = D.atKey (.string (bl k)) (.held (.pointer none)) := by
    unfold heldR at hv'
    exact (Prod.mk.inj (Option.some.inj hv')).1
  have e : v' = v := by
    rw [h1] at h2
    rw [← hv]
    cases hs : (lookT T (p ++ [k])).isSome
    · rw [hs] at h2
      exact DataW.held.inj h2
    · rw [hs] at h2
      exact DataW.held.inj h2
  rw [e, hK.has k, hok]
  exact hC
set_option maxRecDepth 100000 in
theorem prog_isDir (b : Nat) (s : ByteArray) (mo : Option Nat) (w : World) (h : w.heap[b]? = some (.cells #[.string s, .map mo] 274 (0, 0))) :
    Calls Tryz.prog 226 #[.pointer (some ⟨b, 0, none⟩)] w fun e w' => e = .returned (.bool mo.isSome) ∧ w = w' := by
  have c1 : w.cell? ⟨b, 1, none⟩ = some (.map mo) := cell_of_row _ _ _ _ _ _ h
  clear h
  cases mo with
  | none =>
    have hcmp : ∀ w, (binOp BinOp.neq 272 (.map none) (.map none)).run Tryz.prog w = .ok (.bool false) w := fun w => by rfl
    go_enter Tryz.func226, Tryz.ntmps226
    go_wp2
    go_ret
    exact ⟨rfl, rfl⟩
  | some g =>
    have hcmp : ∀ w, (binOp BinOp.neq 272 (.map (some g)) (.map none)).run Tryz.prog w = .ok (.bool true) w := fun w => by rfl
    go_enter Tryz.func226, Tryz.ntmps226
    go_wp2
    go_ret
    exact ⟨rfl, rfl⟩
theorem TreeM.isDir {w : World} {S : Nat → Prop} {rb : Nat} {T : Tre} {nb mb : List ByteArray → Nat} (h : TreeM w S rb T nb mb) (p : List ByteArray) (hp : isNode T p) :
    Calls Tryz.prog 226 #[ptrV (nb p)] w fun e w' => e = .returned (.bool (!isF T p)) ∧ w = w' := by
  have h1 := prog_isDir (nb p) (datT T p) (if isF T p then none else some (mb p)) w (h.node p hp)
  cases hf : isF T p
  · rw [hf] at h1; exact h1
  · rw [hf] at h1; exact h1
/-- What find leads to. -/
def foundV (T : Tre) (nb : List ByteArray → Nat) (l : List ByteArray) : Value := if findE T [] l = 0 then ptrV (nb l) else .pointer none
set_option maxRecDepth 100000 in
set_option maxHeartbeats 2000000 in
theorem prog_find (ba : Nat) (S : Nat → Prop) (rb : Nat) (T : Tre) (nb mb : List ByteArray → Nat) (a : Nat → Addr) (nv : Value) (l : List ByteArray) (w : World) (h : TreeM w S rb T nb mb) (hT : WFT T) (hv : Valid l) (h8 : l.length ≤ 8) (hn : StrsAt w nv l)
    (hr : w.cell? ⟨ba, 1, none⟩ = some (ptrV rb)) (hE5 : w.cell? ⟨5, 0, none⟩ = some (rv (a 5))) (hE6 : w.cell? ⟨6, 0, none⟩ = some (rv (a 6))) :
    Calls Tryz.prog 225 #[.pointer (some ⟨ba, 1, none⟩), nv] w fun e w' => e = .returned (.tuple #[foundV T nb l, errV a (findE T [] l)]) ∧ Below w.heap.size w w' := by
  have hnot : ∀ (x : Bool) (w : World), (Op.unary .not (.bool x)).run Tryz.prog w = .ok (.bool (!x)) w := fun _ _ => rfl
  have HH : Hid (TreeM w S rb T nb mb) := h
  have HT : Hid (WFT T) := hT
  have HV : Hid (Valid l) := hv
  obtain ⟨e5, he5⟩ : ∃ e, e = rv (a 5) := ⟨_, rfl⟩
  obtain ⟨e6, he6⟩ : ∃ e, e = rv (a 6) := ⟨_, rfl⟩
  rw [← he5] at hE5
  rw [← he6] at hE6
  have HE5 : Hid (e5 = rv (a 5)) := he5
  have HE6 : Hid (e6 = rv (a 6)) := he6
  have hr2 : w.cell? ⟨ba, 1, none⟩ = some (.pointer (some ⟨rb, 0, none⟩)) := hr
  clear he5 he6 hr
  rcases hn with ⟨rfl, ao, c, rfl⟩ | ⟨g, c, rfl, hg, hc⟩
  · have HF : Hid (foundV T nb [] = .pointer (some ⟨rb, 0, none⟩)) := by show _ = _; unfold foundV; rw [if_pos (by rfl), h.root]; rfl
    clear h hT hv
    go_enter Tryz.func225, Tryz.ntmps225
    go_wp2
    go_loop [6, 17] (fun av iv => iv = .int .i64 0 ∧ av = .pointer (some ⟨rb, 0, none⟩)) (fun _ _ => 0)
    case atStart => exact ⟨rfl, rfl⟩
    case round =>
      obtain ⟨rfl, rfl⟩ := hrel
      go_wp2
      refine bodyPost_ret (results_tmp2 rfl _ _ _) rfl ?_
      rw [HF.out]
      exact ⟨rfl, Below.refl _ _⟩
  · have HC : Hid (∀ j (hj : j < l.length), w.cell? ⟨g, j, none⟩ = some (.string l[j])) := hc
    obtain ⟨n, hnn⟩ : ∃ n, n = l.length := ⟨_, rfl⟩
    have HN : Hid (n = l.length) := hnn
    rw [← hnn]
    have hn8 : n ≤ 8 := by omega
    have hroot := h.root
    have HRT : Hid (nb [] = rb) := hroot
    clear h hT hv hc hnn hroot
    go_enter Tryz.func225, Tryz.ntmps225
    go_wp2
    go_loop [6, 17] (fun av iv => ∃ (k b : Nat), k ≤ n ∧ iv = .int .i64 (k : Int) ∧ av = .pointer (some ⟨b, 0, none⟩) ∧ Hid (b = nb (l.take k) ∧ isNode T (l.take k) ∧ findE T [] l = findE T (l.take k) (l.drop k))) (fun _ i => n - (intOf i).toNat)
    case atStart => exact ⟨0, rb, by omega, rfl, rfl, HRT.out.symm, .inl rfl, rfl⟩
    case round =>
      obtain ⟨k, b, hk, rfl, rfl, HK⟩ := hrel
      by_cases hlt : k < n
      · have hkl : k < l.length := by rw [← HN.out]; exact hlt
        have hst := findE_step (T := T) hkl
        have ck := HC.out k hkl
        obtain ⟨x, hx⟩ : ∃ x, x = l[k] := ⟨_, rfl⟩
        rw [← hx] at ck
        have hxs := (nmB_size (HV.out l[k] (List.getElem_mem _))).2
        rw [← hx] at hxs
        have htk : l.take k ++ [x] = l.take (k + 1) := by rw [List.take_succ_eq_append_getElem hkl, hx]
        obtain ⟨hb, hnd, hfe⟩ := HK.out
        have HD : Hid (Calls Tryz.prog 226 #[.pointer (some ⟨b, 0, none⟩)] w fun e w' => e = .returned (.bool (!isF T (l.take k))) ∧ w = w') := by
          have := HH.out.isDir (l.take k) hnd
          rw [← hb] at this
          exact this
        have hrow := HH.out.node (l.take k) hnd
        rw [← hb] at hrow
        cases hf : isF T (l.take k)
        · obtain ⟨D, ho, hK⟩ := HH.out.map (l.take k) hnd hf
          rw [hf] at HD
          rw [hf, if_neg (by simp), ← htk] at hst
          rw [rowN_dir hf] at hrow
          have c1 : w.cell? ⟨b, 1, none⟩ = some (.map (some (mb (l.take k)))) := cell_of_row _ _ _ _ _ _ hrow
          obtain ⟨bm, hbm⟩ : ∃ bm, bm = mb (l.take k) := ⟨_, rfl⟩
          rw [← hbm] at c1 ho
          have HO : Hid (w.ownsMap Tryz.prog 9 heldR bm 256 D) := ho
          have HKD : Hid (Kids T nb (l.take k) D) := hK
          obtain ⟨q, hq⟩ : ∃ q, q = l.take k := ⟨_, rfl⟩
          rw [← hq] at HKD hst htk hfe
          clear hrow ho hK hbm hb hf HK hx
          cases hlk : lookT T (q ++ [x]) with
          | none =>
            rw [hlk] at hst
            have HZ : Hid (findE T [] l = 6) := hfe.trans hst
            have hl0 : (lookT T (q ++ [x])).isSome = false := by rw [hlk]; rfl
            have hl1 : (if (lookT T (q ++ [x])).isSome then ptrV (nb (q ++ [x])) else Value.pointer none) = .pointer none := by rw [hl0]; rfl
            have HL0 : Hid ((lookT T (q ++ [x])).isSome = false ∧ (if (lookT T (q ++ [x])).isSome then ptrV (nb (q ++ [x])) else Value.pointer none) = .pointer none) := ⟨hl0, hl1⟩
            clear hst hfe hlk hl0 hl1 hq htk hnd
            go_wp2_with (first | (go_at_call 226; refine HD.out.mono ?_; rintro e w1 ⟨rfl, rfl⟩) | (at_lookup; refine wpList_lookup_node rfl _ _ rfl bm 256 D T nb q HKD.out rfl HO.out x rfl (by omega) _ _ HL0.out.2 HL0.out.1 ?_))
            go_quiet (fail)
            go_wp2
            refine bodyPost_ret (results_tmp2 rfl _ _ _) rfl ?_
            unfold foundV
            rw [HZ.out, HE5.out]
            exact ⟨rfl, below_drewN' (Below.refl _ _) _⟩
          | some y =>
            rw [hlk, if_neg (by simp)] at hst
            have HK2 : Hid (nb (q ++ [x]) = nb (l.take (k + 1)) ∧ isNode T (l.take (k + 1)) ∧ findE T [] l = findE T (l.take (k + 1)) (l.drop (k + 1))) := by
              rw [htk] at hlk hst
              exact ⟨by rw [htk], .inr (by rw [hlk]; rfl), hfe.trans hst⟩
            have hl0 : (lookT T (q ++ [x])).isSome = true := by rw [hlk]; rfl
            obtain ⟨b2, hb2⟩ : ∃ b2, b2 = nb (q ++ [x]) := ⟨_, rfl⟩
            have HL0 : Hid ((lookT T (q ++ [x])).isSome = true ∧ (if (lookT T (q ++ [x])).isSome then ptrV (nb (q ++ [x])) else Value.pointer none) = .pointer (some ⟨b2, 0, none⟩)) := ⟨hl0, by rw [hl0, hb2]; rfl⟩
            rw [← hb2] at HK2
            clear hst hfe hlk hl0 hq htk hb2 hnd
            go_wp2_with (first | (go_at_call 226; refine HD.out.mono ?_; rintro e w1 ⟨rfl, rfl⟩) | (at_lookup; refine wpList_lookup_node rfl _ _ rfl bm 256 D T nb q HKD.out rfl HO.out x rfl (by omega) _ _ HL0.out.2 HL0.out.1 ?_))
            go_round
            case rel => exact ⟨k + 1, b2, by omega, by go_num, rfl, HK2⟩
            case measure => (simp [intOf]; try omega)
        · rw [hf] at HD
          rw [hf, if_pos rfl] at hst
          have HZ : Hid (findE T [] l = 7) := hfe.trans hst
          clear hst hfe hf hrow HK hb hnd hx htk
          go_wp2_with (go_at_call 226; refine HD.out.mono ?_; rintro e w1 ⟨rfl, rfl⟩)
          go_quiet (fail)
          go_wp2
          refine bodyPost_ret (results_tmp2 rfl _ _ _) rfl ?_
          unfold foundV
          rw [HZ.out, HE6.out]
          exact ⟨rfl, below_drewN' (Below.refl _ _) _⟩
      · have hks : k = n := by omega
        subst hks
        obtain ⟨hb, hnd, hfe⟩ := HK.out
        have et : l.take k = l := List.take_of_length_le (by rw [← HN.out]; exact Nat.le_refl _)
        have hz : findE T [] l = 0 := by
          rw [hfe, List.drop_of_length_le (by rw [← HN.out]; exact Nat.le_refl _)]
          rfl
        have HZ : Hid (foundV T nb l = .pointer (some ⟨b, 0, none⟩) ∧ findE T [] l = 0) := ⟨by unfold foundV; rw [if_pos hz, hb, et]; rfl, hz⟩
        clear hb hnd hfe hz HK et
        go_wp2
        refine bodyPost_ret (results_tmp2 rfl _ _ _) rfl ?_
        rw [HZ.out.1, HZ.out.2]
        exact ⟨rfl, Below.refl _ _⟩
end Go.Proofs.YtapijhhmjjplmaaGreatDoor
