/- OWN TEXT: joined of: DRel Is As Num Number DPl. -/
import Derived.Test.YtbnokhdofkpcjaaGreatDoorProg
import Derived.WalkKit
import Derived.LaidEql
import Derived.Stop.Asserts
import Derived.RowKitTokens
import Derived.WalkSpells
import Derived.Deep.QuietTactic
import Derived.BigQuiet
import Derived.Test.YtbnokhdofkpcjaaGreatDoorJdisks11
namespace Go.Proofs.YtbnokhdofkpcjaaGreatDoor
open Go.RowKit Go.Maps

theorem wrap64_small (n : Int) (h1 : 0 ≤ n) (h2 : n ≤ 9223372036854775807) : wrap64 n = n := by
  unfold wrap64
  first | omega | (simp; omega)
structure Rel (d : Dsk) (r : RDsk) : Prop where
  safe : r.safe = d.safe
  wait : r.wait = d.wait
  down : r.down = d.down
  seen : r.seen = applyAll d.wait d.safe
  fuse : d.down = true ∨ (r.lit = decide (0 < d.fuse) ∧ (0 < d.fuse → r.left = d.fuse))
  most : d.fuse ≤ 9223372036854775807
  size : 1 ≤ d.safe.length ∧ d.safe.length ≤ 4096
theorem Rel.seenLen {d : Dsk} {r : RDsk} (h : Rel d r) : r.seen.length = d.safe.length := by rw [h.seen, applyAll_length]
theorem Rel.op {d : Dsk} {r : RDsk} (h : Rel d r) : Rel d.op r.op := by
  have h7 : d.op.fuse ≤ 9223372036854775807 := by
    have := h.most
    unfold Dsk.op
    split
    · show d.fuse - 1 ≤ _; omega
    · exact this
  have h8 : 1 ≤ d.op.safe.length ∧ d.op.safe.length ≤ 4096 := by rw [dop_safe]; exact h.size
  have hdown : d.down = true → r.op.down = d.op.down ∧ d.op.down = true := fun hd => by
    have hr : r.down = true := h.down.trans hd
    have e1 : d.op.down = true := by
      unfold Dsk.op
      split
      · show (d.down || _) = true; rw [hd]; rfl
      · exact hd
    have e2 : r.op.down = true := by
      unfold RDsk.op
      split
      · show (r.down || _) = true; rw [hr]; rfl
      · exact hr
    exact ⟨e2.trans e1.symm, e1⟩
  cases hd : d.down
  · obtain hh | ⟨hl, hf⟩ := h.fuse
    · rw [hd] at hh; cases hh
    · by_cases h0 : 0 < d.fuse
      · have hleft := hf h0
        have hw : wrap64 (r.left - 1) = d.fuse - 1 := by rw [hleft]; exact wrap64_small _ (by omega) (by have := h.most; omega)
        have hlt : r.lit = true := by rw [hl]; exact decide_eq_true h0
        have hrd : r.down = false := h.down.trans hd
        have e : decide (d.fuse - 1 ≤ 0) = decide (d.fuse - 1 = 0) := by
          rw [decide_eq_decide]
          omega
        rw [dop_lit d h0] at h7 h8 ⊢
        rw [op_lit r hlt, hw, e, hd, hrd]
        refine ⟨h.safe, h.wait, rfl, h.seen, ?_, h7, h8⟩
        by_cases h1 : d.fuse - 1 = 0
        · left
          show (false || decide (d.fuse - 1 = 0)) = true
          rw [decide_eq_true h1]; rfl
        · right
          refine ⟨?_, fun _ => rfl⟩
          show r.lit = decide (0 < d.fuse - 1)
          rw [hlt, decide_eq_true (show 0 < d.fuse - 1 by omega)]
      · rw [dop_not d h0, op_not r (by rw [hl]; exact decide_eq_false h0)]
        exact h
  · obtain ⟨e1, e2⟩ := hdown hd
    exact ⟨by rw [op_safe, dop_safe]; exact h.safe, by rw [op_wait, dop_wait]; exact h.wait, e1, by rw [op_seen, dop_wait, dop_safe]; exact h.seen, .inl e2, h7, h8⟩
theorem applyAll_last (wait : List (Nat × ByteArray)) (safe : List ByteArray) (k : Nat) (s : ByteArray) : applyAll (wait ++ [(k, s)]) safe = (applyAll wait safe).set k s := by simp [applyAll, List.foldl_append]
theorem Rel.write {d : Dsk} {r : RDsk} (h : Rel d r) (k : Nat) (s : ByteArray) : Rel (d.write k s) (r.write k s) := by
  have ho := h.op
  unfold Dsk.write RDsk.write
  rw [ho.down]
  split
  · exact ho
  · refine ⟨ho.safe, ?_, ho.down, ?_, ho.fuse, ho.most, ho.size⟩
    · show _ ++ _ = _ ++ _; rw [ho.wait]
    · show r.op.seen.set k s = applyAll (d.op.wait ++ [(k, s)]) d.op.safe
      rw [applyAll_last, ho.seen]
theorem Rel.flush {d : Dsk} {r : RDsk} (h : Rel d r) : Rel d.flush r.flush := by
  have ho := h.op
  unfold Dsk.flush RDsk.flush
  rw [ho.down]
  split
  · exact ho
  · refine ⟨ho.seen, rfl, ho.down, ho.seen, ho.fuse, ho.most, ?_⟩
    show 1 ≤ (applyAll d.op.wait d.op.safe).length ∧ (applyAll d.op.wait d.op.safe).length ≤ 4096
    rw [applyAll_length]; exact ho.size
theorem Rel.crash {d : Dsk} {r : RDsk} (h : Rel d r) (ks : List Int) : Rel { d with safe := keepAll d.wait d.safe ks, wait := [], fuse := 0, down := false } (r.crash ks) := by
  refine ⟨?_, rfl, rfl, ?_, .inr ⟨rfl, fun h => absurd h (show ¬ (0 : Int) < 0 by omega)⟩, by show (0 : Int) ≤ _; omega, ?_⟩
  · show keepAll r.wait r.safe ks = _; rw [h.wait, h.safe]
  · show keepAll r.wait r.safe ks = keepAll d.wait d.safe ks; rw [h.wait, h.safe]
  · show 1 ≤ (keepAll d.wait d.safe ks).length ∧ _ ≤ _
    rw [keepAll_length]; exact h.size
theorem Rel.lit {d : Dsk} {r : RDsk} (h : Rel d r) (n : Int) (hn : n ≤ 9223372036854775807) : Rel { d with fuse := max n 0 } { r with lit := decide (0 < n), left := n } := by
  refine ⟨h.safe, h.wait, h.down, h.seen, .inr ⟨?_, fun hf => ?_⟩, ?_, h.size⟩
  · show decide (0 < n) = decide (0 < max n 0)
    rw [decide_eq_decide]; omega
  · show n = max n 0
    have : 0 < max n 0 := hf
    omega
  · show max n 0 ≤ _; omega
theorem Rel.fresh (n : Nat) (h : 1 ≤ n ∧ n ≤ 4096) : Rel (Dsk.fresh n) (RDsk.fresh n) :=
  ⟨rfl, rfl, rfl, rfl, .inr ⟨rfl, fun h => absurd h (show ¬ (0 : Int) < 0 by omega)⟩, by show (0 : Int) ≤ _; omega, by show 1 ≤ (List.replicate n z64).length ∧ (List.replicate n z64).length ≤ 4096; rw [List.length_replicate]; exact h⟩
theorem at_seen (safe : List ByteArray) (k : Nat) (hk : k < safe.length) (wait : List (Nat × ByteArray)) : (applyAll wait safe)[k]? = some ((lastW wait k).getD safe[k]) := by
  refine snoc_ind (P := fun l => (applyAll l safe)[k]? = some ((lastW l k).getD safe[k])) ?_ (fun l x ih => ?_) wait
  · show safe[k]? = some safe[k]
    exact List.getElem?_eq_getElem hk
  · obtain ⟨j, s⟩ := x
    rw [applyAll_last, lastW_snoc]
    by_cases h : j = k
    · subst h
      rw [if_pos rfl, List.getElem?_set_self (by rw [applyAll_length]; exact hk)]
      rfl
    · rw [if_neg h, List.getElem?_set_ne h]
      exact ih
theorem Rel.at {d : Dsk} {r : RDsk} (h : Rel d r) (k : Nat) (hk : k < d.safe.length) (hk' : k < r.seen.length) : r.seen[k] = d.at k hk := by
  have e := at_seen d.safe k hk d.wait
  rw [← h.seen, List.getElem?_eq_getElem hk'] at e
  exact Option.some.inj e
theorem Rel.ans {d : Dsk} {r : RDsk} (h : Rel d r) : r.ans = if d.op.down then 2 else 0 := by unfold RDsk.ans; rw [h.op.down]
end Go.Proofs.YtbnokhdofkpcjaaGreatDoor
namespace Go.Proofs.YtbnokhdofkpcjaaGreatDoor
open Go.RowKit Go.Extern.Stop Go.Stop Go.Extern

theorem isTypeOf (v : Value) (w : World) : (Extern.ReflectliteType.typeOf #[.iface 456 v]).run Tryz.prog w = .ok (.iface 336 (.agg #[.pointer (some ⟨18, 456, none⟩)])) w := by kernel_rfl
/-- The model's entry for Comparable, under a name that the walk does not lay open. -/
def cmpEntry : Array Value → Sem Value := ReflectliteType.method fun t => do Rtype.noPackHeld "Comparable" t; pure (.bool (← typeInfo t).comparable)
theorem isComparable (w : World) : (cmpEntry #[.agg #[.pointer (some ⟨18, 456, none⟩)]]).run Tryz.prog w = .ok (.bool true) w := by kernel_rfl
theorem isMethodComparable (v : Value) (w : World) : (Go.method 585 336 v "Comparable").run Tryz.prog w = .ok (351, v) w := by kernel_rfl
theorem isComp : (Tryz.prog.info? 456).map (·.comparable) = some true := by kernel_rfl
theorem isSize : (Tryz.prog.info? 474).map (·.size) = some 1 := by kernel_rfl

theorem noIsE (v : Value) (xT : TypeId) (w : World) : (Instr.typeAssert (.iface 456 v) xT 338 true).run Tryz.prog w = .ok (.tuple #[.nilIface, .bool false]) w := run_typeAssert_lacksB Tryz.underlying338 (by kernel_rfl) (by kernel_rfl) v xT w
theorem noUnwrapE (v : Value) (xT : TypeId) (w : World) : (Instr.typeAssert (.iface 456 v) xT 341 true).run Tryz.prog w = .ok (.tuple #[.nilIface, .bool false]) w := run_typeAssert_lacksB Tryz.underlying341 (by kernel_rfl) (by kernel_rfl) v xT w
theorem noUnwrapsE (v : Value) (xT : TypeId) (w : World) : (Instr.typeAssert (.iface 456 v) xT 342 true).run Tryz.prog w = .ok (.tuple #[.nilIface, .bool false]) w := run_typeAssert_lacksB Tryz.underlying342 (by kernel_rfl) (by kernel_rfl) v xT w
theorem noIsW (v : Value) (xT : TypeId) (w : World) : (Instr.typeAssert (.iface 162 v) xT 338 true).run Tryz.prog w = .ok (.tuple #[.nilIface, .bool false]) w := run_typeAssert_lacksB Tryz.underlying338 (by kernel_rfl) (by kernel_rfl) v xT w
theorem hasUnwrapW (v : Value) (xT : TypeId) (w : World) : (Instr.typeAssert (.iface 162 v) xT 341 true).run Tryz.prog w = .ok (.tuple #[.iface 162 v, .bool true]) w := run_typeAssert_hasB Tryz.underlying341 (by kernel_rfl) v xT w
theorem methodUnwrap (v : Value) (w : World) : (Go.method 585 162 v "Unwrap").run Tryz.prog w = .ok (344, v) w := by kernel_rfl

/-- (*Fault).Unwrap of one that is not nil: its second cell. -/
theorem unwrap_any (pb po : Nat) (v : Value) (w : World) (h1 : w.cell? ⟨pb, po + 1, none⟩ = some v) :
    Calls Tryz.prog 344 #[.pointer (some ⟨pb, po, none⟩)] w fun e w' => e = .returned v ∧ w' = w := by
  go_enter Tryz.func344, Tryz.ntmps344
  go_wp2
  go_ret
  exact ⟨rfl, rfl⟩

/-- errors.Is(x, x), x a pointer to an errors.errorString. -/
theorem is_same (a : Addr) (w : World) :
    Calls Tryz.prog 78 #[.iface 456 (.pointer (some a)), .iface 456 (.pointer (some a))] w fun e w' => e = .returned (.bool true) ∧ w' = w := by
  obtain ⟨i, hi, hcmp⟩ := Option.map_eq_some_iff.1 isComp
  obtain ⟨j, hj, hjs⟩ := Option.map_eq_some_iff.1 isSize
  have h8 := @run_callFunc_extern Tryz.prog 133 _ Extern.ReflectliteType.typeOf Tryz.func133 (by kernel_rfl) (by kernel_rfl) (by kernel_rfl) (by kernel_rfl)
  have h32 := @run_callFunc_extern Tryz.prog 351 _ cmpEntry Tryz.func351 (by kernel_rfl) (by kernel_rfl) (by kernel_rfl) (by kernel_rfl)
  have tT := isTypeOf
  have cT := isComparable
  have mR := isMethodComparable
  have heq := run_eql_iface_ptr_same (P := Tryz.prog) w a Tryz.underlying92 Tryz.underlying456 hi hcmp hj
  go_enter Tryz.func78, Tryz.ntmps78
  go_wp2
  refine wp_loop_rounds 1 ?_
  rw [rounds_succ]
  go_wp2
  go_ret
  exact ⟨rfl, rfl⟩

/-- errors.Is(x, y), two different pointers to errors.errorString: false. -/
theorem is_other (a b : Addr) (ca cb : Array Value) (ta tb : TypeId) (w : World) (hne : a ≠ b) (ha : w.heap[a.block]? = some (.cells ca ta (0, 0))) (hb : w.heap[b.block]? = some (.cells cb tb (0, 0))) :
    Calls Tryz.prog 78 #[.iface 456 (.pointer (some a)), .iface 456 (.pointer (some b))] w fun e w' => e = .returned (.bool false) ∧ w' = w := by
  obtain ⟨i, hi, hcmp⟩ := Option.map_eq_some_iff.1 isComp
  obtain ⟨j, hj, hjs⟩ := Option.map_eq_some_iff.1 isSize
  have h8 := @run_callFunc_extern Tryz.prog 133 _ Extern.ReflectliteType.typeOf Tryz.func133 (by kernel_rfl) (by kernel_rfl) (by kernel_rfl) (by kernel_rfl)
  have h32 := @run_callFunc_extern Tryz.prog 351 _ cmpEntry Tryz.func351 (by kernel_rfl) (by kernel_rfl) (by kernel_rfl) (by kernel_rfl)
  have tT := isTypeOf
  have cT := isComparable
  have mR := isMethodComparable
  have nE := noIsE
  have uE := noUnwrapE
  have vE := noUnwrapsE
  have heq := run_eql_iface_ptr_other (P := Tryz.prog) w Tryz.underlying92 Tryz.underlying456 hi hcmp hj (by rw [hjs]; decide) hne ha hb
  go_enter Tryz.func78, Tryz.ntmps78
  go_wp2
  refine wp_loop_rounds 1 ?_
  rw [rounds_succ]
  go_wp2
  go_ret
  exact ⟨rfl, rfl⟩

/-- errors.Is(f, x), f a *Fault that wraps x itself. -/
theorem is_wrap_same (pb po : Nat) (b : Addr) (w : World) (h1 : w.cell? ⟨pb, po + 1, none⟩ = some (.iface 456 (.pointer (some b)))) :
    Calls Tryz.prog 78 #[.iface 162 (.pointer (some ⟨pb, po, none⟩)), .iface 456 (.pointer (some b))] w fun e w' => e = .returned (.bool true) ∧ w' = w := by
  obtain ⟨i, hi, hcmp⟩ := Option.map_eq_some_iff.1 isComp
  obtain ⟨j, hj, hjs⟩ := Option.map_eq_some_iff.1 isSize
  have h8 := @run_callFunc_extern Tryz.prog 133 _ Extern.ReflectliteType.typeOf Tryz.func133 (by kernel_rfl) (by kernel_rfl) (by kernel_rfl) (by kernel_rfl)
  have h32 := @run_callFunc_extern Tryz.prog 351 _ cmpEntry Tryz.func351 (by kernel_rfl) (by kernel_rfl) (by kernel_rfl) (by kernel_rfl)
  have tT := isTypeOf
  have cT := isComparable
  have mR := isMethodComparable
  have nW := noIsW
  have uW := hasUnwrapW
  have mU := methodUnwrap
  have heq := run_eql_iface_ptr_same (P := Tryz.prog) w b Tryz.underlying92 Tryz.underlying456 hi hcmp hj
  have hty := run_eql_iface_types (P := Tryz.prog) 162 456 (.pointer (some ⟨pb, po, none⟩)) (.pointer (some b)) Tryz.underlying92 (by decide) w
  go_enter Tryz.func78, Tryz.ntmps78
  go_wp2
  refine wp_loop_rounds 2 ?_
  rw [rounds_succ]
  go_wp2
  rw [rounds_succ]
  go_wp2
  go_ret
  exact ⟨rfl, rfl⟩

/-- errors.Is(f, x), f a *Fault that wraps another. -/
theorem is_wrap_other (pb po : Nat) (b a : Addr) (ca cb : Array Value) (ta tb : TypeId) (w : World) (h1 : w.cell? ⟨pb, po + 1, none⟩ = some (.iface 456 (.pointer (some a)))) (hne : a ≠ b) (ha : w.heap[a.block]? = some (.cells ca ta (0, 0))) (hb : w.heap[b.block]? = some (.cells cb tb (0, 0))) :
    Calls Tryz.prog 78 #[.iface 162 (.pointer (some ⟨pb, po, none⟩)), .iface 456 (.pointer (some b))] w fun e w' => e = .returned (.bool false) ∧ w' = w := by
  obtain ⟨i, hi, hcmp⟩ := Option.map_eq_some_iff.1 isComp
  obtain ⟨j, hj, hjs⟩ := Option.map_eq_some_iff.1 isSize
  have h8 := @run_callFunc_extern Tryz.prog 133 _ Extern.ReflectliteType.typeOf Tryz.func133 (by kernel_rfl) (by kernel_rfl) (by kernel_rfl) (by kernel_rfl)
  have h32 := @run_callFunc_extern Tryz.prog 351 _ cmpEntry Tryz.func351 (by kernel_rfl) (by kernel_rfl) (by kernel_rfl) (by kernel_rfl)
  have tT := isTypeOf
  have cT := isComparable
  have mR := isMethodComparable
  have nE := noIsE
  have uE := noUnwrapE
  have vE := noUnwrapsE
  have nW := noIsW
  have uW := hasUnwrapW
  have mU := methodUnwrap
  have heq := run_eql_iface_ptr_other (P := Tryz.prog) w Tryz.underlying92 Tryz.underlying456 hi hcmp hj (by rw [hjs]; decide) hne ha hb
  have hty := run_eql_iface_types (P := Tryz.prog) 162 456 (.pointer (some ⟨pb, po, none⟩)) (.pointer (some b)) Tryz.underlying92 (by decide) w
  go_enter Tryz.func78, Tryz.ntmps78
  go_wp2
  refine wp_loop_rounds 2 ?_
  rw [rounds_succ]
  go_wp2
  rw [rounds_succ]
  go_wp2
  go_ret
  exact ⟨rfl, rfl⟩
end Go.Proofs.YtbnokhdofkpcjaaGreatDoor
namespace Go.Proofs.YtbnokhdofkpcjaaGreatDoor
open Go.RowKit Go.Extern.Stop Go.Stop Go.Extern

theorem valueOfPP (t : Addr) (w : World) : (ReflectliteValue.unpack (.iface 164 (.pointer (some t)))).run Tryz.prog w
    = .ok (.agg #[.pointer (some ⟨18, 164, none⟩), .pointer (some ⟨w.heap.size, 0, none⟩), .int .u64 150]) (w.alloc (.cells #[.pointer (some t)] 164)) := by kernel_rfl
theorem typePP (a : Addr) (w : World) : (ReflectliteValue.methodAny (ReflectliteValue.valueError "reflectlite.Value.Type" 0) (fun t _ _ _ => ReflectliteType.toType t) #[.agg #[.pointer (some ⟨18, 164, none⟩), .pointer (some a), .int .u64 150]]).run Tryz.prog w
    = .ok (.iface 336 (.agg #[.pointer (some ⟨18, 164, none⟩)])) w := by kernel_rfl
theorem methodKind (h : Value) (w : World) : (Go.method 585 336 (.agg #[h]) "Kind").run Tryz.prog w = .ok (340, h) w := by kernel_rfl
theorem kindPP (w : World) : ((ReflectliteType.abiMethod fun t => (fun a : Nat => Value.int IntKind.u8 (a : Int)) <$> Rtype.kind t) #[.pointer (some ⟨18, 164, none⟩)]).run Tryz.prog w = .ok (.int .u8 22) w := by kernel_rfl
theorem kindP (w : World) : ((ReflectliteType.abiMethod fun t => (fun a : Nat => Value.int IntKind.u8 (a : Int)) <$> Rtype.kind t) #[.pointer (some ⟨18, 162, none⟩)]).run Tryz.prog w = .ok (.int .u8 22) w := by kernel_rfl
theorem rlm (z : Sem Value) (f : TypeId → Addr → Nat → Nat → Sem Value) (v : Value) :
    ReflectliteValue.method z f #[v] = (do match ← ReflectliteValue.parts v with | none => z | some (t, a, fl) => f t a fl (fl % 32)) := rfl
theorem partsPP (a : Addr) (w : World) : (ReflectliteValue.parts (.agg #[.pointer (some ⟨18, 164, none⟩), .pointer (some a), .int .u64 150])).run Tryz.prog w = .ok (some (164, a, 150)) w := by kernel_rfl
theorem isNilPP (a p : Addr) (W : World) (ha : W.cell? a = some (.pointer (some p))) :
    (ReflectliteValue.method (ReflectliteValue.valueError "reflectlite.Value.IsNil" 0) ReflectliteValue.isNil #[.agg #[.pointer (some ⟨18, 164, none⟩), .pointer (some a), .int .u64 150]]).run Tryz.prog W = .ok (.bool false) W := by
  rw [rlm]
  simp only [Sem.run_bind, partsPP, Result.andThen]
  simp [ReflectliteValue.isNil, loadVar, isAgg, underlying, Tryz.underlying164, ha, Result.andThen]
theorem methodElem (h : Value) (w : World) : (Go.method 585 336 (.agg #[h]) "Elem").run Tryz.prog w = .ok (352, .agg #[h]) w := by kernel_rfl
theorem methodImplements (h : Value) (w : World) : (Go.method 585 336 (.agg #[h]) "Implements").run Tryz.prog w = .ok (353, .agg #[h]) w := by kernel_rfl
theorem methodAssignableTo (h : Value) (w : World) : (Go.method 585 336 (.agg #[h]) "AssignableTo").run Tryz.prog w = .ok (350, .agg #[h]) w := by kernel_rfl
theorem elemPP (w : World) : (ReflectliteType.method ReflectliteType.elem #[.agg #[.pointer (some ⟨18, 164, none⟩)]]).run Tryz.prog w = .ok (.iface 336 (.agg #[.pointer (some ⟨18, 162, none⟩)])) w := by kernel_rfl
theorem implementsP (w : World) : (ReflectliteType.relation "Implements" ReflectliteType.implements_ #[.agg #[.pointer (some ⟨18, 162, none⟩)], .iface 336 (.agg #[.pointer (some ⟨18, 92, none⟩)])]).run Tryz.prog w = .ok (.bool true) w := by kernel_rfl
theorem typeOfP (v : Value) (w : World) : (ReflectliteType.typeOf #[.iface 162 v]).run Tryz.prog w = .ok (.iface 336 (.agg #[.pointer (some ⟨18, 162, none⟩)])) w := by kernel_rfl
theorem typeOfE (v : Value) (w : World) : (ReflectliteType.typeOf #[.iface 456 v]).run Tryz.prog w = .ok (.iface 336 (.agg #[.pointer (some ⟨18, 456, none⟩)])) w := by kernel_rfl
theorem assignableP (w : World) : (ReflectliteType.relation "AssignableTo" ReflectliteType.assignableTo #[.agg #[.pointer (some ⟨18, 162, none⟩)], .iface 336 (.agg #[.pointer (some ⟨18, 162, none⟩)])]).run Tryz.prog w = .ok (.bool true) w := by kernel_rfl
theorem assignableE (w : World) : (ReflectliteType.relation "AssignableTo" ReflectliteType.assignableTo #[.agg #[.pointer (some ⟨18, 456, none⟩)], .iface 336 (.agg #[.pointer (some ⟨18, 162, none⟩)])]).run Tryz.prog w = .ok (.bool false) w := by kernel_rfl
theorem valueOfP (e : Addr) (w : World) : (ReflectliteValue.unpack (.iface 162 (.pointer (some e)))).run Tryz.prog w
    = .ok (.agg #[.pointer (some ⟨18, 162, none⟩), .pointer (some ⟨w.heap.size, 0, none⟩), .int .u64 150]) (w.alloc (.cells #[.pointer (some e)] 162)) := by kernel_rfl
theorem elemOfPP (w : World) : (Rtype.elem? 164).run Tryz.prog w = .ok (some 162) w := by kernel_rfl
theorem mkP (p : Addr) (w : World) : (ReflectliteValue.mk 162 p ReflectliteValue.flagAddr).run Tryz.prog w = .ok (.agg #[.pointer (some ⟨18, 162, none⟩), .pointer (some p), .int .u64 406]) w := by kernel_rfl
theorem elemVPP (a p : Addr) (W : World) (ha : W.cell? a = some (.pointer (some p))) :
    (ReflectliteValue.method (ReflectliteValue.valueError "reflectlite.Value.Elem" 0) ReflectliteValue.elem #[.agg #[.pointer (some ⟨18, 164, none⟩), .pointer (some a), .int .u64 150]]).run Tryz.prog W
      = .ok (.agg #[.pointer (some ⟨18, 162, none⟩), .pointer (some p), .int .u64 406]) W := by
  rw [rlm]
  simp only [Sem.run_bind, partsPP, Result.andThen]
  simp [ReflectliteValue.elem, loadVar, isAgg, underlying, Tryz.underlying164, ha, Result.andThen, elemOfPP, mkP]
theorem rls (v x : Value) : ReflectliteValue.set #[v, x] = (do
    let (some (dst, a, fl), some (src, b, _)) := (← ReflectliteValue.parts v, ← ReflectliteValue.parts x)
      | unsupported (.noEntry "extern/(internal/reflectlite.Value).Set.zeroValue")
    if fl / ReflectliteValue.flagAddr % 2 == 0 then unsupported (.noEntry "extern/(internal/reflectlite.Value).Set.unaddressable")
    let val ← loadVar src b
    if ← Rtype.directlyAssignable dst src then storeVar dst a val
    else if ← Rtype.implements dst src then
      if (← Rtype.kind src) == 20 then
        match val with
        | .nilIface => unsupported (.noEntry "extern/reflectlite: a nil value of one interface type handed on as a value of another")
        | _ => storeVar dst a val
      else storeVar dst a (.iface src val)
    else panicString ("reflectlite.Set: value of type " ++ (← Rtype.spelt src) ++ " is not assignable to type " ++ (← Rtype.spelt dst))
    pure (.tuple #[])) := rfl
theorem partsPa (a : Addr) (w : World) : (ReflectliteValue.parts (.agg #[.pointer (some ⟨18, 162, none⟩), .pointer (some a), .int .u64 406])).run Tryz.prog w = .ok (some (162, a, 406)) w := by kernel_rfl
theorem partsP (a : Addr) (w : World) : (ReflectliteValue.parts (.agg #[.pointer (some ⟨18, 162, none⟩), .pointer (some a), .int .u64 150])).run Tryz.prog w = .ok (some (162, a, 150)) w := by kernel_rfl
theorem directP (w : World) : (Rtype.directlyAssignable 162 162).run Tryz.prog w = .ok true w := by kernel_rfl
theorem setP (ta b e : Addr) (old : Value) (W : World) (hb : W.cell? b = some (.pointer (some e))) (ht : W.cell? ta = some old) (hf : W.frozen? ta = false) :
    (ReflectliteValue.set #[.agg #[.pointer (some ⟨18, 162, none⟩), .pointer (some ta), .int .u64 406], .agg #[.pointer (some ⟨18, 162, none⟩), .pointer (some b), .int .u64 150]]).run Tryz.prog W
      = .ok (.tuple #[]) (W.setCell ta (.pointer (some e))) := by
  rw [rls]
  simp only [Sem.run_bind, partsPa, partsP, Result.andThen]
  simp [ReflectliteValue.flagAddr, loadVar, isAgg, underlying, Tryz.underlying162, hb, Result.andThen, directP, storeVar, Value.cells, storeCells, Addr.add]
  rw [run_store Tryz.prog W ta _ _ (by rfl)]
  simp [ht, hf]

theorem noAsE (v : Value) (xT : TypeId) (w : World) : (Instr.typeAssert (.iface 456 v) xT 346 true).run Tryz.prog w = .ok (.tuple #[.nilIface, .bool false]) w := run_typeAssert_lacksB Tryz.underlying346 (by kernel_rfl) (by kernel_rfl) v xT w
theorem asNoUnwrapE (v : Value) (xT : TypeId) (w : World) : (Instr.typeAssert (.iface 456 v) xT 341 true).run Tryz.prog w = .ok (.tuple #[.nilIface, .bool false]) w := run_typeAssert_lacksB Tryz.underlying341 (by kernel_rfl) (by kernel_rfl) v xT w
theorem asNoUnwrapsE (v : Value) (xT : TypeId) (w : World) : (Instr.typeAssert (.iface 456 v) xT 342 true).run Tryz.prog w = .ok (.tuple #[.nilIface, .bool false]) w := run_typeAssert_lacksB Tryz.underlying342 (by kernel_rfl) (by kernel_rfl) v xT w

set_option maxHeartbeats 4000000 in
theorem as_hit (e t : Addr) (old : Value) (w : World) (hg : w.cell? ⟨12, 0, none⟩ = some (.iface 336 (.agg #[.pointer (some ⟨18, 92, none⟩)]))) (ht0 : w.cell? t = some old) (hf0 : w.frozen? t = false) :
    Calls Tryz.prog 79 #[.iface 162 (.pointer (some e)), .iface 164 (.pointer (some t))] w fun ev w' => ev = .returned (.bool true) ∧ w' = ((((w.alloc (.cells #[.pointer (some t)] 164)).alloc (.cells #[.pointer (some ⟨18, 164, none⟩), .pointer (some ⟨w.heap.size, 0, none⟩), .int .u64 150] 247)).alloc (.cells #[.pointer (some ⟨18, 164, none⟩), .pointer (some ⟨w.heap.size, 0, none⟩), .int .u64 150] 247)).alloc (.cells #[.pointer (some e)] 162)).setCell t (.pointer (some e)) := by
  have h6 := @run_callFunc_extern Tryz.prog 135 _ (fun args => ReflectliteValue.unpack (args.getD 0 (.tuple #[]))) Tryz.func135 (by kernel_rfl) (by kernel_rfl) (by kernel_rfl) (by kernel_rfl)
  have h7 := @run_callFunc_extern Tryz.prog 136 _ (ReflectliteValue.methodAny (ReflectliteValue.valueError "reflectlite.Value.Type" 0) (fun t _ _ _ => ReflectliteType.toType t)) Tryz.func136 (by kernel_rfl) (by kernel_rfl) (by kernel_rfl) (by kernel_rfl)
  have h8 := @run_callFunc_extern Tryz.prog 137 _ (ReflectliteValue.method (ReflectliteValue.valueError "reflectlite.Value.IsNil" 0) ReflectliteValue.isNil) Tryz.func137 (by kernel_rfl) (by kernel_rfl) (by kernel_rfl) (by kernel_rfl)
  have h27 := @run_callFunc_extern Tryz.prog 340 _ (ReflectliteType.abiMethod fun t => do pure (.int .u8 (← Rtype.kind t))) Tryz.func340 (by kernel_rfl) (by kernel_rfl) (by kernel_rfl) (by kernel_rfl)
  have h37 := @run_callFunc_extern Tryz.prog 352 _ (ReflectliteType.method ReflectliteType.elem) Tryz.func352 (by kernel_rfl) (by kernel_rfl) (by kernel_rfl) (by kernel_rfl)
  have h38 := @run_callFunc_extern Tryz.prog 353 _ (ReflectliteType.relation "Implements" ReflectliteType.implements_) Tryz.func353 (by kernel_rfl) (by kernel_rfl) (by kernel_rfl) (by kernel_rfl)
  have h10 := @run_callFunc_extern Tryz.prog 133 _ ReflectliteType.typeOf Tryz.func133 (by kernel_rfl) (by kernel_rfl) (by kernel_rfl) (by kernel_rfl)
  have h35 := @run_callFunc_extern Tryz.prog 350 _ (ReflectliteType.relation "AssignableTo" ReflectliteType.assignableTo) Tryz.func350 (by kernel_rfl) (by kernel_rfl) (by kernel_rfl) (by kernel_rfl)
  have h11 := @run_callFunc_extern Tryz.prog 207 _ (ReflectliteValue.method (ReflectliteValue.valueError "reflectlite.Value.Elem" 0) ReflectliteValue.elem) Tryz.func207 (by kernel_rfl) (by kernel_rfl) (by kernel_rfl) (by kernel_rfl)
  have h12 := @run_callFunc_extern Tryz.prog 208 _ ReflectliteValue.set Tryz.func208 (by kernel_rfl) (by kernel_rfl) (by kernel_rfl) (by kernel_rfl)
  have tO := typeOfP
  have mA := methodAssignableTo
  have a25 := assignableP
  have v25 := valueOfP
  have f6 := valueOfPP
  have f7 := typePP
  have mK := methodKind
  have mE := methodElem
  have mI := methodImplements
  have k27 := kindPP
  have k25 := kindP
  have e27 := elemPP
  have i25 := implementsP
  have n8 := isNilPP ⟨w.heap.size, 0, none⟩ t ((w.alloc (.cells #[.pointer (some t)] 164)).alloc (.cells #[.pointer (some ⟨18, 164, none⟩), .pointer (some ⟨w.heap.size, 0, none⟩), .int .u64 150] 247)) (by simp)
  have hlt : 12 < w.heap.size := by
    rcases Nat.lt_or_ge 12 w.heap.size with h | h
    · exact h
    · simp [World.cell?, Array.getElem?_eq_none h] at hg
  have hg2 : ((w.alloc (.cells #[.pointer (some t)] 164)).alloc (.cells #[.pointer (some ⟨18, 164, none⟩), .pointer (some ⟨w.heap.size, 0, none⟩), .int .u64 150] 247)).cell? ⟨12, 0, none⟩ = some (.iface 336 (.agg #[.pointer (some ⟨18, 92, none⟩)])) := by
    rw [World.cell?_alloc_lt _ _ ⟨12, 0, none⟩ (by simp; omega), World.cell?_alloc_lt _ _ ⟨12, 0, none⟩ hlt]; exact hg
  have htl : t.block < w.heap.size := by
    rcases Nat.lt_or_ge t.block w.heap.size with h | h
    · exact h
    · simp [World.cell?, Array.getElem?_eq_none h] at ht0
  have el := elemVPP ⟨w.heap.size, 0, none⟩ t (((w.alloc (.cells #[.pointer (some t)] 164)).alloc (.cells #[.pointer (some ⟨18, 164, none⟩), .pointer (some ⟨w.heap.size, 0, none⟩), .int .u64 150] 247)).alloc (.cells #[.pointer (some ⟨18, 164, none⟩), .pointer (some ⟨w.heap.size, 0, none⟩), .int .u64 150] 247)) (by rw [World.cell?_alloc_lt _ _ ⟨w.heap.size, 0, none⟩ (by simp; omega)]; simp)
  have st := setP t ⟨w.heap.size + 1 + 1 + 1, 0, none⟩ e old ((((w.alloc (.cells #[.pointer (some t)] 164)).alloc (.cells #[.pointer (some ⟨18, 164, none⟩), .pointer (some ⟨w.heap.size, 0, none⟩), .int .u64 150] 247)).alloc (.cells #[.pointer (some ⟨18, 164, none⟩), .pointer (some ⟨w.heap.size, 0, none⟩), .int .u64 150] 247)).alloc (.cells #[.pointer (some e)] 162))
    (by rw [World.cell?_alloc_at _ _ _ _ (by simp)]; rfl)
    (by rw [World.cell?_alloc_lt _ _ t (by simp; omega), World.cell?_alloc_lt _ _ t (by simp; omega), World.cell?_alloc_lt _ _ t (by simp; omega), World.cell?_alloc_lt _ _ t htl]; exact ht0)
    (by rw [World.frozen?_alloc_old _ _ t (by simp; omega), World.frozen?_alloc_old _ _ t (by simp; omega), World.frozen?_alloc_old _ _ t (by simp; omega), World.frozen?_alloc_old _ _ t (Nat.ne_of_lt htl)]; exact hf0)
  go_enter Tryz.func79, Tryz.ntmps79
  go_wp2
  refine wp_loop_rounds 1 ?_
  rw [rounds_succ]
  go_wp2
  go_ret
  exact ⟨rfl, rfl⟩

set_option maxHeartbeats 4000000 in
theorem as_miss (e t : Addr) (w : World) (hg : w.cell? ⟨12, 0, none⟩ = some (.iface 336 (.agg #[.pointer (some ⟨18, 92, none⟩)]))) :
    Calls Tryz.prog 79 #[.iface 456 (.pointer (some e)), .iface 164 (.pointer (some t))] w fun ev w' => ev = .returned (.bool false) ∧ w' = (((w.alloc (.cells #[.pointer (some t)] 164)).alloc (.cells #[.pointer (some ⟨18, 164, none⟩), .pointer (some ⟨w.heap.size, 0, none⟩), .int .u64 150] 247)).alloc (.cells #[.pointer (some ⟨18, 164, none⟩), .pointer (some ⟨w.heap.size, 0, none⟩), .int .u64 150] 247)) := by
  have h6 := @run_callFunc_extern Tryz.prog 135 _ (fun args => ReflectliteValue.unpack (args.getD 0 (.tuple #[]))) Tryz.func135 (by kernel_rfl) (by kernel_rfl) (by kernel_rfl) (by kernel_rfl)
  have h7 := @run_callFunc_extern Tryz.prog 136 _ (ReflectliteValue.methodAny (ReflectliteValue.valueError "reflectlite.Value.Type" 0) (fun t _ _ _ => ReflectliteType.toType t)) Tryz.func136 (by kernel_rfl) (by kernel_rfl) (by kernel_rfl) (by kernel_rfl)
  have h8 := @run_callFunc_extern Tryz.prog 137 _ (ReflectliteValue.method (ReflectliteValue.valueError "reflectlite.Value.IsNil" 0) ReflectliteValue.isNil) Tryz.func137 (by kernel_rfl) (by kernel_rfl) (by kernel_rfl) (by kernel_rfl)
  have h27 := @run_callFunc_extern Tryz.prog 340 _ (ReflectliteType.abiMethod fun t => do pure (.int .u8 (← Rtype.kind t))) Tryz.func340 (by kernel_rfl) (by kernel_rfl) (by kernel_rfl) (by kernel_rfl)
  have h37 := @run_callFunc_extern Tryz.prog 352 _ (ReflectliteType.method ReflectliteType.elem) Tryz.func352 (by kernel_rfl) (by kernel_rfl) (by kernel_rfl) (by kernel_rfl)
  have h38 := @run_callFunc_extern Tryz.prog 353 _ (ReflectliteType.relation "Implements" ReflectliteType.implements_) Tryz.func353 (by kernel_rfl) (by kernel_rfl) (by kernel_rfl) (by kernel_rfl)
  have h10 := @run_callFunc_extern Tryz.prog 133 _ ReflectliteType.typeOf Tryz.func133 (by kernel_rfl) (by kernel_rfl) (by kernel_rfl) (by kernel_rfl)
  have h35 := @run_callFunc_extern Tryz.prog 350 _ (ReflectliteType.relation "AssignableTo" ReflectliteType.assignableTo) Tryz.func350 (by kernel_rfl) (by kernel_rfl) (by kernel_rfl) (by kernel_rfl)
  have tO := typeOfE
  have mA := methodAssignableTo
  have a25 := assignableE
  have f6 := valueOfPP
  have f7 := typePP
  have mK := methodKind
  have mE := methodElem
  have mI := methodImplements
  have k27 := kindPP
  have k25 := kindP
  have e27 := elemPP
  have i25 := implementsP
  have nA := noAsE
  have nU := asNoUnwrapE
  have nV := asNoUnwrapsE
  have n8 := isNilPP ⟨w.heap.size, 0, none⟩ t ((w.alloc (.cells #[.pointer (some t)] 164)).alloc (.cells #[.pointer (some ⟨18, 164, none⟩), .pointer (some ⟨w.heap.size, 0, none⟩), .int .u64 150] 247)) (by simp)
  have hlt : 12 < w.heap.size := by
    rcases Nat.lt_or_ge 12 w.heap.size with h | h
    · exact h
    · simp [World.cell?, Array.getElem?_eq_none h] at hg
  have hg2 : ((w.alloc (.cells #[.pointer (some t)] 164)).alloc (.cells #[.pointer (some ⟨18, 164, none⟩), .pointer (some ⟨w.heap.size, 0, none⟩), .int .u64 150] 247)).cell? ⟨12, 0, none⟩ = some (.iface 336 (.agg #[.pointer (some ⟨18, 92, none⟩)])) := by
    rw [World.cell?_alloc_lt _ _ ⟨12, 0, none⟩ (by simp; omega), World.cell?_alloc_lt _ _ ⟨12, 0, none⟩ hlt]; exact hg
  go_enter Tryz.func79, Tryz.ntmps79
  go_wp2
  refine wp_loop_rounds 1 ?_
  rw [rounds_succ]
  go_wp2
  go_ret
  exact ⟨rfl, rfl⟩
end Go.Proofs.YtbnokhdofkpcjaaGreatDoor
namespace Go.Proofs.YtbnokhdofkpcjaaGreatDoor
open Go.RowKit Go.Extern.Stop Go.Stop Go.Extern

/-- The value of the reason at 'a'. -/
abbrev rv (a : Addr) : Value := .iface 456 (.pointer (some a))

/-- What the reasons' variables hold: twelve pointers to strings that are not empty, no two alike; and errors' own variable. -/
structure Sent (w : World) (a : Nat → Addr) : Prop where
  v0 : w.cell? ⟨0, 0, none⟩ = some (rv (a 0))
  v1 : w.cell? ⟨1, 0, none⟩ = some (rv (a 1))
  v2 : w.cell? ⟨2, 0, none⟩ = some (rv (a 2))
  v3 : w.cell? ⟨3, 0, none⟩ = some (rv (a 3))
  v4 : w.cell? ⟨4, 0, none⟩ = some (rv (a 4))
  v5 : w.cell? ⟨5, 0, none⟩ = some (rv (a 5))
  v6 : w.cell? ⟨6, 0, none⟩ = some (rv (a 6))
  v7 : w.cell? ⟨7, 0, none⟩ = some (rv (a 7))
  v8 : w.cell? ⟨8, 0, none⟩ = some (rv (a 8))
  v9 : w.cell? ⟨9, 0, none⟩ = some (rv (a 9))
  v10 : w.cell? ⟨10, 0, none⟩ = some (rv (a 10))
  v11 : w.cell? ⟨11, 0, none⟩ = some (rv (a 11))
  row : ∀ j, j < 12 → ∃ c t, w.heap[(a j).block]? = some (.cells c t (0, 0))
  text : ∀ j, j < 12 → ∃ s : ByteArray, w.cell? (a j) = some (.string s) ∧ 0 < s.size ∧ s.size < 1000
  inj : ∀ i j, i < 12 → j < 12 → i ≠ j → a i ≠ a j
  ty : w.cell? ⟨12, 0, none⟩ = some (.iface 336 (.agg #[.pointer (some ⟨18, 92, none⟩)]))

theorem cell_lt {w : World} {p : Addr} {v : Value} (h : w.cell? p = some v) : p.block < w.heap.size := by
  rcases Nat.lt_or_ge p.block w.heap.size with h' | h'
  · exact h'
  · simp [World.cell?, Array.getElem?_eq_none h'] at h

theorem cell_on {B : Nat} {w w' : World} (hb : Below B w w') {p : Addr} {v : Value} (h : w.cell? p = some v) (hp : p.block < B) : w'.cell? p = some v := by
  rw [hb.cell hp]; exact h

theorem Sent.on {w w' : World} {a : Nat → Addr} (h : Sent w a) (hb : Below w.heap.size w w') : Sent w' a where
  v0 := cell_on hb h.v0 (cell_lt h.v0)
  v1 := cell_on hb h.v1 (cell_lt h.v1)
  v2 := cell_on hb h.v2 (cell_lt h.v2)
  v3 := cell_on hb h.v3 (cell_lt h.v3)
  v4 := cell_on hb h.v4 (cell_lt h.v4)
  v5 := cell_on hb h.v5 (cell_lt h.v5)
  v6 := cell_on hb h.v6 (cell_lt h.v6)
  v7 := cell_on hb h.v7 (cell_lt h.v7)
  v8 := cell_on hb h.v8 (cell_lt h.v8)
  v9 := cell_on hb h.v9 (cell_lt h.v9)
  v10 := cell_on hb h.v10 (cell_lt h.v10)
  v11 := cell_on hb h.v11 (cell_lt h.v11)
  row := fun j hj => by
    obtain ⟨c, t, hc⟩ := h.row j hj
    obtain ⟨s, hs, _⟩ := h.text j hj
    exact ⟨c, t, by rw [hb.block _ (cell_lt hs)]; exact hc⟩
  text := fun j hj => by
    obtain ⟨s, hs, h1, h2⟩ := h.text j hj
    exact ⟨s, cell_on hb hs (cell_lt hs), h1, h2⟩
  inj := h.inj
  ty := cell_on hb h.ty (cell_lt h.ty)

/-- The list of the reasons, as a block. -/
def reasons (a : Nat → Addr) : Array Value := #[rv (a 0), rv (a 1), rv (a 2), rv (a 3), rv (a 4), rv (a 5), rv (a 6), rv (a 7), rv (a 8), rv (a 9), rv (a 10), rv (a 11)]
theorem reasons_at (a : Nat → Addr) (j : Nat) (hj : j < 12) : (reasons a)[j]? = some (rv (a j)) := by
  match j, hj with
  | 0, _ => rfl
  | 1, _ => rfl
  | 2, _ => rfl
  | 3, _ => rfl
  | 4, _ => rfl
  | 5, _ => rfl
  | 6, _ => rfl
  | 7, _ => rfl
  | 8, _ => rfl
  | 9, _ => rfl
  | 10, _ => rfl
  | 11, _ => rfl

theorem as_hit2 (e t : Addr) (old : Value) (w : World) (hg : w.cell? ⟨12, 0, none⟩ = some (.iface 336 (.agg #[.pointer (some ⟨18, 92, none⟩)]))) (ht0 : w.cell? t = some old) (hf0 : w.frozen? t = false) :
    Calls Tryz.prog 79 #[.iface 162 (.pointer (some e)), .iface 164 (.pointer (some t))] w fun ev w' => ev = .returned (.bool true) ∧ Below t.block w w' ∧ w'.cell? t = some (.pointer (some e)) := by
  refine (as_hit e t old w hg ht0 hf0).mono fun ev w' ⟨he, hw⟩ => ?_
  have htl := cell_lt ht0
  subst hw
  refine ⟨he, ?_, ?_⟩
  · exact (((((Below.refl _ _).alloc (by omega) _).alloc (by simp; omega) _).alloc (by simp; omega) _).alloc (by simp; omega) _).setCell (Nat.le_refl _) _
  · refine World.cell?_setCell_same (u := old) _ _ _ ?_
    rw [World.cell?_alloc_lt _ _ t (by simp; omega), World.cell?_alloc_lt _ _ t (by simp; omega), World.cell?_alloc_lt _ _ t (by simp; omega), World.cell?_alloc_lt _ _ t htl]; exact ht0

theorem as_miss2 (e t : Addr) (w : World) (hg : w.cell? ⟨12, 0, none⟩ = some (.iface 336 (.agg #[.pointer (some ⟨18, 92, none⟩)]))) :
    Calls Tryz.prog 79 #[.iface 456 (.pointer (some e)), .iface 164 (.pointer (some t))] w fun ev w' => ev = .returned (.bool false) ∧ Below w.heap.size w w' := by
  refine (as_miss e t w hg).mono fun ev w' ⟨he, hw⟩ => ?_
  subst hw
  exact ⟨he, (((Below.refl _ _).alloc (by omega) _).alloc (by simp) _).alloc (by simp; omega) _⟩
end Go.Proofs.YtbnokhdofkpcjaaGreatDoor
namespace Go.Proofs.YtbnokhdofkpcjaaGreatDoor
open Go.RowKit Go.Extern.Stop Go.Stop Go.Extern

set_option maxHeartbeats 1000000 in
theorem number_bare (k : Nat) (hk : k < 12) (a : Nat → Addr) (w : World) (S : Sent w a) :
    Calls Tryz.prog 43 #[rv (a k)] w fun e w' => e = .returned (.tuple #[.int .i64 ((k : Int) + 1), .int .i64 (-1)]) ∧ Below w.heap.size w w' := by
  have q0 := S.v0
  have q1 := S.v1
  have q2 := S.v2
  have q3 := S.v3
  have q4 := S.v4
  have q5 := S.v5
  have q6 := S.v6
  have q7 := S.v7
  have q8 := S.v8
  have q9 := S.v9
  have q10 := S.v10
  have q11 := S.v11
  go_enter Tryz.func43, Tryz.ntmps43
  go_wp2
  go_loopw [4, 24] (fun n i wr => ∃ m : Nat, m ≤ 12 ∧ i = .int .i64 m ∧ (m ≤ k ∧ n = .int .i64 0 ∨ k < m ∧ n = .int .i64 ((k : Int) + 1)) ∧ Below w.heap.size w wr ∧ w.heap.size < wr.heap.size ∧ ∀ j, j < 12 → wr.cell? ⟨w.heap.size, j, none⟩ = some (rv (a j)))
    (fun _ i _ => 12 - (intOf i).toNat)
  case atStart =>
    refine ⟨0, by omega, rfl, .inl ⟨by omega, rfl⟩, (Below.refl _ _).alloc (by omega) _, by simp, fun j hj => ?_⟩
    rw [World.cell?_alloc_at _ _ _ _ rfl]
    exact reasons_at a j hj
  case round =>
    obtain ⟨m, hm, rfl, hn, hb, hsz, hc⟩ := hrel
    by_cases hlt : m < 12
    · have hcm := hc m hlt
      by_cases hmk : m = k
      · subst hmk
        obtain ⟨_, rfl⟩ : m ≤ m ∧ u4 = .int .i64 0 := by
          rcases hn with h | h
          · exact h
          · omega
        clear hn
        go_wp2_with (go_at_call 78; refine (is_same _ _).mono ?_; rintro e w' ⟨rfl, rfl⟩)
        go_roundw
        case rel => exact ⟨m + 1, by omega, by go_num, .inr ⟨by omega, rfl⟩, hb, hsz, hc⟩
        case measure => simp [intOf]; omega
      · obtain ⟨c1, t1, hr1⟩ := (S.on hb).row k hk
        obtain ⟨c2, t2, hr2⟩ := (S.on hb).row m hlt
        have hne : a k ≠ a m := S.inj k m hk hlt (Ne.symm hmk)
        go_wp2_with (go_at_call 78; refine (is_other (a k) (a m) c1 c2 t1 t2 _ hne hr1 hr2).mono ?_; rintro e w' ⟨rfl, rfl⟩)
        go_roundw
        case rel =>
          refine ⟨m + 1, by omega, by go_num, ?_, hb, hsz, hc⟩
          rcases hn with h | h
          · exact .inl ⟨by omega, h.2⟩
          · exact .inr ⟨by omega, h.2⟩
        case measure => simp [intOf]; omega
    · obtain ⟨_, rfl⟩ : k < m ∧ u4 = .int .i64 ((k : Int) + 1) := by
        rcases hn with h | h
        · omega
        · exact h
      clear hn hc
      have hty := ((S.on hb).on ((Below.refl _ _).alloc (by omega) (.cells #[.pointer none] 162))).ty
      have hz : ((k : Int) + 1 == 0) = false := by simp; omega
      go_wp2_with (go_at_call 79; refine (as_miss2 _ _ _ hty).mono ?_; rintro e w' ⟨rfl, hw⟩)
      go_ret2
      refine ⟨rfl, hb.trans ?_⟩
      exact (((Below.refl wr.heap.size wr).alloc (Nat.le_refl _) _).trans (hw.mono (by simp))).mono (by omega)

set_option maxHeartbeats 1000000 in
theorem number_fault (k : Nat) (hk : k < 12) (a : Nat → Addr) (pb : Nat) (at_ : Int) (w : World) (S : Sent w a) (hat : w.cell? ⟨pb, 0, none⟩ = some (.int .i64 at_)) (her : w.cell? ⟨pb, 1, none⟩ = some (rv (a k))) :
    Calls Tryz.prog 43 #[.iface 162 (.pointer (some ⟨pb, 0, none⟩))] w fun e w' => e = .returned (.tuple #[.int .i64 ((k : Int) + 1), .int .i64 at_]) ∧ Below w.heap.size w w' := by
  have q0 := S.v0
  have q1 := S.v1
  have q2 := S.v2
  have q3 := S.v3
  have q4 := S.v4
  have q5 := S.v5
  have q6 := S.v6
  have q7 := S.v7
  have q8 := S.v8
  have q9 := S.v9
  have q10 := S.v10
  have q11 := S.v11
  have hpb : pb < w.heap.size := cell_lt hat
  go_enter Tryz.func43, Tryz.ntmps43
  go_wp2
  go_loopw [4, 24] (fun n i wr => ∃ m : Nat, m ≤ 12 ∧ i = .int .i64 m ∧ (m ≤ k ∧ n = .int .i64 0 ∨ k < m ∧ n = .int .i64 ((k : Int) + 1)) ∧ Below w.heap.size w wr ∧ w.heap.size < wr.heap.size ∧ ∀ j, j < 12 → wr.cell? ⟨w.heap.size, j, none⟩ = some (rv (a j)))
    (fun _ i _ => 12 - (intOf i).toNat)
  case atStart =>
    refine ⟨0, by omega, rfl, .inl ⟨by omega, rfl⟩, (Below.refl _ _).alloc (by omega) _, by simp, fun j hj => ?_⟩
    rw [World.cell?_alloc_at _ _ _ _ rfl]
    exact reasons_at a j hj
  case round =>
    obtain ⟨m, hm, rfl, hn, hb, hsz, hc⟩ := hrel
    have hat' := cell_on hb hat hpb
    have her' := cell_on hb her hpb
    by_cases hlt : m < 12
    · have hcm := hc m hlt
      by_cases hmk : m = k
      · subst hmk
        obtain ⟨_, rfl⟩ : m ≤ m ∧ u4 = .int .i64 0 := by
          rcases hn with h | h
          · exact h
          · omega
        clear hn
        go_wp2_with (go_at_call 78; refine (is_wrap_same pb 0 _ _ her').mono ?_; rintro e w' ⟨rfl, rfl⟩)
        go_roundw
        case rel => exact ⟨m + 1, by omega, by go_num, .inr ⟨by omega, rfl⟩, hb, hsz, hc⟩
        case measure => simp [intOf]; omega
      · obtain ⟨c1, t1, hr1⟩ := (S.on hb).row k hk
        obtain ⟨c2, t2, hr2⟩ := (S.on hb).row m hlt
        have hne : a k ≠ a m := S.inj k m hk hlt (Ne.symm hmk)
        go_wp2_with (go_at_call 78; refine (is_wrap_other pb 0 (a m) (a k) c1 c2 t1 t2 _ her' hne hr1 hr2).mono ?_; rintro e w' ⟨rfl, rfl⟩)
        go_roundw
        case rel =>
          refine ⟨m + 1, by omega, by go_num, ?_, hb, hsz, hc⟩
          rcases hn with h | h
          · exact .inl ⟨by omega, h.2⟩
          · exact .inr ⟨by omega, h.2⟩
        case measure => simp [intOf]; omega
    · obtain ⟨_, rfl⟩ : k < m ∧ u4 = .int .i64 ((k : Int) + 1) := by
        rcases hn with h | h
        · omega
        · exact h
      clear hn hc
      have hty := ((S.on hb).on ((Below.refl _ _).alloc (by omega) (.cells #[.pointer none] 162))).ty
      have hz : ((k : Int) + 1 == 0) = false := by simp; omega
      have hnew : (wr.alloc (.cells #[.pointer none] 162)).cell? ⟨wr.heap.size, 0, none⟩ = some (.pointer none) := by simp
      have hfro : (wr.alloc (.cells #[.pointer none] 162)).frozen? ⟨wr.heap.size, 0, none⟩ = false := by simp
      have hp2 : pb < wr.heap.size := Nat.lt_trans hpb hsz
      have hbA := (Below.refl wr.heap.size wr).alloc (Nat.le_refl _) (.cells #[.pointer none] 162)
      go_wp2_with fail
      refine (as_hit2 _ _ (.pointer none) _ hty hnew hfro).mono ?_
      rintro e w' ⟨rfl, hw, hcl⟩
      have hbW : Below wr.heap.size wr w' := hbA.trans hw
      have hat2 : w'.cell? ⟨pb, 0, none⟩ = some (.int .i64 at_) := cell_on hbW hat' hp2
      have HB : Hid (Below w.heap.size w w') := hb.trans (hbW.mono (by omega))
      clear hbW hw hbA hb hat' her' hty hnew hfro q0 q1 q2 q3 q4 q5 q6 q7 q8 q9 q10 q11 hat her
      go_wp2
      go_quiet (fail)
      all_goals (try go_wp2)
      all_goals go_ret2
      all_goals exact ⟨rfl, HB.out.trans ⟨rfl, rfl, rfl, Nat.le_refl _, fun _ _ => rfl⟩⟩
end Go.Proofs.YtbnokhdofkpcjaaGreatDoor
namespace Go.Proofs.YtbnokhdofkpcjaaGreatDoor
open Go.RowKit Go.Maps

theorem number_nil (w : World) : Calls Tryz.prog 43 #[.nilIface] w fun e w' => e = .returned (.tuple #[.int .i64 0, .int .i64 (-1)]) ∧ w = w' := by
  go_enter Tryz.func43, Tryz.ntmps43
  go_wp2
  go_ret2
  exact ⟨rfl, rfl⟩

/-- The number of what a disk's operation tells. -/
def errV (a : Nat → Addr) (n : Nat) : Value := if n = 0 then .nilIface else rv (a (n - 1))
theorem number_of (n : Nat) (hn : n ≤ 12) (a : Nat → Addr) (w : World) (S : Sent w a) :
    Calls Tryz.prog 43 #[errV a n] w fun e w' => e = .returned (.tuple #[.int .i64 (n : Int), .int .i64 (-1)]) ∧ Below w.heap.size w w' := by
  unfold errV
  split
  · subst n
    refine (number_nil w).mono ?_
    rintro e w' ⟨rfl, rfl⟩
    exact ⟨rfl, Below.refl _ _⟩
  · have h := number_bare (n - 1) (by omega) a w S
    have e : ((n - 1 : Nat) : Int) + 1 = (n : Int) := by omega
    rw [e] at h
    exact h
/-- What may be written. -/
def okW (n : Nat) (at_ : Int) (s : ByteArray) : Bool := decide (0 ≤ at_ ∧ at_ < n ∧ s.size = 64)
def Dsk.wcode (d : Dsk) (at_ : Int) (s : ByteArray) : Nat := if okW d.safe.length at_ s then (if d.op.down then 2 else 0) else 1
def Dsk.writeAny (d : Dsk) (at_ : Int) (s : ByteArray) : Dsk := if okW d.safe.length at_ s then d.write at_.toNat s else d
def Dsk.fcode (d : Dsk) : Nat := if d.op.down then 2 else 0
theorem okW_spec {n : Nat} {at_ : Int} {s : ByteArray} (h : okW n at_ s = true) : 0 ≤ at_ ∧ at_ < n ∧ s.size = 64 := of_decide_eq_true h
theorem okW_not {n : Nat} {at_ : Int} {s : ByteArray} (h : okW n at_ s = false) : ¬ (0 ≤ at_ ∧ at_ < n ∧ s.size = 64) := of_decide_eq_false h

theorem dsk_read_bad2 (bd m : Nat) (S : Nat → Prop) (d : Dsk) (at_ : Int) (ev : Value) (w : World) (h : DskAt w S bd m d) (hE : w.cell? ⟨0, 0, none⟩ = some ev) (hbad : ¬ (0 ≤ at_ ∧ at_ < d.safe.length)) :
    Calls Tryz.prog 104 #[.pointer (some ⟨bd, 0, none⟩), .int .i64 at_] w fun e w' => e = .returned (.tuple #[.string ⟨#[]⟩, ev]) ∧ Same (fun _ => False) w w' := by
  have HH : Hid (Calls Tryz.prog 180 #[.pointer (some ⟨bd, 0, none⟩), .int .i64 at_] w fun e w' => e = .returned (.bool false) ∧ w = w') := by
    have h1 := dsk_has bd m S d at_ w h
    have e : (decide (0 ≤ at_) && decide (at_ < d.safe.length)) = false := by
      rw [Bool.and_eq_false_iff, decide_eq_false_iff_not, decide_eq_false_iff_not]
      omega
    rw [e] at h1
    exact h1
  have hnot : ∀ (x : Bool) (w : World), (Op.unary .not (.bool x)).run Tryz.prog w = .ok (.bool (!x)) w := fun _ _ => rfl
  clear h hbad
  go_enter_defers Tryz.func104, Tryz.ntmps104
  go_wp2_with fail
  refine HH.out.mono ?_
  rintro e w' ⟨rfl, rfl⟩
  go_wp2
  go_region
  all_goals
    go_wp2
    refine ⟨_, results_tmp2 rfl _ _ _, rfl, (Same.refl (fun _ => False) w).drew⟩


section
variable (w0 : World) (a : Nat → Addr) (S0 : Sent w0 a) (bd m : Nat) (S : Nat → Prop) (d : Dsk) (w : World)

include S0 in
theorem wrote (at_ : Int) (s : ByteArray) (h : DskAt w S bd m d) (hb : Below w0.heap.size w0 w) (hS : ∀ g, S g → w0.heap.size ≤ g) (hSl : ∀ g, S g → g < w.heap.size) (hf : d.fuse ≤ 9223372036854775807) (hwl : d.wait.length ≤ 1000000) (hm : m ≤ 1000000) (hn : d.safe.length ≤ 4096) :
    Calls Tryz.prog 140 #[.pointer (some ⟨bd, 0, none⟩), .int .i64 at_, .string s] w fun e w' => e = .returned (errV a (d.wcode at_ s)) ∧ (∃ m', m' ≤ m + 1 ∧ DskAt w' (fun g => S g ∨ w.heap.size ≤ g) bd m' (d.writeAny at_ s)) ∧ Same S w w' := by
  have Sw := S0.on hb
  have hG : ¬ S 1 := fun h => by
    have h1 := hS _ h
    have h2 := cell_lt S0.v1
    exact absurd h2 (by show ¬ 1 < _; omega)
  unfold Dsk.wcode Dsk.writeAny
  cases hok : okW d.safe.length at_ s
  · refine (dsk_write_bad bd m S d at_ s _ w h Sw.v0 (okW_not hok)).mono ?_
    rintro e w' ⟨rfl, h', s'⟩
    exact ⟨rfl, ⟨m, Nat.le_succ _, h'.mono (fun _ h => .inl h)⟩, s'⟩
  · obtain ⟨h1, h2, h3⟩ := okW_spec hok
    obtain ⟨k, rfl⟩ : ∃ k : Nat, at_ = k := ⟨at_.toNat, by omega⟩
    refine (dsk_write bd m S d k s _ w h Sw.v1 hG hf (by omega) h3 hwl hm hn hSl).mono ?_
    rintro e w' ⟨rfl, h', s'⟩
    refine ⟨?_, h', s'⟩
    cases d.op.down <;> rfl

/-- What a call of the disk leaves, behind number too. -/
theorem after {S T : Nat → Prop} {w w1 w2 : World} {bd m : Nat} {d : Dsk} (h : DskAt w1 T bd m d) (s : Same S w w1) (hb : Below w1.heap.size w1 w2) : DskAt w2 T bd m d ∧ Same S w w2 :=
  ⟨h.on (below_same (fun _ => False) hb) (fun _ _ h => h), s.trans (below_same S hb)⟩

include S0 in
theorem plain_write (at_ : Int) (s : ByteArray) (h : DskAt w S bd m d) (hb : Below w0.heap.size w0 w) (hS : ∀ g, S g → w0.heap.size ≤ g) (hSl : ∀ g, S g → g < w.heap.size) (hf : d.fuse ≤ 9223372036854775807) (hwl : d.wait.length ≤ 1000000) (hm : m ≤ 1000000) (hn : d.safe.length ≤ 4096) :
    Calls Tryz.prog 113 #[.pointer (some ⟨bd, 0, none⟩), .int .i64 at_, .string s] w fun e w' => e = .returned (.int .i64 (d.wcode at_ s : Nat)) ∧ (∃ m', m' ≤ m + 1 ∧ DskAt w' (fun g => S g ∨ w.heap.size ≤ g) bd m' (d.writeAny at_ s)) ∧ Same S w w' := by
  have HW : Hid (Calls Tryz.prog 140 #[.pointer (some ⟨bd, 0, none⟩), .int .i64 at_, .string s] w fun e w' => e = .returned (errV a (d.wcode at_ s)) ∧ (∃ m', m' ≤ m + 1 ∧ DskAt w' (fun g => S g ∨ w.heap.size ≤ g) bd m' (d.writeAny at_ s)) ∧ Same S w w') := wrote w0 a S0 bd m S d w at_ s h hb hS hSl hf hwl hm hn
  obtain ⟨c, hc⟩ : ∃ c, c = d.wcode at_ s := ⟨_, rfl⟩
  have hc12 : c ≤ 12 := by rw [hc]; unfold Dsk.wcode; split; split <;> omega; omega
  rw [← hc] at HW ⊢
  obtain ⟨v, hv⟩ : ∃ v, v = errV a c := ⟨_, rfl⟩
  rw [← hv] at HW
  have HN : Hid (∀ w', Same S w w' → Calls Tryz.prog 43 #[v] w' fun e w2 => e = .returned (.tuple #[.int .i64 (c : Int), .int .i64 (-1)]) ∧ Below w'.heap.size w' w2) := fun w' s' => by
    rw [hv]
    exact number_of c hc12 a w' (S0.on (hb.trans (s'.below hS hb.size)))
  clear hc hv h hf hwl hm hn hc12
  go_enter Tryz.func113, Tryz.ntmps113
  go_wp2_with (first | (go_at_call 140; refine HW.out.mono ?_; rintro e w1 ⟨rfl, H1, S1⟩; have HH1 : Hid (∃ m', m' ≤ m + 1 ∧ DskAt w1 (fun g => S g ∨ w.heap.size ≤ g) bd m' (d.writeAny at_ s)) := H1; have HS1 : Hid (Same S w w1) := S1; clear H1 S1) | (go_at_call 43; refine (HN.out w1 HS1.out).mono ?_; rintro e w2 ⟨rfl, B2⟩; have HB2 : Hid (Below w1.heap.size w1 w2) := B2; clear B2))
  go_ret
  obtain ⟨m', hm', h'⟩ := HH1.out
  obtain ⟨h2, s2⟩ := after h' HS1.out HB2.out
  exact ⟨rfl, ⟨m', hm', h2⟩, s2⟩

include S0 in
theorem plain_flush (h : DskAt w S bd m d) (hb : Below w0.heap.size w0 w) (hS : ∀ g, S g → w0.heap.size ≤ g) (hSl : ∀ g, S g → g < w.heap.size) (hf : d.fuse ≤ 9223372036854775807) (hwl : d.wait.length ≤ 1000000) (hn : d.safe.length ≤ 4096) :
    Calls Tryz.prog 115 #[.pointer (some ⟨bd, 0, none⟩)] w fun e w' => e = .returned (.int .i64 (d.fcode : Nat)) ∧ DskAt w' S bd m d.flush ∧ Same S w w' := by
  have hG : ¬ S 1 := fun h => by
    have h1 := hS _ h
    have h2 := cell_lt S0.v1
    exact absurd h2 (by show ¬ 1 < _; omega)
  have hF := dsk_flush bd m S d _ w h (S0.on hb).v1 hG hf hwl hn hSl
  have e : (if d.op.down then rv (a 1) else Value.nilIface) = errV a d.fcode := by unfold Dsk.fcode; cases d.op.down <;> rfl
  rw [e] at hF
  obtain ⟨c, hc⟩ : ∃ c, c = d.fcode := ⟨_, rfl⟩
  have hc12 : c ≤ 12 := by rw [hc]; unfold Dsk.fcode; split <;> omega
  rw [← hc] at hF ⊢
  obtain ⟨v, hv⟩ : ∃ v, v = errV a c := ⟨_, rfl⟩
  rw [← hv] at hF
  have HW : Hid (Calls Tryz.prog 141 #[.pointer (some ⟨bd, 0, none⟩)] w fun e w' => e = .returned v ∧ DskAt w' S bd m d.flush ∧ Same S w w') := hF
  have HN : Hid (∀ w', Same S w w' → Calls Tryz.prog 43 #[v] w' fun e w2 => e = .returned (.tuple #[.int .i64 (c : Int), .int .i64 (-1)]) ∧ Below w'.heap.size w' w2) := fun w' s' => by
    rw [hv]
    exact number_of c hc12 a w' (S0.on (hb.trans (s'.below hS hb.size)))
  clear hc hv h hf hwl hn hc12 hF e
  go_enter Tryz.func115, Tryz.ntmps115
  go_wp2_with (first | (go_at_call 141; refine HW.out.mono ?_; rintro e w1 ⟨rfl, H1, S1⟩; have HH1 : Hid (DskAt w1 S bd m d.flush) := H1; have HS1 : Hid (Same S w w1) := S1; clear H1 S1) | (go_at_call 43; refine (HN.out w1 HS1.out).mono ?_; rintro e w2 ⟨rfl, B2⟩; have HB2 : Hid (Below w1.heap.size w1 w2) := B2; clear B2))
  go_ret
  obtain ⟨h2, s2⟩ := after HH1.out HS1.out HB2.out
  exact ⟨rfl, h2, s2⟩

def Dsk.rd (d : Dsk) (at_ : Int) : ByteArray := if h : 0 ≤ at_ ∧ at_ < d.safe.length then d.at at_.toNat (by omega) else ⟨#[]⟩
def Dsk.rcode (d : Dsk) (at_ : Int) : Nat := if 0 ≤ at_ ∧ at_ < d.safe.length then 0 else 1
include S0 in
theorem plain_read (at_ : Int) (h : DskAt w S bd m d) (hb : Below w0.heap.size w0 w) (hS : ∀ g, S g → w0.heap.size ≤ g) (hn : d.safe.length ≤ 4096) :
    Calls Tryz.prog 63 #[.pointer (some ⟨bd, 0, none⟩), .int .i64 at_] w fun e w' => e = .returned (.tuple #[.string (d.rd at_), .int .i64 (d.rcode at_ : Nat)]) ∧ DskAt w' S bd m d ∧ Same S w w' := by
  have hF : Calls Tryz.prog 104 #[.pointer (some ⟨bd, 0, none⟩), .int .i64 at_] w fun e w' => e = .returned (.tuple #[.string (d.rd at_), errV a (d.rcode at_)]) ∧ DskAt w' S bd m d ∧ Same S w w' := by
    by_cases hk : 0 ≤ at_ ∧ at_ < d.safe.length
    · have e1 : d.rd at_ = d.at at_.toNat (by omega) := by unfold Dsk.rd; rw [dif_pos hk]
      have e2 : d.rcode at_ = 0 := by unfold Dsk.rcode; rw [if_pos hk]
      rw [e1, e2]
      have h1 := dsk_read bd m S d at_.toNat w h (by omega) hn
      rw [show ((at_.toNat : Nat) : Int) = at_ by omega] at h1
      exact h1
    · have e1 : d.rd at_ = ⟨#[]⟩ := by unfold Dsk.rd; rw [dif_neg hk]
      have e2 : d.rcode at_ = 1 := by unfold Dsk.rcode; rw [if_neg hk]
      rw [e1, e2]
      refine (dsk_read_bad2 bd m S d at_ _ w h (S0.on hb).v0 hk).mono ?_
      rintro e w' ⟨rfl, s'⟩
      exact ⟨rfl, h.on s' (fun _ _ h => h), s'.weak (fun _ h => h.elim)⟩
  obtain ⟨c, hc⟩ : ∃ c, c = d.rcode at_ := ⟨_, rfl⟩
  have hc12 : c ≤ 12 := by rw [hc]; unfold Dsk.rcode; split <;> omega
  rw [← hc] at hF ⊢
  obtain ⟨v, hv⟩ : ∃ v, v = errV a c := ⟨_, rfl⟩
  obtain ⟨x, hx⟩ : ∃ x, x = d.rd at_ := ⟨_, rfl⟩
  rw [← hv, ← hx] at hF
  rw [← hx]
  have HW : Hid (Calls Tryz.prog 104 #[.pointer (some ⟨bd, 0, none⟩), .int .i64 at_] w fun e w' => e = .returned (.tuple #[.string x, v]) ∧ DskAt w' S bd m d ∧ Same S w w') := hF
  have HN : Hid (∀ w', Same S w w' → Calls Tryz.prog 43 #[v] w' fun e w2 => e = .returned (.tuple #[.int .i64 (c : Int), .int .i64 (-1)]) ∧ Below w'.heap.size w' w2) := fun w' s' => by
    rw [hv]
    exact number_of c hc12 a w' (S0.on (hb.trans (s'.below hS hb.size)))
  clear hc hv h hn hc12 hF hx
  go_enter Tryz.func63, Tryz.ntmps63
  go_wp2_with (first | (go_at_call 104; refine HW.out.mono ?_; rintro e w1 ⟨rfl, H1, S1⟩; have HH1 : Hid (DskAt w1 S bd m d) := H1; have HS1 : Hid (Same S w w1) := S1; clear H1 S1) | (go_at_call 43; refine (HN.out w1 HS1.out).mono ?_; rintro e w2 ⟨rfl, B2⟩; have HB2 : Hid (Below w1.heap.size w1 w2) := B2; clear B2))
  go_ret2
  obtain ⟨h2, s2⟩ := after HH1.out HS1.out HB2.out
  exact ⟨rfl, h2, s2⟩

theorem plain_crash (kv : Value) (ks : List Int) (h : DskAt w S bd m d) (hK : KeepAt w S kv ks) (hwl : d.wait.length ≤ 1000000) (hn : d.safe.length ≤ 4096) (hkl : ks.length ≤ 1000000) :
    Calls Tryz.prog 34 #[.pointer (some ⟨bd, 0, none⟩), kv] w fun e w' => e = .returned (.tuple #[]) ∧ DskAt w' S bd m { d with safe := keepAll d.wait d.safe ks, wait := [], fuse := 0, down := false } ∧ Same S w w' := by
  have HW : Hid (Calls Tryz.prog 59 #[.pointer (some ⟨bd, 0, none⟩), kv] w fun e w' => e = .returned (.tuple #[]) ∧ DskAt w' S bd m { d with safe := keepAll d.wait d.safe ks, wait := [], fuse := 0, down := false } ∧ Same S w w') := dsk_crash bd m S d kv ks w h hK hwl hn hkl
  clear h hK
  go_enter Tryz.func34, Tryz.ntmps34
  go_wp2_with (go_at_call 59; refine HW.out.mono ?_; rintro e w1 ⟨rfl, H1, S1⟩)
  go_end0
  exact ⟨rfl, H1, S1⟩
end
end Go.Proofs.YtbnokhdofkpcjaaGreatDoor
