/- OWN TEXT: joined of: DRel Is As Num Number DPl LD1 LD4 LD6 TW1 TP1 TP2 TP3 RT1 TW2 Shelf PF1. -/
import Derived.Test.YtapijhhmjjplmaaGreatDoorProg
import Derived.WalkKit
import Derived.LaidEql
import Derived.Stop.Asserts
import Derived.RowKitTokens
import Derived.WalkSpells
import Derived.Deep.QuietTactic
import Derived.BigQuiet
import Derived.Deep.RegionHeld3
import Derived.Maps.AppendAt
import Derived.Shelf.LaysM
import Derived.Shelf.Strings.Split
import Derived.Shelf.Strings.Repeat
import Derived.Shelf.Strconv.Clone
import Derived.Shelf.SlIter.Nil
import Derived.Shelf.SortM.Plain
import Derived.Shelf.SortM.SortNone
import Derived.Ground.GgzProg
import Derived.Ground.SlgmProg
import Derived.Test.YtapijhhmjjplmaaGreatDoorJtrees3
namespace Go.Proofs.YtapijhhmjjplmaaGreatDoor
open Go.RowKit Go.Maps
theorem wrap64_small (n : Int) (h1 : 0 ≤ n) (h2 : n ≤ 9223372036854775807) : wrap64 n = n := by
  unfold wrap64
  first | omega | (simp; omega)
structure Rel (d : Dsk) (r : RDsk) : Prop where
  safe : r.safe = d.safe
  wait : r.wait = d.wait
  down : r.down = d.down
  seen : r.seen = applyAll d.wait d.safe
  fuse : d.down = true ∨ (r.lit = decide (0 < d.fuse) ∧ (0 < d.fuse → r.left = d.fuse))
  most : d.fuse ≤ 9223372036854775807
  size : 1 ≤ d.safe.length ∧ d.safe.length ≤ 4096
theorem Rel.seenLen {d : Dsk} {r : RDsk} (h : Rel d r) : r.seen.length = d.safe.length := by rw [h.seen, applyAll_length]
theorem Rel.op {d : Dsk} {r : RDsk} (h : Rel d r) : Rel d.op r.op := by
  have h7 : d.op.fuse ≤ 9223372036854775807 := by
    have := h.most
    unfold Dsk.op
    split
    · show d.fuse - 1 ≤ _; omega
    · exact this
  have h8 : 1 ≤ d.op.safe.length ∧ d.op.safe.length ≤ 4096 := by rw [dop_safe]; exact h.size
  have hdown : d.down = true → r.op.down = d.op.down ∧ d.op.down = true := fun hd => by
    have hr : r.down = true := h.down.trans hd
    have e1 : d.op.down = true := by
      unfold Dsk.op
      split
      · show (d.down || _) = true; rw [hd]; rfl
      · exact hd
    have e2 : r.op.down = true := by
      unfold RDsk.op
      split
      · show (r.down || _) = true; rw [hr]; rfl
      · exact hr
    exact ⟨e2.trans e1.symm, e1⟩
  cases hd : d.down
  · obtain hh | ⟨hl, hf⟩ := h.fuse
    · rw [hd] at hh; cases hh
    · by_cases h0 : 0 < d.fuse
      · have hleft := hf h0
        have hw : wrap64 (r.left - 1) = d.fuse - 1 := by rw [hleft]; exact wrap64_small _ (by omega) (by have := h.most; omega)
        have hlt : r.lit = true := by rw [hl]; exact decide_eq_true h0
        have hrd : r.down = false := h.down.trans hd
        have e : decide (d.fuse - 1 ≤ 0) = decide (d.fuse - 1 = 0) := by
          rw [decide_eq_decide]
          omega
        rw [dop_lit d h0] at h7 h8 ⊢
        rw [op_lit r hlt, hw, e, hd, hrd]
        refine ⟨h.safe, h.wait, rfl, h.seen, ?_, h7, h8⟩
        by_cases h1 : d.fuse - 1 = 0
        · left
          show (false || decide (d.fuse - 1 = 0)) = true
          rw [decide_eq_true h1]; rfl
        · right
          refine ⟨?_, fun _ => rfl⟩
          show r.lit = decide (0 < d.fuse - 1)
          rw [hlt, decide_eq_true (show 0 < d.fuse - 1 by omega)]
      · rw [dop_not d h0, op_not r (by rw [hl]; exact decide_eq_false h0)]
        exact h
  · obtain ⟨e1, e2⟩ := hdown hd
    exact ⟨by rw [op_safe, dop_safe]; exact h.safe, by rw [op_wait, dop_wait]; exact h.wait, e1, by rw [op_seen, dop_wait, dop_safe]; exact h.seen, .inl e2, h7, h8⟩
theorem applyAll_last (wait : List (Nat × ByteArray)) (safe : List ByteArray) (k : Nat) (s : ByteArray) : applyAll (wait ++ [(k, s)]) safe = (applyAll wait safe).set k s := by simp [applyAll, List.foldl_append]
theorem Rel.write {d : Dsk} {r : RDsk} (h : Rel d r) (k : Nat) (s : ByteArray) : Rel (d.write k s) (r.write k s) := by
  have ho := h.op
  unfold Dsk.write RDsk.write
  rw [ho.down]
  split
  · exact ho
  · refine ⟨ho.safe, ?_, ho.down, ?_, ho.fuse, ho.most, ho.size⟩
    · show _ ++ _ = _ ++ _; rw [ho.wait]
    · show r.op.seen.set k s = applyAll (d.op.wait ++ [(k, s)]) d.op.safe
      rw [applyAll_last, ho.seen]
theorem Rel.flush {d : Dsk} {r : RDsk} (h : Rel d r) : Rel d.flush r.flush := by
  have ho := h.op
  unfold Dsk.flush RDsk.flush
  rw [ho.down]
  split
  · exact ho
  · refine ⟨ho.seen, rfl, ho.down, ho.seen, ho.fuse, ho.most, ?_⟩
    show 1 ≤ (applyAll d.op.wait d.op.safe).length ∧ (applyAll d.op.wait d.op.safe).length ≤ 4096
    rw [applyAll_length]; exact ho.size
theorem Rel.fresh (n : Nat) (h : 1 ≤ n ∧ n ≤ 4096) : Rel (Dsk.fresh n) (RDsk.fresh n) :=
  ⟨rfl, rfl, rfl, rfl, .inr ⟨rfl, fun h => absurd h (show ¬ (0 : Int) < 0 by omega)⟩, by show (0 : Int) ≤ _; omega, by show 1 ≤ (List.replicate n z64).length ∧ (List.replicate n z64).length ≤ 4096; rw [List.length_replicate]; exact h⟩
theorem at_seen (safe : List ByteArray) (k : Nat) (hk : k < safe.length) (wait : List (Nat × ByteArray)) : (applyAll wait safe)[k]? = some ((lastW wait k).getD safe[k]) := by
  refine snoc_ind (P := fun l => (applyAll l safe)[k]? = some ((lastW l k).getD safe[k])) ?_ (fun l x ih => ?_) wait
  · show safe[k]? = some safe[k]
    exact List.getElem?_eq_getElem hk
  · obtain ⟨j, s⟩ := x
    rw [applyAll_last, lastW_snoc]
    by_cases h : j = k
    · subst h
      rw [if_pos rfl, List.getElem?_set_self (by rw [applyAll_length]; exact hk)]
      rfl
    · rw [if_neg h, List.getElem?_set_ne h]
      exact ih
theorem Rel.at {d : Dsk} {r : RDsk} (h : Rel d r) (k : Nat) (hk : k < d.safe.length) (hk' : k < r.seen.length) : r.seen[k] = d.at k hk := by
  have e := at_seen d.safe k hk d.wait
  rw [← h.seen, List.getElem?_eq_getElem hk'] at e
  exact Option.some.inj e
end Go.Proofs.YtapijhhmjjplmaaGreatDoor
namespace Go.Proofs.YtapijhhmjjplmaaGreatDoor
open Go.RowKit Go.Extern.Stop Go.Stop Go.Extern
theorem isTypeOf (v : Value) (w : World) : (Extern.ReflectliteType.typeOf #[.iface 458 v]).run Tryz.prog w = .ok (.iface 333 (.agg #[.pointer (some ⟨18, 458, none⟩)])) w := by kernel_rfl
/-- The model's entry for Comparable, under a name that the walk does not lay open. -/
def cmpEntry : Array Value → Sem Value := ReflectliteType.method fun t => do Rtype.noPackHeld "Comparable" t; pure (.bool (← typeInfo t).comparable)
theorem isComparable (w : World) : (cmpEntry #[.agg #[.pointer (some ⟨18, 458, none⟩)]]).run Tryz.prog w = .ok (.bool true) w := by kernel_rfl
theorem isMethodComparable (v : Value) (w : World) : (Go.method 587 333 v "Comparable").run Tryz.prog w = .ok (352, v) w := by kernel_rfl
theorem isComp : (Tryz.prog.info? 458).map (·.comparable) = some true := by kernel_rfl
theorem isSize : (Tryz.prog.info? 476).map (·.size) = some 1 := by kernel_rfl
theorem noIsE (v : Value) (xT : TypeId) (w : World) : (Instr.typeAssert (.iface 458 v) xT 335 true).run Tryz.prog w = .ok (.tuple #[.nilIface, .bool false]) w := run_typeAssert_lacksB Tryz.underlying335 (by kernel_rfl) (by kernel_rfl) v xT w
theorem noUnwrapE (v : Value) (xT : TypeId) (w : World) : (Instr.typeAssert (.iface 458 v) xT 338 true).run Tryz.prog w = .ok (.tuple #[.nilIface, .bool false]) w := run_typeAssert_lacksB Tryz.underlying338 (by kernel_rfl) (by kernel_rfl) v xT w
theorem noUnwrapsE (v : Value) (xT : TypeId) (w : World) : (Instr.typeAssert (.iface 458 v) xT 339 true).run Tryz.prog w = .ok (.tuple #[.nilIface, .bool false]) w := run_typeAssert_lacksB Tryz.underlying339 (by kernel_rfl) (by kernel_rfl) v xT w
/-- errors.Is(x, x), x a pointer to an errors.errorString. -/
theorem is_same (a : Addr) (w : World) :
    Calls Tryz.prog 78 #[.iface 458 (.pointer (some a)), .iface 458 (.pointer (some a))] w fun e w' => e = .returned (.bool true) ∧ w' = w := by
  obtain ⟨i, hi, hcmp⟩ := Option.map_eq_some_iff.1 isComp
  obtain ⟨j, hj, hjs⟩ := Option.map_eq_some_iff.1 isSize
  have h8 := @run_callFunc_extern Tryz.prog 133 _ Extern.ReflectliteType.typeOf Tryz.func133 (by kernel_rfl) (by kernel_rfl) (by kernel_rfl) (by kernel_rfl)
  have h32 := @run_callFunc_extern Tryz.prog 352 _ cmpEntry Tryz.func352 (by kernel_rfl) (by kernel_rfl) (by kernel_rfl) (by kernel_rfl)
  have tT := isTypeOf
  have cT := isComparable
  have mR := isMethodComparable
  have heq := run_eql_iface_ptr_same (P := Tryz.prog) w a Tryz.underlying92 Tryz.underlying458 hi hcmp hj
  go_enter Tryz.func78, Tryz.ntmps78
  go_wp2
  refine wp_loop_rounds 1 ?_
  rw [rounds_succ]
  go_wp2
  go_ret
  exact ⟨rfl, rfl⟩
/-- errors.Is(x, y), two different pointers to errors.errorString: false. -/
theorem is_other (a b : Addr) (ca cb : Array Value) (ta tb : TypeId) (w : World) (hne : a ≠ b) (ha : w.heap[a.block]? = some (.cells ca ta (0, 0))) (hb : w.heap[b.block]? = some (.cells cb tb (0, 0))) :
    Calls Tryz.prog 78 #[.iface 458 (.pointer (some a)), .iface 458 (.pointer (some b))] w fun e w' => e = .returned (.bool false) ∧ w' = w := by
  obtain ⟨i, hi, hcmp⟩ := Option.map_eq_some_iff.1 isComp
  obtain ⟨j, hj, hjs⟩ := Option.map_eq_some_iff.1 isSize
  have h8 := @run_callFunc_extern Tryz.prog 133 _ Extern.ReflectliteType.typeOf Tryz.func133 (by kernel_rfl) (by kernel_rfl) (by kernel_rfl) (by kernel_rfl)
  have h32 := @run_callFunc_extern Tryz.prog 352 _ cmpEntry Tryz.func352 (by kernel_rfl) (by kernel_rfl) (by kernel_rfl) (by kernel_rfl)
  have tT := isTypeOf
  have cT := isComparable
  have mR := isMethodComparable
  have nE := noIsE
  have uE := noUnwrapE
  have vE := noUnwrapsE
  have heq := run_eql_iface_ptr_other (P := Tryz.prog) w Tryz.underlying92 Tryz.underlying458 hi hcmp hj (by rw [hjs]; decide) hne ha hb
  go_enter Tryz.func78, Tryz.ntmps78
  go_wp2
  refine wp_loop_rounds 1 ?_
  rw [rounds_succ]
  go_wp2
  go_ret
  exact ⟨rfl, rfl⟩
end Go.Proofs.YtapijhhmjjplmaaGreatDoor
namespace Go.Proofs.YtapijhhmjjplmaaGreatDoor
open Go.RowKit Go.Extern.Stop Go.Stop Go.Extern
theorem valueOfPP (t : Addr) (w : World) : (ReflectliteValue.unpack (.iface 164 (.pointer (some t)))).run Tryz.prog w
    = .ok (.agg #[.pointer (some ⟨18, 164, none⟩), .pointer (some ⟨w.heap.size, 0, none⟩), .int .u64 150]) (w.alloc (.cells #[.pointer (some t)] 164)) := by kernel_rfl
theorem typePP (a : Addr) (w : World) : (ReflectliteValue.methodAny (ReflectliteValue.valueError "reflectlite.Value.Type" 0) (fun t _ _ _ => ReflectliteType.toType t) #[.agg #[.pointer (some ⟨18, 164, none⟩), .pointer (some a), .int .u64 150]]).run Tryz.prog w
    = .ok (.iface 333 (.agg #[.pointer (some ⟨18, 164, none⟩)])) w := by kernel_rfl
theorem methodKind (h : Value) (w : World) : (Go.method 587 333 (.agg #[h]) "Kind").run Tryz.prog w = .ok (341, h) w := by kernel_rfl
theorem kindPP (w : World) : ((ReflectliteType.abiMethod fun t => (fun a : Nat => Value.int IntKind.u8 (a : Int)) <$> Rtype.kind t) #[.pointer (some ⟨18, 164, none⟩)]).run Tryz.prog w = .ok (.int .u8 22) w := by kernel_rfl
theorem kindP (w : World) : ((ReflectliteType.abiMethod fun t => (fun a : Nat => Value.int IntKind.u8 (a : Int)) <$> Rtype.kind t) #[.pointer (some ⟨18, 162, none⟩)]).run Tryz.prog w = .ok (.int .u8 22) w := by kernel_rfl
theorem rlm (z : Sem Value) (f : TypeId → Addr → Nat → Nat → Sem Value) (v : Value) :
    ReflectliteValue.method z f #[v] = (do match ← ReflectliteValue.parts v with | none => z | some (t, a, fl) => f t a fl (fl % 32)) := rfl
theorem partsPP (a : Addr) (w : World) : (ReflectliteValue.parts (.agg #[.pointer (some ⟨18, 164, none⟩), .pointer (some a), .int .u64 150])).run Tryz.prog w = .ok (some (164, a, 150)) w := by kernel_rfl
theorem isNilPP (a p : Addr) (W : World) (ha : W.cell? a = some (.pointer (some p))) :
    (ReflectliteValue.method (ReflectliteValue.valueError "reflectlite.Value.IsNil" 0) ReflectliteValue.isNil #[.agg #[.pointer (some ⟨18, 164, none⟩), .pointer (some a), .int .u64 150]]).run Tryz.prog W = .ok (.bool false) W := by
  rw [rlm]
  simp only [Sem.run_bind, partsPP, Result.andThen]
  simp [ReflectliteValue.isNil, loadVar, isAgg, underlying, Tryz.underlying164, ha, Result.andThen]
theorem methodElem (h : Value) (w : World) : (Go.method 587 333 (.agg #[h]) "Elem").run Tryz.prog w = .ok (353, .agg #[h]) w := by kernel_rfl
theorem methodImplements (h : Value) (w : World) : (Go.method 587 333 (.agg #[h]) "Implements").run Tryz.prog w = .ok (354, .agg #[h]) w := by kernel_rfl
theorem methodAssignableTo (h : Value) (w : World) : (Go.method 587 333 (.agg #[h]) "AssignableTo").run Tryz.prog w = .ok (351, .agg #[h]) w := by kernel_rfl
theorem elemPP (w : World) : (ReflectliteType.method ReflectliteType.elem #[.agg #[.pointer (some ⟨18, 164, none⟩)]]).run Tryz.prog w = .ok (.iface 333 (.agg #[.pointer (some ⟨18, 162, none⟩)])) w := by kernel_rfl
theorem implementsP (w : World) : (ReflectliteType.relation "Implements" ReflectliteType.implements_ #[.agg #[.pointer (some ⟨18, 162, none⟩)], .iface 333 (.agg #[.pointer (some ⟨18, 92, none⟩)])]).run Tryz.prog w = .ok (.bool true) w := by kernel_rfl
theorem typeOfP (v : Value) (w : World) : (ReflectliteType.typeOf #[.iface 162 v]).run Tryz.prog w = .ok (.iface 333 (.agg #[.pointer (some ⟨18, 162, none⟩)])) w := by kernel_rfl
theorem typeOfE (v : Value) (w : World) : (ReflectliteType.typeOf #[.iface 458 v]).run Tryz.prog w = .ok (.iface 333 (.agg #[.pointer (some ⟨18, 458, none⟩)])) w := by kernel_rfl
theorem assignableP (w : World) : (ReflectliteType.relation "AssignableTo" ReflectliteType.assignableTo #[.agg #[.pointer (some ⟨18, 162, none⟩)], .iface 333 (.agg #[.pointer (some ⟨18, 162, none⟩)])]).run Tryz.prog w = .ok (.bool true) w := by kernel_rfl
theorem assignableE (w : World) : (ReflectliteType.relation "AssignableTo" ReflectliteType.assignableTo #[.agg #[.pointer (some ⟨18, 458, none⟩)], .iface 333 (.agg #[.pointer (some ⟨18, 162, none⟩)])]).run Tryz.prog w = .ok (.bool false) w := by kernel_rfl
theorem valueOfP (e : Addr) (w : World) : (ReflectliteValue.unpack (.iface 162 (.pointer (some e)))).run Tryz.prog w
    = .ok (.agg #[.pointer (some ⟨18, 162, none⟩), .pointer (some ⟨w.heap.size, 0, none⟩), .int .u64 150]) (w.alloc (.cells #[.pointer (some e)] 162)) := by kernel_rfl
theorem elemOfPP (w : World) : (Rtype.elem? 164).run Tryz.prog w = .ok (some 162) w := by kernel_rfl
theorem mkP (p : Addr) (w : World) : (ReflectliteValue.mk 162 p ReflectliteValue.flagAddr).run Tryz.prog w = .ok (.agg #[.pointer (some ⟨18, 162, none⟩), .pointer (some p), .int .u64 406]) w := by kernel_rfl
theorem elemVPP (a p : Addr) (W : World) (ha : W.cell? a = some (.pointer (some p))) :
    (ReflectliteValue.method (ReflectliteValue.valueError "reflectlite.Value.Elem" 0) ReflectliteValue.elem #[.agg #[.pointer (some ⟨18, 164, none⟩), .pointer (some a), .int .u64 150]]).run Tryz.prog W
      = .ok (.agg #[.pointer (some ⟨18, 162, none⟩), .pointer (some p), .int .u64 406]) W := by
  rw [rlm]
  simp only [Sem.run_bind, partsPP, Result.andThen]
  simp [ReflectliteValue.elem, loadVar, isAgg, underlying, Tryz.underlying164, ha, Result.andThen, elemOfPP, mkP]
theorem rls (v x : Value) : ReflectliteValue.set #[v, x] = (do
    let (some (dst, a, fl), some (src, b, _)) := (← ReflectliteValue.parts v, ← ReflectliteValue.parts x)
      | unsupported (.noEntry "extern/(internal/reflectlite.Value).Set.zeroValue")
    if fl / ReflectliteValue.flagAddr % 2 == 0 then unsupported (.noEntry "extern/(internal/reflectlite.Value).Set.unaddressable")
    let val ← loadVar src b
    if ← Rtype.directlyAssignable dst src then storeVar dst a val
    else if ← Rtype.implements dst src then
      if (← Rtype.kind src) == 20 then
        match val with
        | .nilIface => unsupported (.noEntry "extern/reflectlite: a nil value of one interface type handed on as a value of another")
        | _ => storeVar dst a val
      else storeVar dst a (.iface src val)
    else panicString ("reflectlite.Set: value of type " ++ (← Rtype.spelt src) ++ " is not assignable to type " ++ (← Rtype.spelt dst))
    pure (.tuple #[])) := rfl
theorem partsPa (a : Addr) (w : World) : (ReflectliteValue.parts (.agg #[.pointer (some ⟨18, 162, none⟩), .pointer (some a), .int .u64 406])).run Tryz.prog w = .ok (some (162, a, 406)) w := by kernel_rfl
theorem partsP (a : Addr) (w : World) : (ReflectliteValue.parts (.agg #[.pointer (some ⟨18, 162, none⟩), .pointer (some a), .int .u64 150])).run Tryz.prog w = .ok (some (162, a, 150)) w := by kernel_rfl
theorem directP (w : World) : (Rtype.directlyAssignable 162 162).run Tryz.prog w = .ok true w := by kernel_rfl
theorem setP (ta b e : Addr) (old : Value) (W : World) (hb : W.cell? b = some (.pointer (some e))) (ht : W.cell? ta = some old) (hf : W.frozen? ta = false) :
    (ReflectliteValue.set #[.agg #[.pointer (some ⟨18, 162, none⟩), .pointer (some ta), .int .u64 406], .agg #[.pointer (some ⟨18, 162, none⟩), .pointer (some b), .int .u64 150]]).run Tryz.prog W
      = .ok (.tuple #[]) (W.setCell ta (.pointer (some e))) := by
  rw [rls]
  simp only [Sem.run_bind, partsPa, partsP, Result.andThen]
  simp [ReflectliteValue.flagAddr, loadVar, isAgg, underlying, Tryz.underlying162, hb, Result.andThen, directP, storeVar, Value.cells, storeCells, Addr.add]
  rw [run_store Tryz.prog W ta _ _ (by rfl)]
  simp [ht, hf]
theorem noAsE (v : Value) (xT : TypeId) (w : World) : (Instr.typeAssert (.iface 458 v) xT 343 true).run Tryz.prog w = .ok (.tuple #[.nilIface, .bool false]) w := run_typeAssert_lacksB Tryz.underlying343 (by kernel_rfl) (by kernel_rfl) v xT w
theorem asNoUnwrapE (v : Value) (xT : TypeId) (w : World) : (Instr.typeAssert (.iface 458 v) xT 338 true).run Tryz.prog w = .ok (.tuple #[.nilIface, .bool false]) w := run_typeAssert_lacksB Tryz.underlying338 (by kernel_rfl) (by kernel_rfl) v xT w
theorem asNoUnwrapsE (v : Value) (xT : TypeId) (w : World) : (Instr.typeAssert (.iface 458 v) xT 339 true).run Tryz.prog w = .ok (.tuple #[.nilIface, .bool false]) w := run_typeAssert_lacksB Tryz.underlying339 (by kernel_rfl) (by kernel_rfl) v xT w
set_option maxHeartbeats 4000000 in
theorem as_hit (e t : Addr) (old : Value) (w : World) (hg : w.cell? ⟨12, 0, none⟩ = some (.iface 333 (.agg #[.pointer (some ⟨18, 92, none⟩)]))) (ht0 : w.cell? t = some old) (hf0 : w.frozen? t = false) :
    Calls Tryz.prog 79 #[.iface 162 (.pointer (some e)), .iface 164 (.pointer (some t))] w fun ev w' => ev = .returned (.bool true) ∧ w' = ((((w.alloc (.cells #[.pointer (some t)] 164)).alloc (.cells #[.pointer (some ⟨18, 164, none⟩), .pointer (some ⟨w.heap.size, 0, none⟩), .int .u64 150] 247)).alloc (.cells #[.pointer (some ⟨18, 164, none⟩), .pointer (some ⟨w.heap.size, 0, none⟩), .int .u64 150] 247)).alloc (.cells #[.pointer (some e)] 162)).setCell t (.pointer (some e)) := by
  have h6 := @run_callFunc_extern Tryz.prog 135 _ (fun args => ReflectliteValue.unpack (args.getD 0 (.tuple #[]))) Tryz.func135 (by kernel_rfl) (by kernel_rfl) (by kernel_rfl) (by kernel_rfl)
  have h7 := @run_callFunc_extern Tryz.prog 136 _ (ReflectliteValue.methodAny (ReflectliteValue.valueError "reflectlite.Value.Type" 0) (fun t _ _ _ => ReflectliteType.toType t)) Tryz.func136 (by kernel_rfl) (by kernel_rfl) (by kernel_rfl) (by kernel_rfl)
  have h8 := @run_callFunc_extern Tryz.prog 137 _ (ReflectliteValue.method (ReflectliteValue.valueError "reflectlite.Value.IsNil" 0) ReflectliteValue.isNil) Tryz.func137 (by kernel_rfl) (by kernel_rfl) (by kernel_rfl) (by kernel_rfl)
  have h27 := @run_callFunc_extern Tryz.prog 341 _ (ReflectliteType.abiMethod fun t => do pure (.int .u8 (← Rtype.kind t))) Tryz.func341 (by kernel_rfl) (by kernel_rfl) (by kernel_rfl) (by kernel_rfl)
  have h37 := @run_callFunc_extern Tryz.prog 353 _ (ReflectliteType.method ReflectliteType.elem) Tryz.func353 (by kernel_rfl) (by kernel_rfl) (by kernel_rfl) (by kernel_rfl)
  have h38 := @run_callFunc_extern Tryz.prog 354 _ (ReflectliteType.relation "Implements" ReflectliteType.implements_) Tryz.func354 (by kernel_rfl) (by kernel_rfl) (by kernel_rfl) (by kernel_rfl)
  have h10 := @run_callFunc_extern Tryz.prog 133 _ ReflectliteType.typeOf Tryz.func133 (by kernel_rfl) (by kernel_rfl) (by kernel_rfl) (by kernel_rfl)
  have h35 := @run_callFunc_extern Tryz.prog 351 _ (ReflectliteType.relation "AssignableTo" ReflectliteType.assignableTo) Tryz.func351 (by kernel_rfl) (by kernel_rfl) (by kernel_rfl) (by kernel_rfl)
  have h11 := @run_callFunc_extern Tryz.prog 206 _ (ReflectliteValue.method (ReflectliteValue.valueError "reflectlite.Value.Elem" 0) ReflectliteValue.elem) Tryz.func206 (by kernel_rfl) (by kernel_rfl) (by kernel_rfl) (by kernel_rfl)
  have h12 := @run_callFunc_extern Tryz.prog 207 _ ReflectliteValue.set Tryz.func207 (by kernel_rfl) (by kernel_rfl) (by kernel_rfl) (by kernel_rfl)
  have tO := typeOfP
  have mA := methodAssignableTo
  have a25 := assignableP
  have v25 := valueOfP
  have f6 := valueOfPP
  have f7 := typePP
  have mK := methodKind
  have mE := methodElem
  have mI := methodImplements
  have k27 := kindPP
  have k25 := kindP
  have e27 := elemPP
  have i25 := implementsP
  have n8 := isNilPP ⟨w.heap.size, 0, none⟩ t ((w.alloc (.cells #[.pointer (some t)] 164)).alloc (.cells #[.pointer (some ⟨18, 164, none⟩), .pointer (some ⟨w.heap.size, 0, none⟩), .int .u64 150] 247)) (by simp)
  have hlt : 12 < w.heap.size := by
    rcases Nat.lt_or_ge 12 w.heap.size with h | h
    · exact h
    · simp [World.cell?, Array.getElem?_eq_none h] at hg
  have hg2 : ((w.alloc (.cells #[.pointer (some t)] 164)).alloc (.cells #[.pointer (some ⟨18, 164, none⟩), .pointer (some ⟨w.heap.size, 0, none⟩), .int .u64 150] 247)).cell? ⟨12, 0, none⟩ = some (.iface 333 (.agg #[.pointer (some ⟨18, 92, none⟩)])) := by
    rw [World.cell?_alloc_lt _ _ ⟨12, 0, none⟩ (by simp; omega), World.cell?_alloc_lt _ _ ⟨12, 0, none⟩ hlt]; exact hg
  have htl : t.block < w.heap.size := by
    rcases Nat.lt_or_ge t.block w.heap.size with h | h
    · exact h
    · simp [World.cell?, Array.getElem?_eq_none h] at ht0
  have el := elemVPP ⟨w.heap.size, 0, none⟩ t (((w.alloc (.cells #[.pointer (some t)] 164)).alloc (.cells #[.pointer (some ⟨18, 164, none⟩), .pointer (some ⟨w.heap.size, 0, none⟩), .int .u64 150] 247)).alloc (.cells #[.pointer (some ⟨18, 164, none⟩), .pointer (some ⟨w.heap.size, 0, none⟩), .int .u64 150] 247)) (by rw [World.cell?_alloc_lt _ _ ⟨w.heap.size, 0, none⟩ (by simp; omega)]; simp)
  have st := setP t ⟨w.heap.size + 1 + 1 + 1, 0, none⟩ e old ((((w.alloc (.cells #[.pointer (some t)] 164)).alloc (.cells #[.pointer (some ⟨18, 164, none⟩), .pointer (some ⟨w.heap.size, 0, none⟩), .int .u64 150] 247)).alloc (.cells #[.pointer (some ⟨18, 164, none⟩), .pointer (some ⟨w.heap.size, 0, none⟩), .int .u64 150] 247)).alloc (.cells #[.pointer (some e)] 162))
    (by rw [World.cell?_alloc_at _ _ _ _ (by simp)]; rfl)
    (by rw [World.cell?_alloc_lt _ _ t (by simp; omega), World.cell?_alloc_lt _ _ t (by simp; omega), World.cell?_alloc_lt _ _ t (by simp; omega), World.cell?_alloc_lt _ _ t htl]; exact ht0)
    (by rw [World.frozen?_alloc_old _ _ t (by simp; omega), World.frozen?_alloc_old _ _ t (by simp; omega), World.frozen?_alloc_old _ _ t (by simp; omega), World.frozen?_alloc_old _ _ t (Nat.ne_of_lt htl)]; exact hf0)
  go_enter Tryz.func79, Tryz.ntmps79
  go_wp2
  refine wp_loop_rounds 1 ?_
  rw [rounds_succ]
  go_wp2
  go_ret
  exact ⟨rfl, rfl⟩
set_option maxHeartbeats 4000000 in
theorem as_miss (e t : Addr) (w : World) (hg : w.cell? ⟨12, 0, none⟩ = some (.iface 333 (.agg #[.pointer (some ⟨18, 92, none⟩)]))) :
    Calls Tryz.prog 79 #[.iface 458 (.pointer (some e)), .iface 164 (.pointer (some t))] w fun ev w' => ev = .returned (.bool false) ∧ w' = (((w.alloc (.cells #[.pointer (some t)] 164)).alloc (.cells #[.pointer (some ⟨18, 164, none⟩), .pointer (some ⟨w.heap.size, 0, none⟩), .int .u64 150] 247)).alloc (.cells #[.pointer (some ⟨18, 164, none⟩), .pointer (some ⟨w.heap.size, 0, none⟩), .int .u64 150] 247)) := by
  have h6 := @run_callFunc_extern Tryz.prog 135 _ (fun args => ReflectliteValue.unpack (args.getD 0 (.tuple #[]))) Tryz.func135 (by kernel_rfl) (by kernel_rfl) (by kernel_rfl) (by kernel_rfl)
  have h7 := @run_callFunc_extern Tryz.prog 136 _ (ReflectliteValue.methodAny (ReflectliteValue.valueError "reflectlite.Value.Type" 0) (fun t _ _ _ => ReflectliteType.toType t)) Tryz.func136 (by kernel_rfl) (by kernel_rfl) (by kernel_rfl) (by kernel_rfl)
  have h8 := @run_callFunc_extern Tryz.prog 137 _ (ReflectliteValue.method (ReflectliteValue.valueError "reflectlite.Value.IsNil" 0) ReflectliteValue.isNil) Tryz.func137 (by kernel_rfl) (by kernel_rfl) (by kernel_rfl) (by kernel_rfl)
  have h27 := @run_callFunc_extern Tryz.prog 341 _ (ReflectliteType.abiMethod fun t => do pure (.int .u8 (← Rtype.kind t))) Tryz.func341 (by kernel_rfl) (by kernel_rfl) (by kernel_rfl) (by kernel_rfl)
  have h37 := @run_callFunc_extern Tryz.prog 353 _ (ReflectliteType.method ReflectliteType.elem) Tryz.func353 (by kernel_rfl) (by kernel_rfl) (by kernel_rfl) (by kernel_rfl)
  have h38 := @run_callFunc_extern Tryz.prog 354 _ (ReflectliteType.relation "Implements" ReflectliteType.implements_) Tryz.func354 (by kernel_rfl) (by kernel_rfl) (by kernel_rfl) (by kernel_rfl)
  have h10 := @run_callFunc_extern Tryz.prog 133 _ ReflectliteType.typeOf Tryz.func133 (by kernel_rfl) (by kernel_rfl) (by kernel_rfl) (by kernel_rfl)
  have h35 := @run_callFunc_extern Tryz.prog 351 _ (ReflectliteType.relation "AssignableTo" ReflectliteType.assignableTo) Tryz.func351 (by kernel_rfl) (by kernel_rfl) (by kernel_rfl) (by kernel_rfl)
  have tO := typeOfE
  have mA := methodAssignableTo
  have a25 := assignableE
  have f6 := valueOfPP
  have f7 := typePP
  have mK := methodKind
  have mE := methodElem
  have mI := methodImplements
  have k27 := kindPP
  have k25 := kindP
  have e27 := elemPP
  have i25 := implementsP
  have nA := noAsE
  have nU := asNoUnwrapE
  have nV := asNoUnwrapsE
  have n8 := isNilPP ⟨w.heap.size, 0, none⟩ t ((w.alloc (.cells #[.pointer (some t)] 164)).alloc (.cells #[.pointer (some ⟨18, 164, none⟩), .pointer (some ⟨w.heap.size, 0, none⟩), .int .u64 150] 247)) (by simp)
  have hlt : 12 < w.heap.size := by
    rcases Nat.lt_or_ge 12 w.heap.size with h | h
    · exact h
    · simp [World.cell?, Array.getElem?_eq_none h] at hg
  have hg2 : ((w.alloc (.cells #[.pointer (some t)] 164)).alloc (.cells #[.pointer (some ⟨18, 164, none⟩), .pointer (some ⟨w.heap.size, 0, none⟩), .int .u64 150] 247)).cell? ⟨12, 0, none⟩ = some (.iface 333 (.agg #[.pointer (some ⟨18, 92, none⟩)])) := by
    rw [World.cell?_alloc_lt _ _ ⟨12, 0, none⟩ (by simp; omega), World.cell?_alloc_lt _ _ ⟨12, 0, none⟩ hlt]; exact hg
  go_enter Tryz.func79, Tryz.ntmps79
  go_wp2
  refine wp_loop_rounds 1 ?_
  rw [rounds_succ]
  go_wp2
  go_ret
  exact ⟨rfl, rfl⟩
end Go.Proofs.YtapijhhmjjplmaaGreatDoor
namespace Go.Proofs.YtapijhhmjjplmaaGreatDoor
open Go.RowKit Go.Extern.Stop Go.Stop Go.Extern
/-- The value of the reason at 'a'. -/
abbrev rv (a : Addr) : Value := .iface 458 (.pointer (some a))
/-- What the reasons' variables hold: twelve pointers to strings that are not empty, no two alike; and errors' own variable. -/
structure Sent (w : World) (a : Nat → Addr) : Prop where
  v0 : w.cell? ⟨0, 0, none⟩ = some (rv (a 0))
  v1 : w.cell? ⟨1, 0, none⟩ = some (rv (a 1))
  v2 : w.cell? ⟨2, 0, none⟩ = some (rv (a 2))
  v3 : w.cell? ⟨3, 0, none⟩ = some (rv (a 3))
  v4 : w.cell? ⟨4, 0, none⟩ = some (rv (a 4))
  v5 : w.cell? ⟨5, 0, none⟩ = some (rv (a 5))
  v6 : w.cell? ⟨6, 0, none⟩ = some (rv (a 6))
  v7 : w.cell? ⟨7, 0, none⟩ = some (rv (a 7))
  v8 : w.cell? ⟨8, 0, none⟩ = some (rv (a 8))
  v9 : w.cell? ⟨9, 0, none⟩ = some (rv (a 9))
  v10 : w.cell? ⟨10, 0, none⟩ = some (rv (a 10))
  v11 : w.cell? ⟨11, 0, none⟩ = some (rv (a 11))
  row : ∀ j, j < 12 → ∃ c t, w.heap[(a j).block]? = some (.cells c t (0, 0))
  text : ∀ j, j < 12 → ∃ s : ByteArray, w.cell? (a j) = some (.string s) ∧ 0 < s.size ∧ s.size < 1000
  inj : ∀ i j, i < 12 → j < 12 → i ≠ j → a i ≠ a j
  ty : w.cell? ⟨12, 0, none⟩ = some (.iface 333 (.agg #[.pointer (some ⟨18, 92, none⟩)]))
theorem cell_lt {w : World} {p : Addr} {v : Value} (h : w.cell? p = some v) : p.block < w.heap.size := by
  rcases Nat.lt_or_ge p.block w.heap.size with h' | h'
  · exact h'
  · simp [World.cell?, Array.getElem?_eq_none h'] at h
theorem cell_on {B : Nat} {w w' : World} (hb : Below B w w') {p : Addr} {v : Value} (h : w.cell? p = some v) (hp : p.block < B) : w'.cell? p = some v := by
  rw [hb.cell hp]; exact h
theorem Sent.on {w w' : World} {a : Nat → Addr} (h : Sent w a) (hb : Below w.heap.size w w') : Sent w' a where
  v0 := cell_on hb h.v0 (cell_lt h.v0)
  v1 := cell_on hb h.v1 (cell_lt h.v1)
  v2 := cell_on hb h.v2 (cell_lt h.v2)
  v3 := cell_on hb h.v3 (cell_lt h.v3)
  v4 := cell_on hb h.v4 (cell_lt h.v4)
  v5 := cell_on hb h.v5 (cell_lt h.v5)
  v6 := cell_on hb h.v6 (cell_lt h.v6)
  v7 := cell_on hb h.v7 (cell_lt h.v7)
  v8 := cell_on hb h.v8 (cell_lt h.v8)
  v9 := cell_on hb h.v9 (cell_lt h.v9)
  v10 := cell_on hb h.v10 (cell_lt h.v10)
  v11 := cell_on hb h.v11 (cell_lt h.v11)
  row := fun j hj => by
    obtain ⟨c, t, hc⟩ := h.row j hj
    obtain ⟨s, hs, _⟩ := h.text j hj
    exact ⟨c, t, by rw [hb.block _ (cell_lt hs)]; exact hc⟩
  text := fun j hj => by
    obtain ⟨s, hs, h1, h2⟩ := h.text j hj
    exact ⟨s, cell_on hb hs (cell_lt hs), h1, h2⟩
  inj := h.inj
  ty := cell_on hb h.ty (cell_lt h.ty)
/-- The list of the reasons, as a block. -/
def reasons (a : Nat → Addr) : Array Value := #[rv (a 0), rv (a 1), rv (a 2), rv (a 3), rv (a 4), rv (a 5), rv (a 6), rv (a 7), rv (a 8), rv (a 9), rv (a 10), rv (a 11)]
theorem reasons_at (a : Nat → Addr) (j : Nat) (hj : j < 12) : (reasons a)[j]? = some (rv (a j)) := by
  match j, hj with
  | 0, _ => rfl
  | 1, _ => rfl
  | 2, _ => rfl
  | 3, _ => rfl
  | 4, _ => rfl
  | 5, _ => rfl
  | 6, _ => rfl
  | 7, _ => rfl
  | 8, _ => rfl
  | 9, _ => rfl
  | 10, _ => rfl
  | 11, _ => rfl
theorem as_miss2 (e t : Addr) (w : World) (hg : w.cell? ⟨12, 0, none⟩ = some (.iface 333 (.agg #[.pointer (some ⟨18, 92, none⟩)]))) :
    Calls Tryz.prog 79 #[.iface 458 (.pointer (some e)), .iface 164 (.pointer (some t))] w fun ev w' => ev = .returned (.bool false) ∧ Below w.heap.size w w' := by
  refine (as_miss e t w hg).mono fun ev w' ⟨he, hw⟩ => ?_
  subst hw
  exact ⟨he, (((Below.refl _ _).alloc (by omega) _).alloc (by simp) _).alloc (by simp; omega) _⟩
end Go.Proofs.YtapijhhmjjplmaaGreatDoor
namespace Go.Proofs.YtapijhhmjjplmaaGreatDoor
open Go.RowKit Go.Extern.Stop Go.Stop Go.Extern
set_option maxHeartbeats 1000000 in
theorem number_bare (k : Nat) (hk : k < 12) (a : Nat → Addr) (w : World) (S : Sent w a) :
    Calls Tryz.prog 43 #[rv (a k)] w fun e w' => e = .returned (.tuple #[.int .i64 ((k : Int) + 1), .int .i64 (-1)]) ∧ Below w.heap.size w w' := by
  have q0 := S.v0
  have q1 := S.v1
  have q2 := S.v2
  have q3 := S.v3
  have q4 := S.v4
  have q5 := S.v5
  have q6 := S.v6
  have q7 := S.v7
  have q8 := S.v8
  have q9 := S.v9
  have q10 := S.v10
  have q11 := S.v11
  go_enter Tryz.func43, Tryz.ntmps43
  go_wp2
  go_loopw [4, 24] (fun n i wr => ∃ m : Nat, m ≤ 12 ∧ i = .int .i64 m ∧ (m ≤ k ∧ n = .int .i64 0 ∨ k < m ∧ n = .int .i64 ((k : Int) + 1)) ∧ Below w.heap.size w wr ∧ w.heap.size < wr.heap.size ∧ ∀ j, j < 12 → wr.cell? ⟨w.heap.size, j, none⟩ = some (rv (a j)))
    (fun _ i _ => 12 - (intOf i).toNat)
  case atStart =>
    refine ⟨0, by omega, rfl, .inl ⟨by omega, rfl⟩, (Below.refl _ _).alloc (by omega) _, by simp, fun j hj => ?_⟩
    rw [World.cell?_alloc_at _ _ _ _ rfl]
    exact reasons_at a j hj
  case round =>
    obtain ⟨m, hm, rfl, hn, hb, hsz, hc⟩ := hrel
    by_cases hlt : m < 12
    · have hcm := hc m hlt
      by_cases hmk : m = k
      · subst hmk
        obtain ⟨_, rfl⟩ : m ≤ m ∧ u4 = .int .i64 0 := by
          rcases hn with h | h
          · exact h
          · omega
        clear hn
        go_wp2_with (go_at_call 78; refine (is_same _ _).mono ?_; rintro e w' ⟨rfl, rfl⟩)
        go_roundw
        case rel => exact ⟨m + 1, by omega, by go_num, .inr ⟨by omega, rfl⟩, hb, hsz, hc⟩
        case measure => simp [intOf]; omega
      · obtain ⟨c1, t1, hr1⟩ := (S.on hb).row k hk
        obtain ⟨c2, t2, hr2⟩ := (S.on hb).row m hlt
        have hne : a k ≠ a m := S.inj k m hk hlt (Ne.symm hmk)
        go_wp2_with (go_at_call 78; refine (is_other (a k) (a m) c1 c2 t1 t2 _ hne hr1 hr2).mono ?_; rintro e w' ⟨rfl, rfl⟩)
        go_roundw
        case rel =>
          refine ⟨m + 1, by omega, by go_num, ?_, hb, hsz, hc⟩
          rcases hn with h | h
          · exact .inl ⟨by omega, h.2⟩
          · exact .inr ⟨by omega, h.2⟩
        case measure => simp [intOf]; omega
    · obtain ⟨_, rfl⟩ : k < m ∧ u4 = .int .i64 ((k : Int) + 1) := by
        rcases hn with h | h
        · omega
        · exact h
      clear hn hc
      have hty := ((S.on hb).on ((Below.refl _ _).alloc (by omega) (.cells #[.pointer none] 162))).ty
      have hz : ((k : Int) + 1 == 0) = false := by simp; omega
      go_wp2_with (go_at_call 79; refine (as_miss2 _ _ _ hty).mono ?_; rintro e w' ⟨rfl, hw⟩)
      go_ret2
      refine ⟨rfl, hb.trans ?_⟩
      exact (((Below.refl wr.heap.size wr).alloc (Nat.le_refl _) _).trans (hw.mono (by simp))).mono (by omega)
end Go.Proofs.YtapijhhmjjplmaaGreatDoor
namespace Go.Proofs.YtapijhhmjjplmaaGreatDoor
open Go.RowKit Go.Maps
theorem number_nil (w : World) : Calls Tryz.prog 43 #[.nilIface] w fun e w' => e = .returned (.tuple #[.int .i64 0, .int .i64 (-1)]) ∧ w = w' := by
  go_enter Tryz.func43, Tryz.ntmps43
  go_wp2
  go_ret2
  exact ⟨rfl, rfl⟩
/-- The number of what a disk's operation tells. -/
def errV (a : Nat → Addr) (n : Nat) : Value := if n = 0 then .nilIface else rv (a (n - 1))
theorem number_of (n : Nat) (hn : n ≤ 12) (a : Nat → Addr) (w : World) (S : Sent w a) :
    Calls Tryz.prog 43 #[errV a n] w fun e w' => e = .returned (.tuple #[.int .i64 (n : Int), .int .i64 (-1)]) ∧ Below w.heap.size w w' := by
  unfold errV
  split
  · subst n
    refine (number_nil w).mono ?_
    rintro e w' ⟨rfl, rfl⟩
    exact ⟨rfl, Below.refl _ _⟩
  · have h := number_bare (n - 1) (by omega) a w S
    have e : ((n - 1 : Nat) : Int) + 1 = (n : Int) := by omega
    rw [e] at h
    exact h
def Dsk.fcode (d : Dsk) : Nat := if d.op.down then 2 else 0
section
variable (w0 : World) (a : Nat → Addr) (S0 : Sent w0 a) (bd m : Nat) (S : Nat → Prop) (d : Dsk) (w : World)
/-- What a call of the disk leaves, behind number too. -/
theorem after {S T : Nat → Prop} {w w1 w2 : World} {bd m : Nat} {d : Dsk} (h : DskAt w1 T bd m d) (s : Same S w w1) (hb : Below w1.heap.size w1 w2) : DskAt w2 T bd m d ∧ Same S w w2 :=
  ⟨h.on (below_same (fun _ => False) hb) (fun _ _ h => h), s.trans (below_same S hb)⟩
def Dsk.rd (d : Dsk) (at_ : Int) : ByteArray := if h : 0 ≤ at_ ∧ at_ < d.safe.length then d.at at_.toNat (by omega) else ⟨#[]⟩
def Dsk.rcode (d : Dsk) (at_ : Int) : Nat := if 0 ≤ at_ ∧ at_ < d.safe.length then 0 else 1
end
end Go.Proofs.YtapijhhmjjplmaaGreatDoor
namespace Go.Proofs.YtapijhhmjjplmaaGreatDoor
open Go.RowKit Go.Maps
/-- A pair of disks in the law's list, at ⟨pg, po⟩. -/
structure Duo (w0 W : World) (N pg po bd be m : Nat) (Sd Se : Nat → Prop) (d : Dsk) (r : RDsk) : Prop where
  p0 : W.cell? ⟨pg, po, none⟩ = some (.pointer (some ⟨bd, 0, none⟩))
  p1 : W.cell? ⟨pg, po + 1, none⟩ = some (.pointer (some ⟨be, 0, none⟩))
  dsk : DskAt W Sd bd m d
  ref : RefAt W Se be r
  rel : Rel d r
  dj : ∀ g, Sd g → ¬ Se g
  np : ¬ Sd pg ∧ ¬ Se pg
  base : Below w0.heap.size w0 W
  lo : ∀ g, Sd g ∨ Se g → w0.heap.size ≤ g
  hi : ∀ g, Sd g ∨ Se g → g < W.heap.size
  wl : d.wait.length ≤ N
  ml : m ≤ N
theorem Duo.wlr {w0 W : World} {N pg po bd be m : Nat} {Sd Se : Nat → Prop} {d : Dsk} {r : RDsk} (h : Duo w0 W N pg po bd be m Sd Se d r) : r.wait.length ≤ N := by rw [h.rel.wait]; exact h.wl
/-- Nothing of the pair is touched. -/
theorem Duo.on {w0 W W' : World} {T : Nat → Prop} {N pg po bd be m : Nat} {Sd Se : Nat → Prop} {d : Dsk} {r : RDsk} (h : Duo w0 W N pg po bd be m Sd Se d r) (hs : Same T W W') (hT : ∀ g, T g → w0.heap.size ≤ g) (h1 : ∀ g, Sd g ∨ Se g → ¬ T g) (h2 : ¬ T pg) : Duo w0 W' N pg po bd be m Sd Se d r :=
  ⟨hs.cell h2 h.p0, hs.cell h2 h.p1, h.dsk.on hs (fun g hg => h1 g (.inl hg)), h.ref.on hs (fun g hg => h1 g (.inr hg)), h.rel, h.dj, h.np, h.base.trans (hs.below hT h.base.size), h.lo, fun g hg => Nat.lt_of_lt_of_le (h.hi g hg) hs.size, h.wl, h.ml⟩
/-- The program's disk has done something. -/
theorem Duo.turnD {w0 W W' : World} {N pg po bd be m : Nat} {Sd Se : Nat → Prop} {d : Dsk} {r : RDsk} (h : Duo w0 W N pg po bd be m Sd Se d r) (hs : Same Sd W W') : W'.cell? ⟨pg, po, none⟩ = some (.pointer (some ⟨bd, 0, none⟩)) ∧ W'.cell? ⟨pg, po + 1, none⟩ = some (.pointer (some ⟨be, 0, none⟩)) ∧ RefAt W' Se be r ∧ Below w0.heap.size w0 W' :=
  ⟨hs.cell h.np.1 h.p0, hs.cell h.np.1 h.p1, h.ref.on hs (fun g hg hd => h.dj g hd hg), h.base.trans (hs.below (fun g hg => h.lo g (.inl hg)) h.base.size)⟩
theorem Duo.drew {w0 W : World} {N pg po bd be m : Nat} {Sd Se : Nat → Prop} {d : Dsk} {r : RDsk} (h : Duo w0 W N pg po bd be m Sd Se d r) : Duo w0 W.drew N pg po bd be m Sd Se d r :=
  h.on (Same.refl (fun _ => False) W).drew (fun _ h => h.elim) (fun _ _ h => h) (fun h => h)
theorem DskAt.tight {w : World} {S : Nat → Prop} {bd m : Nat} {d : Dsk} (h : DskAt w S bd m d) : DskAt w (fun g => S g ∧ g < w.heap.size) bd m d := by
  obtain ⟨gs, bm, wv, h1, h⟩ := h
  exact ⟨gs, bm, wv, h1, h.sec, h.map, ⟨h.wait.1, fun g hg => ⟨h.wait.2 g hg, h.wait.lt hg⟩⟩, ⟨h.sb, lt_of_heap' h1⟩, ⟨h.ss, lt_of_heap' h.sec⟩, ⟨h.sm, ownsMap_lt h.map⟩, h.n1, h.n2, h.n3, h.d1, h.v1, h.v2⟩
theorem RefAt.tight {w : World} {S : Nat → Prop} {be : Nat} {r : RDsk} (h : RefAt w S be r) : RefAt w (fun g => S g ∧ g < w.heap.size) be r := by
  obtain ⟨sv, nv, wv, h⟩ := h
  exact ⟨sv, nv, wv, h.blk, ⟨h.sb, lt_of_heap' h.blk⟩, ⟨h.safe.1, fun g hg => ⟨h.safe.2 g hg, h.safe.lt hg⟩⟩, ⟨h.seen.1, fun g hg => ⟨h.seen.2 g hg, h.seen.lt hg⟩⟩, ⟨h.wait.1, fun g hg => ⟨h.wait.2 g hg, h.wait.lt hg⟩⟩, h.d1, h.d2, h.d3⟩
end Go.Proofs.YtapijhhmjjplmaaGreatDoor
namespace Go.Proofs.YtapijhhmjjplmaaGreatDoor
open Go.RowKit Go.Maps
theorem own_shape {w : World} {S : Nat → Prop} {e : TypeId} {k n : Nat} {v : Value} {xs : List Value} (h : OwnS w S e k v n xs) : ∃ ao c, v = .slice ao n c := by
  obtain ⟨-, ⟨h1, h2⟩ | ⟨g, cap, cur, hv, -⟩⟩ := h.1
  · exact ⟨none, 0, by rw [h1, h2]⟩
  · exact ⟨_, _, hv⟩
end Go.Proofs.YtapijhhmjjplmaaGreatDoor
namespace Go.Proofs.YtapijhhmjjplmaaGreatDoor
open Go.RowKit Go.Maps
theorem Duo.tell {w0 W : World} {N pg po bd be m : Nat} {Sd Se : Nat → Prop} {d : Dsk} {r : RDsk} (h : Duo w0 W N pg po bd be m Sd Se d r) : ∃ gn cn, W.cell? ⟨be, 1, none⟩ = some (.slice (some ⟨gn, 0, none⟩) d.safe.length cn) ∧ ∀ j : Nat, j < d.safe.length → W.cell? ⟨gn, j, none⟩ = some (.string (d.rd j)) ∧ d.rcode j = 0 := by
  obtain ⟨sv, nv, wv, hv⟩ := h.ref
  have hl := h.rel.seenLen
  obtain ⟨gn, cn, rfl, -, hc, -⟩ := hv.seen.open (by rw [hl]; exact h.rel.size.1)
  refine ⟨gn, cn, ?_, fun j hj => ⟨?_, ?_⟩⟩
  · rw [cell_of_row _ _ _ _ _ _ hv.blk, ← hl]
    rfl
  · rw [hc j (by rw [strs_length, hl]; exact hj)]
    have e1 : d.rd j = d.at j hj := by unfold Dsk.rd; rw [dif_pos ⟨by omega, by omega⟩]; rfl
    rw [e1, ← h.rel.at j hj (by omega)]
    simp [strs]
  · unfold Dsk.rcode
    rw [if_pos ⟨by omega, by omega⟩]
end Go.Proofs.YtapijhhmjjplmaaGreatDoor
namespace Go.Proofs.YtapijhhmjjplmaaGreatDoor
open Go.RowKit Go.Maps
def RDsk.fcode (r : RDsk) : Nat := if r.op.down then 2 else 0
theorem Rel.fcode {d : Dsk} {r : RDsk} (h : Rel d r) : r.fcode = d.fcode := by unfold RDsk.fcode Dsk.fcode; rw [h.op.down]
theorem RDsk.ans_fcode (r : RDsk) : r.ans = (r.fcode : Int) := by unfold RDsk.ans RDsk.fcode; split <;> rfl
/-- Zeros from sector i on, f sectors, where there are none; then Flush: what is left, and the answer. -/
def wipeR : Nat → Nat → RDsk → RDsk × Nat
  | 0, _, r => (r.flush, r.fcode)
  | f + 1, i, r => if r.seen[i]? = some z64 then wipeR f (i + 1) r else if r.op.down then (r.op, 2) else wipeR f (i + 1) (r.write i z64)
def wipeD : Nat → Nat → Dsk → Dsk × Nat
  | 0, _, d => (d.flush, d.fcode)
  | f + 1, i, d => if (applyAll d.wait d.safe)[i]? = some z64 then wipeD f (i + 1) d else if d.op.down then (d.op, 2) else wipeD f (i + 1) (d.write i z64)
theorem Rel.wipe : ∀ (f i : Nat) {d : Dsk} {r : RDsk}, Rel d r → Rel (wipeD f i d).1 (wipeR f i r).1 ∧ (wipeR f i r).2 = (wipeD f i d).2
  | 0, _, d, r, h => ⟨h.flush, h.fcode⟩
  | f + 1, i, d, r, h => by
    unfold wipeD wipeR
    rw [h.seen, h.op.down]
    split
    · exact Rel.wipe f (i + 1) h
    · split
      · exact ⟨h.op, rfl⟩
      · exact Rel.wipe f (i + 1) (h.write i z64)
theorem wipeD_code : ∀ (f i : Nat) (d : Dsk), (wipeD f i d).2 = 0 ∨ (wipeD f i d).2 = 2
  | 0, _, d => by unfold wipeD Dsk.fcode; split <;> simp
  | f + 1, i, d => by
    unfold wipeD
    split
    · exact wipeD_code f _ _
    · split
      · exact .inr rfl
      · exact wipeD_code f _ _
theorem dwrite_safe (d : Dsk) (k : Nat) (s : ByteArray) : (d.write k s).safe = d.safe := by
  unfold Dsk.write
  split
  · exact dop_safe d
  · exact dop_safe d
theorem dwrite_wait (d : Dsk) (k : Nat) (s : ByteArray) : (d.write k s).wait.length ≤ d.wait.length + 1 := by
  unfold Dsk.write
  split
  · rw [dop_wait]; omega
  · show (d.op.wait ++ [(k, s)]).length ≤ _
    rw [List.length_append, dop_wait]
    simp
theorem dflush_wait (d : Dsk) : d.flush.wait.length ≤ d.wait.length := by
  unfold Dsk.flush
  split
  · rw [dop_wait]; omega
  · exact Nat.zero_le _
theorem dflush_len (d : Dsk) : d.flush.safe.length = d.safe.length := by
  unfold Dsk.flush
  split
  · rw [dop_safe]
  · show (applyAll d.op.wait d.op.safe).length = _
    rw [applyAll_length, dop_safe]
theorem wipeD_len : ∀ (f i : Nat) (d : Dsk), (wipeD f i d).1.safe.length = d.safe.length ∧ (wipeD f i d).1.wait.length ≤ d.wait.length + f
  | 0, _, d => ⟨dflush_len d, dflush_wait d⟩
  | f + 1, i, d => by
    unfold wipeD
    split
    · obtain ⟨h1, h2⟩ := wipeD_len f (i + 1) d
      exact ⟨h1, by omega⟩
    · split
      · exact ⟨by rw [dop_safe], by rw [dop_wait]; omega⟩
      · obtain ⟨h1, h2⟩ := wipeD_len f (i + 1) (d.write i z64)
        have h3 := dwrite_wait d i z64
        rw [dwrite_safe] at h1
        exact ⟨h1, by omega⟩
theorem dop_fuse (d : Dsk) (h : d.fuse ≤ 9223372036854775807) : d.op.fuse ≤ 9223372036854775807 := by
  unfold Dsk.op
  split
  · show d.fuse - 1 ≤ _; omega
  · exact h
theorem dwrite_fuse (d : Dsk) (k : Nat) (s : ByteArray) (h : d.fuse ≤ 9223372036854775807) : (d.write k s).fuse ≤ 9223372036854775807 := by
  unfold Dsk.write
  split
  · exact dop_fuse d h
  · exact dop_fuse d h
end Go.Proofs.YtapijhhmjjplmaaGreatDoor
namespace Go.Proofs.YtapijhhmjjplmaaGreatDoor
/-- A byte of a name. -/
def okB (b : UInt8) : Bool := (decide (97 ≤ b.toNat) && decide (b.toNat ≤ 122)) || (decide (48 ≤ b.toNat) && decide (b.toNat ≤ 57)) || decide (b.toNat = 46) || decide (b.toNat = 95) || decide (b.toNat = 45)
theorem okB_slash : okB 47 = false := by decide
/-- A name. -/
def nmL (l : List UInt8) : Bool := l.all okB && decide (1 ≤ l.length) && decide (l.length ≤ 16)
def bl (s : ByteArray) : List UInt8 := s.data.toList
def lb (l : List UInt8) : ByteArray := ⟨l.toArray⟩
theorem bl_lb (l : List UInt8) : bl (lb l) = l := rfl
theorem lb_bl (s : ByteArray) : lb (bl s) = s := by
  apply ByteArray.ext
  exact Array.toArray_toList
theorem bl_inj {s t : ByteArray} (h : bl s = bl t) : s = t := by rw [← lb_bl s, h, lb_bl]
theorem bl_length (s : ByteArray) : (bl s).length = s.size := by
  show s.data.toList.length = s.data.size
  exact Array.length_toList
theorem bl_append (s t : ByteArray) : bl (s ++ t) = bl s ++ bl t := by
  show (s ++ t).data.toList = _
  rw [ByteArray.data_append, Array.toList_append]
  rfl
theorem bl_extract (s : ByteArray) (a b : Nat) : bl (s.extract a b) = ((bl s).drop a).take (b - a) := by
  show (s.extract a b).data.toList = _
  rw [ByteArray.data_extract, Array.toList_extract]
  rw [List.extract_eq_take_drop]
  rfl
def nmB (s : ByteArray) : Bool := nmL (bl s)
/-- Cut at every slash. -/
def cutL : List UInt8 → List (List UInt8)
  | [] => [[]]
  | b :: l => if b = 47 then [] :: cutL l else match cutL l with
    | [] => [[b]]
    | x :: r => (b :: x) :: r
theorem cutL_ne (l : List UInt8) : cutL l ≠ [] := by
  cases l with
  | nil => simp [cutL]
  | cons b l =>
    unfold cutL
    split
    · simp
    · split <;> simp
theorem cutL_slash (l : List UInt8) : cutL (47 :: l) = [] :: cutL l := by simp [cutL]
/-- A piece without slashes, then something. -/
theorem cutL_pre : ∀ (p q : List UInt8), (∀ b ∈ p, b ≠ 47) → ∀ x r, cutL q = x :: r → cutL (p ++ q) = (p ++ x) :: r
  | [], q, _, x, r, h => by simpa using h
  | b :: p, q, hp, x, r, h => by
    have ih := cutL_pre p q (fun c hc => hp c (by simp [hc])) x r h
    rw [List.cons_append, cutL, if_neg (hp b (by simp)), ih]
    rfl
theorem cutL_none (p : List UInt8) (hp : ∀ b ∈ p, b ≠ 47) : cutL p = [p] := by
  have h := cutL_pre p [] hp [] [] rfl
  simpa using h
theorem cutL_one (p q : List UInt8) (hp : ∀ b ∈ p, b ≠ 47) : cutL (p ++ 47 :: q) = p :: cutL q := by
  have h := cutL_pre p (47 :: q) hp [] (cutL q) (cutL_slash q)
  simpa using h
def joinL : List (List UInt8) → List UInt8
  | [] => []
  | [x] => x
  | x :: y :: r => x ++ 47 :: joinL (y :: r)
theorem joinL_cons (x : List UInt8) (l : List (List UInt8)) (h : l ≠ []) : joinL (x :: l) = x ++ 47 :: joinL l := by
  cases l with
  | nil => exact absurd rfl h
  | cons y r => rfl
theorem joinL_head (b : UInt8) (x : List UInt8) (r : List (List UInt8)) : joinL ((b :: x) :: r) = b :: joinL (x :: r) := by
  cases r with
  | nil => rfl
  | cons y r => rfl
theorem join_cut : ∀ l : List UInt8, joinL (cutL l) = l
  | [] => rfl
  | b :: l => by
    have ih := join_cut l
    unfold cutL
    by_cases h : b = 47
    · rw [if_pos h, joinL_cons _ _ (cutL_ne l), ih, h]
      rfl
    · rw [if_neg h]
      cases hc : cutL l with
      | nil => exact absurd hc (cutL_ne l)
      | cons x r =>
        rw [hc] at ih
        show joinL ((b :: x) :: r) = _
        rw [joinL_head, ih]
theorem cut_join : ∀ (l : List (List UInt8)), l ≠ [] → (∀ x ∈ l, ∀ b ∈ x, b ≠ 47) → cutL (joinL l) = l
  | [x], _, hp => cutL_none x (hp x (by simp))
  | x :: y :: r, _, hp => by
    show cutL (x ++ 47 :: joinL (y :: r)) = _
    rw [cutL_one x _ (hp x (by simp)), cut_join (y :: r) (by simp) (fun z hz => hp z (by simp only [List.mem_cons] at hz ⊢; exact .inr hz))]
theorem joinL_snoc : ∀ (l : List (List UInt8)) (x : List UInt8), l ≠ [] → joinL (l ++ [x]) = joinL l ++ 47 :: x
  | [y], x, _ => rfl
  | y :: z :: r, x, _ => by
    have h := joinL_snoc (z :: r) x (by simp)
    show y ++ 47 :: joinL (z :: r ++ [x]) = (y ++ 47 :: joinL (z :: r)) ++ 47 :: x
    rw [h]
    simp
theorem nm_noslash {l : List UInt8} (h : nmL l = true) : ∀ b ∈ l, b ≠ 47 := by
  intro b hb e
  unfold nmL at h
  rw [Bool.and_eq_true, Bool.and_eq_true] at h
  have := List.all_eq_true.1 h.1.1 b hb
  rw [e, okB_slash] at this
  cases this
theorem nm_ne {l : List UInt8} (h : nmL l = true) : l ≠ [] := by
  rintro rfl
  simp [nmL] at h
theorem nm_len {l : List UInt8} (h : nmL l = true) : l.length ≤ 16 := by
  unfold nmL at h
  rw [Bool.and_eq_true] at h
  simpa using h.2
/-- The pieces of a path's text. -/
def cutB (s : ByteArray) : List ByteArray := (cutL (bl s)).map lb
/-- The names of a path; none: it is no path. -/
def pathOf (s : ByteArray) : Option (List ByteArray) := if s.size = 0 then some [] else if (cutB s).all nmB = true ∧ (cutB s).length ≤ 8 then some (cutB s) else none
def Valid (l : List ByteArray) : Prop := ∀ n ∈ l, nmB n = true
def slash : ByteArray := ⟨#[47]⟩
/-- A name behind a path. -/
def jn (p n : ByteArray) : ByteArray := if p.size = 0 then n else p ++ slash ++ n
def joinB (l : List ByteArray) : ByteArray := l.foldl jn ⟨#[]⟩
theorem joinB_snoc (l : List ByteArray) (n : ByteArray) : joinB (l ++ [n]) = jn (joinB l) n := by simp [joinB, List.foldl_append]
theorem pathOf_valid {s : ByteArray} {l : List ByteArray} (h : pathOf s = some l) : Valid l ∧ l.length ≤ 8 := by
  unfold pathOf at h
  split at h
  · cases h; exact ⟨(by intro n hn; cases hn), by decide⟩
  · split at h
    · rename_i h1
      cases h
      exact ⟨fun n hn => List.all_eq_true.1 h1.1 n hn, h1.2⟩
    · cases h
theorem size_zero {s : ByteArray} (h : s.size = 0) : s = ⟨#[]⟩ := by
  apply ByteArray.ext
  exact Array.eq_empty_of_size_eq_zero h
theorem nmB_size {n : ByteArray} (h : nmB n = true) : 0 < n.size ∧ n.size ≤ 16 := by
  have h1 := nm_ne h
  have h2 := nm_len h
  rw [bl_length] at h2
  refine ⟨?_, h2⟩
  rw [← bl_length]
  exact List.length_pos_iff.2 h1
theorem joinB_data : ∀ (l : List ByteArray), Valid l → bl (joinB l) = joinL (l.map bl) ∧ (l ≠ [] → 0 < (joinB l).size) := by
  intro l
  suffices h : ∀ l : List ByteArray, Valid l.reverse → bl (joinB l.reverse) = joinL (l.reverse.map bl) ∧ (l.reverse ≠ [] → 0 < (joinB l.reverse).size) by
    have := h l.reverse
    rw [List.reverse_reverse] at this
    exact this
  intro l
  induction l with
  | nil => intro _; exact ⟨rfl, fun h => absurd rfl h⟩
  | cons n r ih =>
    intro hv
    rw [List.reverse_cons] at hv ⊢
    obtain ⟨h1, h2⟩ := ih (fun x hx => hv x (by simp at hx ⊢; exact .inl hx))
    have hn := nmB_size (hv n (by simp))
    rw [joinB_snoc, List.map_append]
    by_cases hr : r.reverse = []
    · rw [hr]
      refine ⟨?_, fun _ => ?_⟩
      · show bl (jn ⟨#[]⟩ n) = _
        rfl
      · show 0 < (jn ⟨#[]⟩ n).size
        exact hn.1
    · have h3 := h2 hr
      have e : jn (joinB r.reverse) n = joinB r.reverse ++ slash ++ n := by unfold jn; rw [if_neg (by omega)]
      rw [e]
      refine ⟨?_, fun _ => ?_⟩
      · rw [bl_append, bl_append, h1, List.map_singleton, joinL_snoc _ _ (by simpa using hr)]
        show joinL _ ++ [47] ++ bl n = _
        simp
      · rw [ByteArray.size_append, ByteArray.size_append]; omega
theorem joinB_inj {l m : List ByteArray} (hl : Valid l) (hm : Valid m) (h : joinB l = joinB m) : l = m := by
  obtain ⟨h1, h2⟩ := joinB_data l hl
  obtain ⟨h3, h4⟩ := joinB_data m hm
  by_cases e1 : l = []
  · by_cases e2 : m = []
    · rw [e1, e2]
    · have := h4 e2
      rw [← h, e1] at this
      exact absurd this (by show ¬ 0 < (⟨#[]⟩ : ByteArray).size; decide)
  · by_cases e2 : m = []
    · have := h2 e1
      rw [h, e2] at this
      exact absurd this (by show ¬ 0 < (⟨#[]⟩ : ByteArray).size; decide)
    · have hns : ∀ l : List ByteArray, Valid l → ∀ x ∈ l.map bl, ∀ b ∈ x, b ≠ 47 := by
        intro l hl x hx
        obtain ⟨n, hn, rfl⟩ := List.mem_map.1 hx
        exact nm_noslash (hl n hn)
      have c1 := cut_join (l.map bl) (by simpa using e1) (hns l hl)
      have c2 := cut_join (m.map bl) (by simpa using e2) (hns m hm)
      rw [← h1, h, h3, c2] at c1
      have : (m.map bl).map lb = (l.map bl).map lb := by rw [c1]
      simp only [List.map_map] at this
      have hid : ∀ l : List ByteArray, l.map (lb ∘ bl) = l := fun l => by
        conv => rhs; rw [← List.map_id l]
        apply List.map_congr_left
        intro x _
        exact lb_bl x
      rw [hid, hid] at this
      exact this.symm
theorem map_bl_cutB (s : ByteArray) : (cutB s).map bl = cutL (bl s) := by
  unfold cutB
  rw [List.map_map]
  conv => rhs; rw [← List.map_id (cutL (bl s))]
  apply List.map_congr_left
  intro x _
  rfl
theorem joinB_path {s : ByteArray} {l : List ByteArray} (h : pathOf s = some l) : joinB l = s := by
  have hv := (pathOf_valid h).1
  unfold pathOf at h
  split at h
  · rename_i h0
    cases h
    rw [size_zero h0]
    rfl
  · split at h
    · cases h
      apply bl_inj
      rw [(joinB_data _ hv).1, map_bl_cutB, join_cut]
    · cases h
theorem cutB_length (s : ByteArray) : (cutB s).length = (cutL (bl s)).length := by simp [cutB]
end Go.Proofs.YtapijhhmjjplmaaGreatDoor
namespace Go.Proofs.YtapijhhmjjplmaaGreatDoor
/-- What stands in a tree. -/
structure Itm where
  names : List ByteArray
  dir : Bool
  data : ByteArray
abbrev Tre := List Itm
def lookT (T : Tre) (p : List ByteArray) : Option Itm := T.find? (fun x => decide (x.names = p))
/-- What a tree is. -/
structure WFT (T : Tre) : Prop where
  val : ∀ x ∈ T, x.names ≠ [] ∧ x.names.length ≤ 8 ∧ Valid x.names
  dis : (T.map (·.names)).Nodup
  up : ∀ x ∈ T, x.names.dropLast ≠ [] → ∃ y, lookT T x.names.dropLast = some y ∧ y.dir = true
  len : T.length ≤ 256
  fil : ∀ x ∈ T, x.dir = true → x.data = ⟨#[]⟩
  big : ∀ x ∈ T, x.data.size ≤ 1536
theorem look_some {T : Tre} {p : List ByteArray} {x : Itm} (h : lookT T p = some x) : x ∈ T ∧ x.names = p := by
  unfold lookT at h
  have h1 := List.mem_of_find?_eq_some h
  have h2 := List.find?_some h
  simp at h2
  exact ⟨h1, h2⟩
theorem look_none {T : Tre} {p : List ByteArray} (h : lookT T p = none) : ∀ x ∈ T, x.names ≠ p := by
  unfold lookT at h
  rw [List.find?_eq_none] at h
  intro x hx e
  exact h x hx (by simpa using e)
theorem look_mem {T : Tre} (hd : (T.map (·.names)).Nodup) {x : Itm} (hx : x ∈ T) : lookT T x.names = some x := by
  induction T with
  | nil => cases hx
  | cons y r ih =>
    rw [List.map_cons, List.nodup_cons] at hd
    unfold lookT
    rw [List.find?_cons]
    by_cases h : y.names = x.names
    · rw [decide_eq_true h]
      rcases List.mem_cons.1 hx with rfl | h1
      · rfl
      · exact absurd (List.mem_map.2 ⟨x, h1, h.symm⟩) hd.1
    · rw [decide_eq_false h]
      rcases List.mem_cons.1 hx with rfl | h1
      · exact absurd rfl h
      · exact ih hd.2 h1
theorem look_root {T : Tre} (h : WFT T) : lookT T [] = none := by
  unfold lookT
  rw [List.find?_eq_none]
  intro x hx e
  simp at e
  exact (h.val x hx).1 e
def isF (T : Tre) (p : List ByteArray) : Bool := match lookT T p with
  | some x => !x.dir
  | none => false
/-- The place of what stands at a path. -/
def idxT (T : Tre) (p : List ByteArray) : Nat := T.findIdx (fun x => decide (x.names = p))
/-- Going through names behind a path: 0, or 7: a file is to be gone through, or 6: there is no such name. -/
def findE (T : Tre) : List ByteArray → List ByteArray → Nat
  | _, [] => 0
  | pre, n :: r => if isF T pre then 7 else if (lookT T (pre ++ [n])).isNone then 6 else findE T (pre ++ [n]) r
theorem findE_ok {T : Tre} : ∀ {r pre : List ByteArray}, findE T pre r = 0 → (r ≠ [] → (lookT T (pre ++ r)).isSome)
  | [], _, _ => fun h => absurd rfl h
  | n :: r, pre, h => by
    intro _
    unfold findE at h
    split at h
    · cases h
    · split at h
      · cases h
      · rename_i h1 h2
        by_cases hr : r = []
        · subst hr
          cases hl : lookT T (pre ++ [n]) with
          | none => rw [hl] at h2; exact absurd rfl h2
          | some x => rfl
        · have := findE_ok h hr
          simpa using this
theorem findE_cases (T : Tre) : ∀ (r pre : List ByteArray), findE T pre r = 0 ∨ findE T pre r = 6 ∨ findE T pre r = 7
  | [], _ => .inl rfl
  | n :: r, pre => by
    unfold findE
    split
    · exact .inr (.inr rfl)
    · split
      · exact .inr (.inl rfl)
      · exact findE_cases T r _
/-- The names that stand in a directory, as they came. -/
def kidsU (T : Tre) (p : List ByteArray) : List ByteArray := (T.filter (fun x => decide (x.names.dropLast = p))).map (fun x => x.names.getLast?.getD ⟨#[]⟩)
theorem names_last {l : List ByteArray} (h : l ≠ []) : l.dropLast ++ [l.getLast?.getD ⟨#[]⟩] = l := by
  rw [List.getLast?_eq_some_getLast h]
  exact List.dropLast_concat_getLast h
theorem mem_kidsU {T : Tre} (h : WFT T) (p : List ByteArray) (n : ByteArray) : n ∈ kidsU T p ↔ (lookT T (p ++ [n])).isSome := by
  unfold kidsU
  rw [List.mem_map]
  constructor
  · rintro ⟨x, hx, rfl⟩
    rw [List.mem_filter] at hx
    have h1 := names_last (h.val x hx.1).1
    have h2 : x.names.dropLast = p := by simpa using hx.2
    rw [h2] at h1
    rw [h1, look_mem h.dis hx.1]
    rfl
  · intro hs
    obtain ⟨x, hx⟩ := Option.isSome_iff_exists.1 hs
    obtain ⟨h1, h2⟩ := look_some hx
    refine ⟨x, List.mem_filter.2 ⟨h1, by rw [h2]; simp⟩, by rw [h2]; simp⟩
theorem nodup_kidsU {T : Tre} (h : WFT T) (p : List ByteArray) : (kidsU T p).Nodup := by
  unfold kidsU
  have hd := h.dis
  have hv : ∀ x ∈ T, x.names ≠ [] := fun x hx => (h.val x hx).1
  clear h
  induction T with
  | nil => simp
  | cons y r ih =>
    rw [List.map_cons, List.nodup_cons] at hd
    have ih := ih hd.2 (fun x hx => hv x (by simp [hx]))
    rw [List.filter_cons]
    split
    · rename_i hy
      rw [List.map_cons, List.nodup_cons]
      refine ⟨fun hm => ?_, ih⟩
      obtain ⟨x, hx, he⟩ := List.mem_map.1 hm
      rw [List.mem_filter] at hx
      apply hd.1
      have e1 := names_last (hv x (by simp [hx.1]))
      have e2 := names_last (hv y (by simp))
      have h1 : x.names.dropLast = p := by simpa using hx.2
      have h2 : y.names.dropLast = p := by simpa using hy
      rw [h1, he] at e1
      rw [h2] at e2
      exact List.mem_map.2 ⟨x, hx.1, e1.symm.trans e2⟩
    · exact ih
/-- How strings stand in order. -/
def leB (a b : ByteArray) : Bool := decide (bl a ≤ bl b)
/-- The names that stand in a directory, in order. -/
def kidsT (T : Tre) (p : List ByteArray) : List ByteArray := (kidsU T p).mergeSort leB
theorem leB_trans : ∀ a b c : ByteArray, leB a b = true → leB b c = true → leB a c = true := by
  intro a b c h1 h2
  simp [leB] at *
  exact List.le_trans h1 h2
theorem leB_total : ∀ a b : ByteArray, (leB a b || leB b a) = true := by
  intro a b
  simp [leB]
  exact List.le_total _ _
theorem leB_anti {a b : ByteArray} (h1 : leB a b = true) (h2 : leB b a = true) : a = b := by
  simp [leB] at *
  exact bl_inj (List.le_antisymm h1 h2)
theorem kidsT_perm (T : Tre) (p : List ByteArray) : (kidsT T p).Perm (kidsU T p) := List.mergeSort_perm _ _
/-- Two lists in order of the same strings are the same. -/
theorem sorted_eq {l m : List ByteArray} (hp : l.Perm m) (hl : l.Pairwise (fun a b => leB a b = true)) (hm : m.Pairwise (fun a b => leB a b = true)) : l = m :=
  hp.eq_of_pairwise (fun _ _ _ _ h1 h2 => leB_anti h1 h2) hl hm
theorem kidsT_sorted (T : Tre) (p : List ByteArray) : (kidsT T p).Pairwise (fun a b => leB a b = true) := List.pairwise_mergeSort leB_trans leB_total _
theorem kidsT_eq {T : Tre} {p l : List ByteArray} (hp : l.Perm (kidsU T p)) (hl : l.Pairwise (fun a b => leB a b = true)) : l = kidsT T p := sorted_eq (hp.trans (kidsT_perm T p).symm) hl (kidsT_sorted T p)
theorem kids_len (T : Tre) (p : List ByteArray) : (kidsU T p).length ≤ T.length := by
  unfold kidsU
  rw [List.length_map]
  exact List.length_filter_le _ _
/-- A reason why a path's last name has no place: 0: none. -/
def spotE (T : Tre) (l : List ByteArray) : Nat := if findE T [] l.dropLast ≠ 0 then findE T [] l.dropLast else if isF T l.dropLast then 7 else 0
/-- Is there no room in a directory? -/
def fullT (T : Tre) (p : List ByteArray) : Bool := decide (16 ≤ (kidsU T p).length) || decide (256 ≤ T.length)
def setD (T : Tre) (l : List ByteArray) (d : ByteArray) : Tre := T.map (fun x => if x.names = l then { x with data := d } else x)
def putE (T : Tre) (l : List ByteArray) (d : ByteArray) : Nat := if 1536 < d.size then 11 else if spotE T l ≠ 0 then spotE T l else match lookT T l with
  | some x => if x.dir then 7 else 0
  | none => if fullT T l.dropLast then 10 else 0
def putT (T : Tre) (l : List ByteArray) (d : ByteArray) : Tre := if putE T l d ≠ 0 then T else match lookT T l with
  | some _ => setD T l d
  | none => T ++ [⟨l, false, d⟩]
def mkdirE (T : Tre) (l : List ByteArray) : Nat := if spotE T l ≠ 0 then spotE T l else if (lookT T l).isSome then 8 else if fullT T l.dropLast then 10 else 0
def mkdirT (T : Tre) (l : List ByteArray) : Tre := if mkdirE T l ≠ 0 then T else T ++ [⟨l, true, ⟨#[]⟩⟩]
def removeE (T : Tre) (l : List ByteArray) : Nat := if spotE T l ≠ 0 then spotE T l else if (lookT T l).isNone then 6 else if kidsU T l ≠ [] then 9 else 0
def dropT (T : Tre) (l : List ByteArray) : Tre := T.filter (fun x => decide (x.names ≠ l))
def removeT (T : Tre) (l : List ByteArray) : Tre := if removeE T l ≠ 0 then T else dropT T l
end Go.Proofs.YtapijhhmjjplmaaGreatDoor
namespace Go.Proofs.YtapijhhmjjplmaaGreatDoor
theorem look_append {T : Tre} {x : Itm} (h : lookT T x.names = none) (p : List ByteArray) : lookT (T ++ [x]) p = if p = x.names then some x else lookT T p := by
  unfold lookT
  rw [List.find?_append]
  by_cases e : p = x.names
  · rw [if_pos e, e]
    unfold lookT at h
    rw [h]
    simp
  · rw [if_neg e]
    have : ([x] : List Itm).find? (fun y => decide (y.names = p)) = none := by
      rw [List.find?_eq_none]
      intro y hy hd
      simp at hy
      subst hy
      simp at hd
      exact e hd.symm
    rw [this, Option.or_none]
theorem look_setD (T : Tre) (l : List ByteArray) (d : ByteArray) (p : List ByteArray) : lookT (setD T l d) p = (lookT T p).map (fun x => if p = l then { x with data := d } else x) := by
  unfold lookT setD
  induction T with
  | nil => rfl
  | cons y r ih =>
    rw [List.map_cons, List.find?_cons, List.find?_cons]
    have hn : (if y.names = l then { y with data := d } else y).names = y.names := by split <;> rfl
    rw [hn]
    by_cases e : y.names = p
    · rw [decide_eq_true e]
      simp [e]
    · rw [decide_eq_false e]
      exact ih
theorem look_dropT (T : Tre) (l p : List ByteArray) : lookT (dropT T l) p = if p = l then none else lookT T p := by
  unfold lookT dropT
  induction T with
  | nil => simp
  | cons y r ih =>
    rw [List.filter_cons]
    by_cases e : y.names = l
    · rw [if_neg (by simpa using e), ih]
      by_cases ep : p = l
      · rw [if_pos ep, if_pos ep]
      · rw [if_neg ep, if_neg ep, List.find?_cons, decide_eq_false (by rw [e]; exact fun h => ep h.symm)]
    · rw [if_pos (by simpa using e), List.find?_cons, ih]
      by_cases ey : y.names = p
      · have hpl : p ≠ l := by rw [← ey]; exact e
        simp only [if_neg hpl, List.find?_cons, decide_eq_true ey]
      · rw [decide_eq_false ey, List.find?_cons, decide_eq_false ey]
theorem names_setD (T : Tre) (l : List ByteArray) (d : ByteArray) : (setD T l d).map (·.names) = T.map (·.names) := by
  unfold setD
  rw [List.map_map]
  apply List.map_congr_left
  intro x _
  show (if x.names = l then { x with data := d } else x).names = x.names
  split <;> rfl
theorem spot_dir {T : Tre} {l : List ByteArray} (h : spotE T l = 0) (hl : l.dropLast ≠ []) : ∃ y, lookT T l.dropLast = some y ∧ y.dir = true := by
  unfold spotE at h
  split at h
  · rename_i h1; exact absurd h h1
  · rename_i h1
    split at h
    · cases h
    · rename_i h2
      have h3 := findE_ok (Decidable.not_not.1 h1) hl
      rw [List.nil_append] at h3
      obtain ⟨y, hy⟩ := Option.isSome_iff_exists.1 h3
      refine ⟨y, hy, ?_⟩
      unfold isF at h2
      rw [hy] at h2
      simpa using h2
theorem WFT.append {T : Tre} (h : WFT T) {l : List ByteArray} (hv : Valid l) (h8 : l.length ≤ 8) (h0 : l ≠ []) (hs : spotE T l = 0) (hn : lookT T l = none) (hf : fullT T l.dropLast = false) (b : Bool) (d : ByteArray) (hb : b = true → d = ⟨#[]⟩) (hd : d.size ≤ 1536) : WFT (T ++ [⟨l, b, d⟩]) := by
  have hlk : ∀ p y, lookT T p = some y → lookT (T ++ [⟨l, b, d⟩]) p = some y := fun p y hy => by
    rw [look_append (x := ⟨l, b, d⟩) hn p, if_neg (fun e => ?_), hy]
    rw [e] at hy
    have : lookT T l = some y := hy
    rw [hn] at this
    cases this
  refine ⟨fun x hx => ?_, ?_, fun x hx hu => ?_, ?_, fun x hx => ?_, fun x hx => ?_⟩
  · rcases List.mem_append.1 hx with h1 | h1
    · exact h.val x h1
    · simp at h1
      subst h1
      exact ⟨h0, h8, hv⟩
  · rw [List.map_append, List.nodup_append]
    refine ⟨h.dis, by simp, ?_⟩
    intro a ha c hc e
    simp at hc
    rw [List.mem_map] at ha
    obtain ⟨x, hx, rfl⟩ := ha
    exact look_none hn x hx (e.trans hc)
  · rcases List.mem_append.1 hx with h1 | h1
    · obtain ⟨y, hy, hd⟩ := h.up x h1 hu
      exact ⟨y, hlk _ _ hy, hd⟩
    · simp at h1
      subst h1
      obtain ⟨y, hy, hd⟩ := spot_dir hs hu
      exact ⟨y, hlk _ _ hy, hd⟩
  · unfold fullT at hf
    rw [Bool.or_eq_false_iff] at hf
    have := hf.2
    simp at this ⊢
    omega
  · rcases List.mem_append.1 hx with h1 | h1
    · exact h.fil x h1
    · simp at h1
      subst h1
      exact hb
  · rcases List.mem_append.1 hx with h1 | h1
    · exact h.big x h1
    · simp at h1
      subst h1
      exact hd
theorem WFT.set {T : Tre} (h : WFT T) {l : List ByteArray} {x : Itm} (hx : lookT T l = some x) (hd : x.dir = false) (d : ByteArray) (hs : d.size ≤ 1536) : WFT (setD T l d) := by
  have hm : ∀ y ∈ setD T l d, ∃ z ∈ T, y.names = z.names ∧ y.dir = z.dir ∧ (y.data = z.data ∨ (z.names = l ∧ y.data = d)) := by
    intro y hy
    unfold setD at hy
    rw [List.mem_map] at hy
    obtain ⟨z, hz, rfl⟩ := hy
    refine ⟨z, hz, ?_⟩
    split
    · rename_i e; exact ⟨rfl, rfl, .inr ⟨e, rfl⟩⟩
    · exact ⟨rfl, rfl, .inl rfl⟩
  refine ⟨fun y hy => ?_, ?_, fun y hy hu => ?_, ?_, fun y hy hb => ?_, fun y hy => ?_⟩
  · obtain ⟨z, hz, e, -⟩ := hm y hy
    rw [e]
    exact h.val z hz
  · rw [names_setD]; exact h.dis
  · obtain ⟨z, hz, e, -⟩ := hm y hy
    rw [e] at hu ⊢
    obtain ⟨q, hq, hqd⟩ := h.up z hz hu
    rw [look_setD, hq]
    refine ⟨_, rfl, ?_⟩
    split
    · exact hqd
    · exact hqd
  · unfold setD; rw [List.length_map]; exact h.len
  · obtain ⟨z, hz, e, e2, e3 | ⟨e3, e4⟩⟩ := hm y hy
    · rw [e3]; exact h.fil z hz (e2 ▸ hb)
    · have h1 := look_mem h.dis hz
      rw [e3, hx] at h1
      cases h1
      rw [e2, hd] at hb
      cases hb
  · obtain ⟨z, hz, e, e2, e3 | ⟨e3, e4⟩⟩ := hm y hy
    · rw [e3]; exact h.big z hz
    · rw [e4]; exact hs
theorem WFT.drop {T : Tre} (h : WFT T) {l : List ByteArray} (hk : kidsU T l = []) : WFT (dropT T l) := by
  have hm : ∀ x, x ∈ dropT T l → x ∈ T ∧ x.names ≠ l := fun x hx => by
    unfold dropT at hx
    rw [List.mem_filter] at hx
    exact ⟨hx.1, by simpa using hx.2⟩
  refine ⟨fun x hx => h.val x (hm x hx).1, ?_, fun x hx hu => ?_, ?_, fun x hx => h.fil x (hm x hx).1, fun x hx => h.big x (hm x hx).1⟩
  · have hs : (dropT T l).map (·.names) |>.Sublist (T.map (·.names)) := List.Sublist.map _ List.filter_sublist
    exact hs.nodup h.dis
  · obtain ⟨y, hy, hd⟩ := h.up x (hm x hx).1 hu
    refine ⟨y, ?_, hd⟩
    rw [look_dropT, if_neg (fun e => ?_), hy]
    have h1 : x.names.getLast?.getD ⟨#[]⟩ ∈ kidsU T l := by
      rw [mem_kidsU h]
      rw [← e, names_last (h.val x (hm x hx).1).1, look_mem h.dis (hm x hx).1]
      rfl
    rw [hk] at h1
    cases h1
  · unfold dropT
    exact Nat.le_trans (List.length_filter_le _ _) h.len
theorem dropT_length {T : Tre} (h : (T.map (·.names)).Nodup) {l : List ByteArray} {x : Itm} (hx : lookT T l = some x) : (dropT T l).length + 1 = T.length := by
  induction T with
  | nil => cases hx
  | cons y r ih =>
    rw [List.map_cons, List.nodup_cons] at h
    unfold dropT
    rw [List.filter_cons]
    by_cases e : y.names = l
    · rw [if_neg (by simpa using e)]
      have : r.filter (fun x => decide (x.names ≠ l)) = r := by
        rw [List.filter_eq_self]
        intro z hz
        simp
        intro ez
        exact h.1 (List.mem_map.2 ⟨z, hz, ez.trans e.symm⟩)
      rw [this, List.length_cons]
    · rw [if_pos (by simpa using e), List.length_cons, List.length_cons]
      have : lookT r l = some x := by
        unfold lookT at hx ⊢
        rw [List.find?_cons, decide_eq_false e] at hx
        exact hx
      have := ih h.2 this
      unfold dropT at this
      omega
theorem WFT.nil : WFT [] := ⟨by simp, by simp, by simp, by simp, by simp, by simp⟩
end Go.Proofs.YtapijhhmjjplmaaGreatDoor
namespace Go.Proofs.YtapijhhmjjplmaaGreatDoor
open Go.RowKit
theorem infoStr9 : (Tryz.prog.info? 9).map (fun i => (i.zero, i.size, i.bytes)) = some (some (.string ⟨#[]⟩), 1, 16) := by kernel_rfl
theorem bl_get (s : ByteArray) (k : Nat) (h : k < s.size) : (bl s)[k]? = some s[k] := by
  show s.data.toList[k]? = _
  rw [Array.getElem?_toList]
  exact Array.getElem?_eq_getElem h
theorem take_all_snoc (s : ByteArray) (k : Nat) (h : k < s.size) : ((bl s).take (k + 1)).all okB = (((bl s).take k).all okB && okB s[k]) := by
  have h1 : k < (bl s).length := by rw [bl_length]; exact h
  rw [List.take_succ_eq_append_getElem h1, List.all_append]
  have e : (bl s)[k] = s[k] := by
    have := bl_get s k h
    rw [List.getElem?_eq_getElem h1] at this
    exact Option.some.inj this
  rw [e, List.all_cons, List.all_nil, Bool.and_true]
  rfl
theorem take_all_false (l : List UInt8) (k : Nat) (h : (l.take k).all okB = false) : nmL l = false := by
  unfold nmL
  have : l.all okB = false := by
    cases hl : l.all okB
    · rfl
    · rw [List.all_eq_true] at hl
      have : (l.take k).all okB = true := List.all_eq_true.2 fun x hx => hl x (List.mem_of_mem_take hx)
      rw [h] at this
      cases this
  rw [this]
  rfl
theorem okB_cases (c : UInt8) : (okB c = true ∧ ((97 ≤ c.toNat ∧ c.toNat ≤ 122) ∨ (48 ≤ c.toNat ∧ c.toNat ≤ 57) ∨ c.toNat = 46 ∨ c.toNat = 95 ∨ c.toNat = 45)) ∨
    (okB c = false ∧ (c.toNat < 45 ∨ c.toNat = 47 ∨ (58 ≤ c.toNat ∧ c.toNat ≤ 94) ∨ c.toNat = 96 ∨ (123 ≤ c.toNat ∧ c.toNat ≤ 255))) := by
  have hb : c.toNat < 256 := c.toNat_lt
  cases h : okB c
  · refine .inr ⟨rfl, ?_⟩
    simp [okB] at h
    omega
  · refine .inl ⟨rfl, ?_⟩
    simp [okB] at h
    omega
set_option maxRecDepth 100000 in
set_option maxHeartbeats 1000000 in
theorem ref_name (s : ByteArray) (w : World) (hs : s.size ≤ 1000000) :
    Calls Tryz.prog 257 #[.string s] w fun e w' => e = .returned (.bool (nmB s)) ∧ w = w' := by
  have hsi : (s.size : Int) ≤ 1000000 := by omega
  have hnot : ∀ (x : Bool) (w : World), (Op.unary .not (.bool x)).run Tryz.prog w = .ok (.bool (!x)) w := fun _ _ => rfl
  go_enter Tryz.func257, Tryz.ntmps257
  go_wp2
  go_loop [3] (fun i => ∃ k : Nat, k ≤ s.size ∧ i = .int .i64 k ∧ Hid (((bl s).take k).all okB = true)) (fun i => s.size - (intOf i).toNat)
  case atStart => exact ⟨0, Nat.zero_le _, rfl, rfl⟩
  case round =>
    obtain ⟨k, hk, rfl, Hk⟩ := hrel
    by_cases hlt : k < s.size
    · obtain ⟨n, hn⟩ : ∃ n, n = s[k].toNat := ⟨_, rfl⟩
      have HT := take_all_snoc s k hlt
      have HTT : Hid (((bl s).take (k + 1)).all okB = (((bl s).take k).all okB && okB s[k])) := HT
      rcases okB_cases s[k] with ⟨h1, h2⟩ | ⟨h1, h2⟩
      · rw [← hn] at h2
        have HN : Hid (((bl s).take (k + 1)).all okB = true) := by
          show _ = _
          rw [HT, Hk.out, h1]; rfl
        clear HT HTT h1
        subst hn
        rcases h2 with ⟨h2, h3⟩ | ⟨h2, h3⟩ | h2 | h2 | h2
        all_goals go_wp2
        all_goals
          go_round
          case rel => exact ⟨k + 1, by omega, by go_num, HN⟩
          case measure => (simp [intOf]; try omega)
      · rw [← hn] at h2
        have HN : Hid (nmB s = false) := take_all_false _ (k + 1) (by rw [HT, h1, Bool.and_false])
        clear HT HTT h1
        subst hn
        have e1 : ((s[k].toNat : Int) == 46) = false := by rw [beq_eq_false_iff_ne]; omega
        have e2 : ((s[k].toNat : Int) == 95) = false := by rw [beq_eq_false_iff_ne]; omega
        have e3 : ((s[k].toNat : Int) == 45) = false := by rw [beq_eq_false_iff_ne]; omega
        rcases h2 with h2 | h2 | ⟨h2, h3⟩ | h2 | ⟨h2, h3⟩
        all_goals go_wp2
        all_goals first
          | (go_ret; exact ⟨by rw [HN.out]; rfl, rfl⟩)
          | (exfalso; rename_i hx; simp at hx; omega)
    · have hks : k = s.size := by omega
      subst hks
      have hall : (bl s).all okB = true := by
        have := Hk.out
        rw [List.take_of_length_le (by rw [bl_length]; exact Nat.le_refl _)] at this
        exact this
      have HN : Hid (nmB s = (decide (1 ≤ s.size) && decide (s.size ≤ 16))) := by
        show nmL (bl s) = _
        unfold nmL
        rw [hall, bl_length]
        rfl
      clear hall Hk
      by_cases h1 : 1 ≤ s.size
      · by_cases h2 : s.size ≤ 16
        · go_wp2
          go_ret
          refine ⟨?_, rfl⟩
          rw [HN.out, decide_eq_true h1, decide_eq_true h2]
          show Ending.returned (Value.bool (decide ((s.size : Int) ≤ 16))) = _
          rw [decide_eq_true (by omega)]
          rfl
        · go_wp2
          go_ret
          refine ⟨?_, rfl⟩
          rw [HN.out, decide_eq_true h1, decide_eq_false h2]
          show Ending.returned (Value.bool (decide ((s.size : Int) ≤ 16))) = _
          rw [decide_eq_false (by omega)]
          rfl
      · go_wp2
        go_ret
        refine ⟨?_, rfl⟩
        rw [HN.out, decide_eq_false h1]
        rfl
theorem str_beq (x y : ByteArray) : (x.toList == y.toList) = decide (x = y) := by
  rw [ByteArray.toList_eq, ByteArray.toList_eq]
  by_cases h : x = y
  · rw [decide_eq_true h, h, beq_self_eq_true]
  · rw [decide_eq_false h, beq_eq_false_iff_ne]
    exact fun e => h (bl_inj e)
set_option maxRecDepth 100000 in
theorem ref_join (p n : ByteArray) (w : World) (hs : p.size + n.size ≤ 1000000) :
    Calls Tryz.prog 197 #[.string p, .string n] w fun e w' => e = .returned (.string (jn p n)) ∧ w = w' := by
  by_cases h : p.size = 0
  · have e := size_zero h
    subst e
    go_enter Tryz.func197, Tryz.ntmps197
    go_wp2
    go_ret
    exact ⟨rfl, rfl⟩
  · have hne : p.toList.isEmpty = false := by
      rw [ByteArray.toList_eq]
      cases hp : p.data.toList with
      | nil => exact absurd (by rw [← bl_length]; unfold bl; rw [hp]; rfl) h
      | cons _ _ => rfl
    have hj : jn p n = p ++ ⟨#[47]⟩ ++ n := by unfold jn; rw [if_neg h]; rfl
    rw [hj]
    go_enter Tryz.func197, Tryz.ntmps197
    go_wp2
    go_ret
    exact ⟨rfl, rfl⟩
end Go.Proofs.YtapijhhmjjplmaaGreatDoor
namespace Go.Proofs.YtapijhhmjjplmaaGreatDoor
open Go.RowKit Go.Maps
def zb (n : Nat) : ByteArray := ⟨(List.replicate n (0 : UInt8)).toArray⟩
theorem zb_size (n : Nat) : (zb n).size = n := by
  show (List.replicate n (0 : UInt8)).toArray.size = n
  simp
theorem z64_bl : bl z64 = List.replicate 64 0 := rfl
set_option maxRecDepth 100000 in
theorem zeros_n (n : Nat) (h0 : 0 < n) (hn : n ≤ 1024) (w : World) : Calls Tryz.prog 111 #[.int .i64 (n : Int)] w fun e w' => e = .returned (.string (zb n)) ∧ Below w.heap.size w w' := by
  have hmk : ∀ w, (Instr.makeSlice 134 (.int .i64 (n : Int)) (.int .i64 (n : Int))).run Tryz.prog w = .ok (.slice (some ⟨w.heap.size, 0, none⟩) n n) (w.alloc (.cells (madeCells #[.int .u8 0] n) 5)) := fun w =>
    run_make_row' (P := Tryz.prog) 134 5 (.int .u8 0) 1 Tryz.underlying134 infoByte rfl .i64 .i64 n (by omega) (by omega) w
  have hcv : (convert 134 9 (.slice (some ⟨w.heap.size, 0, none⟩) n n)).run Tryz.prog (w.alloc (.cells (madeCells #[.int .u8 0] n) 5)) = .ok (.string (zb n)) (w.alloc (.cells (madeCells #[.int .u8 0] n) 5)) := by
    have h := run_convert_bytes_back (P := Tryz.prog) (w.alloc (.cells (madeCells #[.int .u8 0] n) 5)) 134 9 5 ⟨w.heap.size, 0, none⟩ n (List.replicate n 0) Tryz.underlying134 Tryz.underlying5 Tryz.underlying9 ?_
    · rw [List.length_replicate] at h
      exact h
    · intro j hj
      rw [List.length_replicate] at hj
      have e1 : (⟨w.heap.size, 0, none⟩ : Addr).add j = ⟨w.heap.size, j, none⟩ := by unfold Addr.add; split <;> simp_all
      rw [e1, cell_of_row _ _ _ _ _ _ (heap_alloc_new w _), List.getElem_replicate]
      simp [madeCells, hj, Nat.mod_one]
  go_enter Tryz.func111, Tryz.ntmps111
  go_wp2
  go_ret
  exact ⟨rfl, (Below.refl _ _).alloc (Nat.le_refl _) _⟩
/-- A number's four bytes. -/
def fb (n : Nat) : ByteArray := ⟨(four4 n).toArray⟩
theorem fb_size (n : Nat) : (fb n).size = 4 := rfl
def mark8 : ByteArray := ⟨#[97, 114, 99, 104, 105, 118, 101, 49]⟩
def headT (n : Nat) : ByteArray := mark8 ++ fb n
/-- Sector 0's sum, and sector 0. -/
def headC (n : Nat) : Nat := crcN (headT n).data.toList
def headS (n : Nat) : ByteArray := headT n ++ fb (headC n) ++ zb 48
theorem headT_size (n : Nat) : (headT n).size = 12 := by unfold headT; rw [ByteArray.size_append, fb_size]; rfl
theorem headTT_size (n : Nat) : (headT n ++ fb (headC n)).size = 16 := by rw [ByteArray.size_append, headT_size, fb_size]
theorem headS_size (n : Nat) : (headS n).size = 64 := by unfold headS; rw [ByteArray.size_append, headTT_size, zb_size]
theorem headC_lt (n : Nat) : headC n < w32 := by
  unfold headC crcN w32
  omega
theorem head_ne (n : Nat) : headS n ≠ z64 := by
  intro e
  have h := congrArg (fun s : ByteArray => (bl s)[0]?) e
  simp only [headS, headT, bl_append] at h
  revert h
  show (some (97 : UInt8)) = some 0 → False
  decide
set_option maxRecDepth 100000 in
theorem ref_padded (s : ByteArray) (w : World) (hs : s.size = 16) : Calls Tryz.prog 252 #[.string s] w fun e w' => e = .returned (.string (s ++ zb 48)) ∧ Below w.heap.size w w' := by
  have HZ : Hid (Calls Tryz.prog 111 #[.int .i64 48] w fun e w' => e = .returned (.string (zb 48)) ∧ Below w.heap.size w w') := zeros_n 48 (by omega) (by omega) w
  have hsi : (s.size : Int) = 16 := by omega
  obtain ⟨z, hz⟩ : ∃ z, z = zb 48 := ⟨_, rfl⟩
  rw [← hz] at HZ ⊢
  have hzs : z.size = 48 := by rw [hz]; exact zb_size 48
  clear hz
  go_enter Tryz.func252, Tryz.ntmps252
  go_wp2_with (go_at_call 111; refine HZ.out.mono ?_; rintro e w1 ⟨rfl, hb⟩; have HB : Hid (Below w.heap.size w w1) := hb; clear hb)
  go_ret
  exact ⟨rfl, HB.out⟩
set_option maxRecDepth 100000 in
theorem ref_super (n : Nat) (w : World) (hn : n ≤ 4096) : Calls Tryz.prog 188 #[.int .i64 (n : Int)] w fun e w' => e = .returned (.tuple #[.string (headS n), .int .i64 (headC n : Int)]) ∧ Below w.heap.size w w' := by
  have H1 : Hid (∀ w, Calls Tryz.prog 109 #[.int .i64 (n : Int)] w fun e w' => e = .returned (.string (fb n)) ∧ Below w.heap.size w w') := fun w => four_any n w (by omega)
  have H2 : Hid (∀ w, Calls Tryz.prog 109 #[.int .i64 (headC n : Int)] w fun e w' => e = .returned (.string (fb (headC n))) ∧ Below w.heap.size w w') := fun w => four_any (headC n) w (by have := headC_lt n; unfold w32 at this; omega)
  have H3 : Hid (∀ w, Calls Tryz.prog 68 #[.string (headT n)] w fun e w' => e = .returned (.int .i64 (headC n : Int)) ∧ w = w') := fun w => refCrc (headT n) w (by rw [headT_size]; omega)
  have H4 : Hid (∀ w, Calls Tryz.prog 252 #[.string (headT n ++ fb (headC n))] w fun e w' => e = .returned (.string (headS n)) ∧ Below w.heap.size w w') := fun w => ref_padded _ w (headTT_size n)
  obtain ⟨t, ht⟩ : ∃ t, t = headT n := ⟨_, rfl⟩
  obtain ⟨c, hc⟩ : ∃ c, c = headC n := ⟨_, rfl⟩
  obtain ⟨s, hs⟩ : ∃ s, s = headS n := ⟨_, rfl⟩
  obtain ⟨f, hf⟩ : ∃ f, f = fb n := ⟨_, rfl⟩
  obtain ⟨g, hg⟩ : ∃ g, g = fb (headC n) := ⟨_, rfl⟩
  have htf : mark8 ++ f = t := by rw [ht, hf]; rfl
  have hfs : f.size = 4 := by rw [hf]; rfl
  have hgs : g.size = 4 := by rw [hg]; rfl
  have hts : t.size = 12 := by rw [ht]; exact headT_size n
  rw [← hg] at H2 H4
  rw [← ht] at H3 H4
  rw [← hc] at H2 H3 ⊢
  rw [← hs] at H4 ⊢
  rw [← hf] at H1
  unfold mark8 at htf
  clear ht hc hs hf hg
  go_enter Tryz.func188, Tryz.ntmps188
  go_wp2_with (go_at_call 109; refine (H1.out _).mono ?_; rintro e w1 ⟨rfl, hb1⟩; have HB1 : Hid (Below w.heap.size w w1) := hb1; clear hb1 H1)
  go_wp2_with (first | (go_at_call 68; refine (H3.out _).mono ?_; rintro e w2 ⟨rfl, rfl⟩; clear H3) | (go_at_call 109; refine (H2.out _).mono ?_; rintro e w3 ⟨rfl, hb3⟩; have HB3 : Hid (Below w.heap.size w w3) := HB1.out.trans (hb3.mono HB1.out.size); clear hb3 H2) | (go_at_call 252; refine (H4.out _).mono ?_; rintro e w4 ⟨rfl, hb4⟩; have HB4 : Hid (Below w.heap.size w w4) := HB3.out.trans (hb4.mono HB3.out.size); clear hb4 H4))
  refine bodyPost_ret (results_tmp2 rfl _ _ _) rfl ?_
  exact ⟨rfl, HB4.out⟩
end Go.Proofs.YtapijhhmjjplmaaGreatDoor
namespace Go.Proofs
open Go.Shelf
def Tryz.lays105_ren : Go.Shelf.Ren := ⟨fun | 105 => 139 | 212 => 208 | 99 => 209 | 165 => 210 | 166 => 211 | 170 => 212 | 169 => 213 | 263 => 258 | 264 => 259 | 206 => 260 | 240 => 261 | 241 => 262 | 276 => 282 | 277 => 283 | n => n, fun | 9 => 9 | 3 => 3 | 4 => 4 | 20 => 20 | 0 => 0 | 46 => 143 | 109 => 346 | 5 => 5 | 72 => 282 | 76 => 186 | 51 => 81 | 146 => 399 | 53 => 304 | 148 => 401 | 70 => 280 | 37 => 134 | 75 => 92 | 127 => 403 | 164 => 244 | 80 => 349 | n => n, fun | n => n⟩
theorem Tryz.lays105 : Go.Proofs.Lays.n105 Tryz.prog Tryz.lays105_ren := {
  mixed := by kernel_rfl
  f99 := Tryz.func209.trans (congrArg some (by kernel_rfl))
  f105 := Tryz.func139.trans (congrArg some (by kernel_rfl))
  f165 := Tryz.func210.trans (congrArg some (by kernel_rfl))
  f166 := Tryz.func211.trans (congrArg some (by kernel_rfl))
  f169 := Tryz.func213.trans (congrArg some (by kernel_rfl))
  f170 := Tryz.func212.trans (congrArg some (by kernel_rfl))
  f206 := Tryz.func260.trans (congrArg some (by kernel_rfl))
  f212 := Tryz.func208.trans (congrArg some (by kernel_rfl))
  f240 := Tryz.func261.trans (congrArg some (by kernel_rfl))
  f241 := Tryz.func262.trans (congrArg some (by kernel_rfl))
  f263 := Tryz.func258.trans (congrArg some (by kernel_rfl))
  f264 := Tryz.func259.trans (congrArg some (by kernel_rfl))
  f276 := Tryz.func282.trans (congrArg some (by kernel_rfl))
  f277 := Tryz.func283.trans (congrArg some (by kernel_rfl))
  t0 := Tryz.underlying0
  a0 := Tryz.isAgg0
  z0 := Tryz.sizeOf0
  v0 := Tryz.zeroValue0
  t3 := Tryz.underlying3
  a3 := Tryz.isAgg3
  z3 := Tryz.sizeOf3
  v3 := Tryz.zeroValue3
  t4 := Tryz.underlying4
  a4 := Tryz.isAgg4
  z4 := Tryz.sizeOf4
  v4 := Tryz.zeroValue4
  t5 := Tryz.underlying5
  a5 := Tryz.isAgg5
  z5 := Tryz.sizeOf5
  v5 := Tryz.zeroValue5
  t9 := Tryz.underlying9
  a9 := Tryz.isAgg9
  z9 := Tryz.sizeOf9
  v9 := Tryz.zeroValue9
  t20 := Tryz.underlying20
  a20 := Tryz.isAgg20
  z20 := Tryz.sizeOf20
  v20 := Tryz.zeroValue20
  t37 := Tryz.underlying134
  a37 := Tryz.isAgg134
  z37 := Tryz.sizeOf134
  v37 := Tryz.zeroValue134
  t46 := Tryz.underlying143
  a46 := Tryz.isAgg143
  z46 := Tryz.sizeOf143
  v46 := Tryz.zeroValue143
  t51 := Tryz.underlying81
  a51 := Tryz.isAgg81
  z51 := Tryz.sizeOf81
  v51 := Tryz.zeroValue81
  t53 := Tryz.underlying304
  a53 := Tryz.isAgg304
  z53 := Tryz.sizeOf304
  v53 := Tryz.zeroValue304
  t70 := Tryz.underlying280
  a70 := Tryz.isAgg280
  z70 := Tryz.sizeOf280
  v70 := Tryz.zeroValue280
  t72 := Tryz.underlying282
  a72 := Tryz.isAgg282
  z72 := Tryz.sizeOf282
  v72 := Tryz.zeroValue282
  t75 := Tryz.underlying92
  a75 := Tryz.isAgg92
  z75 := Tryz.sizeOf92
  v75 := Tryz.zeroValue92
  t76 := Tryz.underlying186
  a76 := Tryz.isAgg186
  z76 := Tryz.sizeOf186
  v76 := Tryz.zeroValue186
  t109 := Tryz.underlying346
  a109 := Tryz.isAgg346
  z109 := Tryz.sizeOf346
  v109 := Tryz.zeroValue346
  t127 := Tryz.underlying403
  a127 := Tryz.isAgg403
  z127 := Tryz.sizeOf403
  v127 := Tryz.zeroValue403
  t146 := Tryz.underlying399
  a146 := Tryz.isAgg399
  z146 := Tryz.sizeOf399
  v146 := Tryz.zeroValue399
  t148 := Tryz.underlying401
  a148 := Tryz.isAgg401
  z148 := Tryz.sizeOf401
  v148 := Tryz.zeroValue401
  t164 := Tryz.underlying244
  a164 := Tryz.isAgg244
  z164 := Tryz.sizeOf244
  v164 := Tryz.zeroValue244 }
theorem Tryz.Builder_Extra_105 : Builder.Extra Tryz.prog Tryz.lays105_ren := {
  sizeBuilder := by kernel_rfl
  liesBuilder := by kernel_rfl
  t5 := Tryz.underlying5
  a5 := Tryz.isAgg5
  z5 := Tryz.sizeOf5
  v5 := Tryz.zeroValue5
  infoByte := by kernel_rfl
  cellsByte := by kernel_rfl
  sizeByte := by kernel_rfl
  neB5 := by decide }
open Go.RowKit Go.Lib in
theorem Tryz.strings_Repeat (s : ByteArray) (c : Nat) (w : World) (hc : c ≤ 9223372036854775807) (hlen : s.size * c ≤ 140737488355328) :
    Calls Tryz.prog 139 #[.string s, .int .i64 c] w fun e w' => e = .returned (.string ⟨(Lib.repeatL s.data.toList c).toArray⟩) ∧ Below w.heap.size w w' := Any.strings_Repeat Tryz.lays105 Tryz.Builder_Extra_105 s c w hc hlen
def Tryz.lays147_ren : Go.Shelf.Ren := ⟨fun | 147 => 156 | 221 => 227 | 268 => 269 | 138 => 270 | 143 => 271 | 195 => 286 | 197 => 287 | 218 => 288 | 219 => 289 | 260 => 296 | 217 => 297 | 225 => 298 | 224 => 299 | 267 => 300 | 266 => 314 | 314 => 315 | n => n, fun | 9 => 9 | 3 => 3 | 31 => 35 | 4 => 4 | 0 => 0 | 105 => 423 | 21 => 21 | 5 => 5 | 46 => 143 | 119 => 440 | 139 => 443 | 138 => 442 | 146 => 399 | 51 => 81 | n => n, fun | 1 => 15 | 3 => 16 | 4 => 17 | n => n⟩
theorem Tryz.lays147 : Go.Proofs.Lays.n147 Tryz.prog Tryz.lays147_ren := {
  mixed := by kernel_rfl
  f138 := Tryz.func270.trans (congrArg some (by kernel_rfl))
  f143 := Tryz.func271.trans (congrArg some (by kernel_rfl))
  f147 := Tryz.func156.trans (congrArg some (by kernel_rfl))
  f195 := Tryz.func286.trans (congrArg some (by kernel_rfl))
  f197 := Tryz.func287.trans (congrArg some (by kernel_rfl))
  f217 := Tryz.func297.trans (congrArg some (by kernel_rfl))
  f218 := Tryz.func288.trans (congrArg some (by kernel_rfl))
  f219 := Tryz.func289.trans (congrArg some (by kernel_rfl))
  f221 := Tryz.func227.trans (congrArg some (by kernel_rfl))
  f224 := Tryz.func299.trans (congrArg some (by kernel_rfl))
  f225 := Tryz.func298.trans (congrArg some (by kernel_rfl))
  f260 := Tryz.func296.trans (congrArg some (by kernel_rfl))
  f266 := Tryz.func314.trans (congrArg some (by kernel_rfl))
  f267 := Tryz.func300.trans (congrArg some (by kernel_rfl))
  f268 := Tryz.func269.trans (congrArg some (by kernel_rfl))
  f314 := Tryz.func315.trans (congrArg some (by kernel_rfl))
  t0 := Tryz.underlying0
  a0 := Tryz.isAgg0
  z0 := Tryz.sizeOf0
  v0 := Tryz.zeroValue0
  t3 := Tryz.underlying3
  a3 := Tryz.isAgg3
  z3 := Tryz.sizeOf3
  v3 := Tryz.zeroValue3
  t4 := Tryz.underlying4
  a4 := Tryz.isAgg4
  z4 := Tryz.sizeOf4
  v4 := Tryz.zeroValue4
  t5 := Tryz.underlying5
  a5 := Tryz.isAgg5
  z5 := Tryz.sizeOf5
  v5 := Tryz.zeroValue5
  t9 := Tryz.underlying9
  a9 := Tryz.isAgg9
  z9 := Tryz.sizeOf9
  v9 := Tryz.zeroValue9
  t21 := Tryz.underlying21
  a21 := Tryz.isAgg21
  z21 := Tryz.sizeOf21
  v21 := Tryz.zeroValue21
  t31 := Tryz.underlying35
  a31 := Tryz.isAgg35
  z31 := Tryz.sizeOf35
  v31 := Tryz.zeroValue35
  t46 := Tryz.underlying143
  a46 := Tryz.isAgg143
  z46 := Tryz.sizeOf143
  v46 := Tryz.zeroValue143
  t51 := Tryz.underlying81
  a51 := Tryz.isAgg81
  z51 := Tryz.sizeOf81
  v51 := Tryz.zeroValue81
  t105 := Tryz.underlying423
  a105 := Tryz.isAgg423
  z105 := Tryz.sizeOf423
  v105 := Tryz.zeroValue423
  t119 := Tryz.underlying440
  a119 := Tryz.isAgg440
  z119 := Tryz.sizeOf440
  t138 := Tryz.underlying442
  a138 := Tryz.isAgg442
  z138 := Tryz.sizeOf442
  v138 := Tryz.zeroValue442
  t139 := Tryz.underlying443
  a139 := Tryz.isAgg443
  z139 := Tryz.sizeOf443
  v139 := Tryz.zeroValue443
  t146 := Tryz.underlying399
  a146 := Tryz.isAgg399
  z146 := Tryz.sizeOf399
  v146 := Tryz.zeroValue399
  g1 := by kernel_rfl
  g3 := by kernel_rfl
  g4 := by kernel_rfl }
open Go.RowKit Go.Lib in
theorem Tryz.strings_SplitN (s sep : ByteArray) (n : Nat) (m : Int) (w : World) (hs : s.size < 4294967281) (hm : w.cell? ⟨15, 0, none⟩ = some (.int .i64 m)) (h1 : 1 ≤ sep.size) (hn : 1 ≤ n) (hn63 : n ≤ 9223372036854775807) :
    Calls Tryz.prog 156 #[.string s, .string sep, .int .i64 n] w fun e w' =>
      e = .returned (.slice (some ⟨w.heap.size, 0, none⟩) (Lib.splitB sep 0 (min n (s.size + 1) - 1) s).length (min n (s.size + 1))) ∧ w' = w.alloc (.cells (Lib.cellsOf (Lib.splitB sep 0 (min n (s.size + 1) - 1) s) (min n (s.size + 1))) 9) := Any.strings_SplitN Tryz.lays147 (by kernel_rfl) s sep n m w hs hm h1 hn hn63
def Tryz.laysM316_ren : Go.Shelf.Ren := ⟨fun | 316 => 229 | n => n, fun | 9 => 9 | 3 => 3 | 4 => 4 | 37 => 134 | 0 => 0 | 127 => 403 | 5 => 5 | n => n, fun | n => n⟩
theorem Tryz.laysM316 : Go.Proofs.LaysM.n316 Tryz.prog Tryz.laysM316_ren := {
  mixed := by kernel_rfl
  f316 := Tryz.func229.trans (congrArg some (by kernel_rfl))
  t0 := Tryz.underlying0
  a0 := Tryz.isAgg0
  z0 := Tryz.sizeOf0
  v0 := Tryz.zeroValue0
  t3 := Tryz.underlying3
  a3 := Tryz.isAgg3
  z3 := Tryz.sizeOf3
  v3 := Tryz.zeroValue3
  t4 := Tryz.underlying4
  a4 := Tryz.isAgg4
  z4 := Tryz.sizeOf4
  v4 := Tryz.zeroValue4
  t9 := Tryz.underlying9
  a9 := Tryz.isAgg9
  z9 := Tryz.sizeOf9
  v9 := Tryz.zeroValue9
  t37 := Tryz.underlying134
  a37 := Tryz.isAgg134
  z37 := Tryz.sizeOf134
  v37 := Tryz.zeroValue134
  t127 := Tryz.underlying403
  a127 := Tryz.isAgg403
  z127 := Tryz.sizeOf403
  v127 := Tryz.zeroValue403
  t5 := Tryz.underlying5
  a5 := Tryz.isAgg5
  z5 := Tryz.sizeOf5
  v5 := Tryz.zeroValue5
  i0 := by kernel_rfl
  i3 := by kernel_rfl
  i4 := by kernel_rfl
  i5 := by kernel_rfl
  i9 := by kernel_rfl
  i37 := by kernel_rfl
  i127 := by kernel_rfl }
open Go.RowKit Go.Lib in
theorem Tryz.stringslite_Clone (s : ByteArray) (w : World) (hlim : s.size ≤ 281474976710656) :
    Calls Tryz.prog 229 #[.string s] w fun e w' => e = .returned (.string s) ∧ Below w.heap.size w w' := Any.stringslite_Clone Tryz.laysM316 s w hlim
def Tryz.keysN_ren : Go.Shelf.Ren := ⟨fun | 7 => 234 | 10 => 275 | n => n, fun | 23 => 272 | 26 => 9 | 3 => 111 | 28 => 381 | 0 => 0 | 27 => 380 | 33 => 41 | 4 => 4 | n => n, fun | n => n⟩
theorem Tryz.keysN : Go.Proofs.SlLaysZ.n7 Tryz.prog Tryz.keysN_ren := {
  mixed := by kernel_rfl
  f7 := ⟨Tryz.f234.name, by decide, Tryz.func234.trans (congrArg some (by kernel_rfl))⟩
  f10 := ⟨Tryz.f275.name, by decide, Tryz.func275.trans (congrArg some (by kernel_rfl))⟩
  t0 := Tryz.underlying0
  a0 := Tryz.isAgg0
  z0 := Tryz.sizeOf0
  v0 := Tryz.zeroValue0
  t4 := Tryz.underlying4
  a4 := Tryz.isAgg4
  z4 := Tryz.sizeOf4
  v4 := Tryz.zeroValue4
  t23 := Tryz.underlying272
  a23 := Tryz.isAgg272
  z23 := Tryz.sizeOf272
  v23 := Tryz.zeroValue272
  t26 := Tryz.underlying9
  a26 := Tryz.isAgg9
  z26 := Tryz.sizeOf9
  v26 := Tryz.zeroValue9
  t27 := Tryz.underlying380
  a27 := Tryz.isAgg380
  z27 := Tryz.sizeOf380
  v27 := Tryz.zeroValue380
  t28 := Tryz.underlying381
  a28 := Tryz.isAgg381
  z28 := Tryz.sizeOf381
  v28 := Tryz.zeroValue381
  t33 := Tryz.underlying41
  a33 := Tryz.isAgg41
  z33 := Tryz.sizeOf41
  v33 := Tryz.zeroValue41 }
def Tryz.sortedN_ren : Go.Shelf.Ren := ⟨fun | 6 => 233 | 8 => 273 | 9 => 274 | 11 => 290 | 13 => 292 | 12 => 291 | 23 => 310 | 24 => 311 | 14 => 301 | 15 => 302 | 16 => 303 | 17 => 304 | 18 => 305 | 19 => 306 | 20 => 307 | 21 => 308 | 22 => 309 | 25 => 316 | 26 => 317 | 27 => 318 | 28 => 319 | 29 => 320 | 30 => 321 | 31 => 324 | n => n, fun | 26 => 9 | 28 => 381 | 24 => 35 | 0 => 0 | 3 => 3 | 37 => 143 | 48 => 81 | 50 => 304 | 4 => 4 | 40 => 432 | 39 => 431 | 45 => 196 | 5 => 5 | 9 => 9 | 51 => 445 | 55 => 449 | 57 => 454 | 58 => 89 | 33 => 41 | n => n, fun | n => n⟩
theorem Tryz.sortedN : Go.Proofs.SlLaysZ.n6 Tryz.prog Tryz.sortedN_ren := {
  mixed := by kernel_rfl
  f6 := ⟨Tryz.f233.name, by decide, Tryz.func233.trans (congrArg some (by kernel_rfl))⟩
  f8 := ⟨Tryz.f273.name, by decide, Tryz.func273.trans (congrArg some (by kernel_rfl))⟩
  f11 := ⟨Tryz.f290.name, by decide, Tryz.func290.trans (congrArg some (by kernel_rfl))⟩
  t0 := Tryz.underlying0
  a0 := Tryz.isAgg0
  z0 := Tryz.sizeOf0
  v0 := Tryz.zeroValue0
  t24 := Tryz.underlying35
  a24 := Tryz.isAgg35
  z24 := Tryz.sizeOf35
  v24 := Tryz.zeroValue35
  t26 := Tryz.underlying9
  a26 := Tryz.isAgg9
  z26 := Tryz.sizeOf9
  v26 := Tryz.zeroValue9
  t28 := Tryz.underlying381
  a28 := Tryz.isAgg381
  z28 := Tryz.sizeOf381
  v28 := Tryz.zeroValue381
  i26 := by kernel_rfl }
def Tryz.sortN_ren : Go.Shelf.Ren := ⟨fun | 6 => 274 | 8 => 292 | 9 => 291 | 19 => 310 | 20 => 311 | 21 => 301 | 22 => 302 | 23 => 303 | 24 => 304 | 25 => 305 | 26 => 306 | 27 => 307 | 28 => 308 | 29 => 309 | 36 => 316 | 31 => 317 | 32 => 318 | 37 => 319 | 38 => 320 | 39 => 321 | 41 => 324 | n => n, fun | 27 => 35 | 29 => 9 | 3 => 3 | 32 => 143 | 26 => 35 | 0 => 0 | 44 => 81 | 46 => 304 | 4 => 4 | 36 => 432 | 35 => 431 | 41 => 196 | 5 => 5 | 9 => 9 | 53 => 445 | 57 => 449 | 63 => 454 | 64 => 89 | n => n, fun | n => n⟩
theorem Tryz.sortN : Go.Proofs.SlLaysM.n6 Tryz.prog Tryz.sortN_ren := {
  mixed := by kernel_rfl
  f6 := ⟨Tryz.f274.name, by decide, Tryz.func274.trans (congrArg some (by kernel_rfl))⟩
  f8 := Tryz.func292.trans (congrArg some (by kernel_rfl))
  f9 := ⟨Tryz.f291.name, by decide, Tryz.func291.trans (congrArg some (by kernel_rfl))⟩
  f19 := Tryz.func310.trans (congrArg some (by kernel_rfl))
  f20 := Tryz.func311.trans (congrArg some (by kernel_rfl))
  f21 := ⟨Tryz.f301.name, by decide, Tryz.func301.trans (congrArg some (by kernel_rfl))⟩
  f22 := ⟨Tryz.f302.name, by decide, Tryz.func302.trans (congrArg some (by kernel_rfl))⟩
  f23 := ⟨Tryz.f303.name, by decide, Tryz.func303.trans (congrArg some (by kernel_rfl))⟩
  f24 := ⟨Tryz.f304.name, by decide, Tryz.func304.trans (congrArg some (by kernel_rfl))⟩
  f25 := ⟨Tryz.f305.name, by decide, Tryz.func305.trans (congrArg some (by kernel_rfl))⟩
  f26 := ⟨Tryz.f306.name, by decide, Tryz.func306.trans (congrArg some (by kernel_rfl))⟩
  f27 := ⟨Tryz.f307.name, by decide, Tryz.func307.trans (congrArg some (by kernel_rfl))⟩
  f28 := ⟨Tryz.f308.name, by decide, Tryz.func308.trans (congrArg some (by kernel_rfl))⟩
  f29 := ⟨Tryz.f309.name, by decide, Tryz.func309.trans (congrArg some (by kernel_rfl))⟩
  f31 := Tryz.func317.trans (congrArg some (by kernel_rfl))
  f32 := Tryz.func318.trans (congrArg some (by kernel_rfl))
  f36 := ⟨Tryz.f316.name, by decide, Tryz.func316.trans (congrArg some (by kernel_rfl))⟩
  f37 := ⟨Tryz.f319.name, by decide, Tryz.func319.trans (congrArg some (by kernel_rfl))⟩
  f38 := ⟨Tryz.f320.name, by decide, Tryz.func320.trans (congrArg some (by kernel_rfl))⟩
  f39 := ⟨Tryz.f321.name, by decide, Tryz.func321.trans (congrArg some (by kernel_rfl))⟩
  f41 := ⟨Tryz.f324.name, by decide, Tryz.func324.trans (congrArg some (by kernel_rfl))⟩
  t0 := Tryz.underlying0
  a0 := Tryz.isAgg0
  z0 := Tryz.sizeOf0
  v0 := Tryz.zeroValue0
  t3 := Tryz.underlying3
  a3 := Tryz.isAgg3
  z3 := Tryz.sizeOf3
  v3 := Tryz.zeroValue3
  t4 := Tryz.underlying4
  a4 := Tryz.isAgg4
  z4 := Tryz.sizeOf4
  v4 := Tryz.zeroValue4
  t5 := Tryz.underlying5
  a5 := Tryz.isAgg5
  z5 := Tryz.sizeOf5
  v5 := Tryz.zeroValue5
  t9 := Tryz.underlying9
  a9 := Tryz.isAgg9
  z9 := Tryz.sizeOf9
  v9 := Tryz.zeroValue9
  t26 := Tryz.underlying35
  a26 := Tryz.isAgg35
  z26 := Tryz.sizeOf35
  v26 := Tryz.zeroValue35
  t27 := Tryz.underlying35
  a27 := Tryz.isAgg35
  z27 := Tryz.sizeOf35
  v27 := Tryz.zeroValue35
  t29 := Tryz.underlying9
  a29 := Tryz.isAgg9
  z29 := Tryz.sizeOf9
  v29 := Tryz.zeroValue9
  t32 := Tryz.underlying143
  a32 := Tryz.isAgg143
  z32 := Tryz.sizeOf143
  v32 := Tryz.zeroValue143
  t35 := Tryz.underlying431
  a35 := Tryz.isAgg431
  z35 := Tryz.sizeOf431
  v35 := Tryz.zeroValue431
  t36 := Tryz.underlying432
  a36 := Tryz.isAgg432
  z36 := Tryz.sizeOf432
  v36 := Tryz.zeroValue432
  t41 := Tryz.underlying196
  a41 := Tryz.isAgg196
  z41 := Tryz.sizeOf196
  v41 := Tryz.zeroValue196
  t44 := Tryz.underlying81
  a44 := Tryz.isAgg81
  z44 := Tryz.sizeOf81
  v44 := Tryz.zeroValue81
  t46 := Tryz.underlying304
  a46 := Tryz.isAgg304
  z46 := Tryz.sizeOf304
  v46 := Tryz.zeroValue304
  t53 := Tryz.underlying445
  a53 := Tryz.isAgg445
  z53 := Tryz.sizeOf445
  v53 := Tryz.zeroValue445
  t57 := Tryz.underlying449
  a57 := Tryz.isAgg449
  z57 := Tryz.sizeOf449
  v57 := Tryz.zeroValue449
  t63 := Tryz.underlying454
  a63 := Tryz.isAgg454
  z63 := Tryz.sizeOf454
  v63 := Tryz.zeroValue454
  t64 := Tryz.underlying89
  a64 := Tryz.isAgg89
  z64 := Tryz.sizeOf89
  v64 := Tryz.zeroValue89 }
end Go.Proofs
namespace Go.Proofs.YtapijhhmjjplmaaGreatDoor
open Go.RowKit Go.Maps
theorem repeat_zero : ∀ n, Lib.repeatL [(0 : UInt8)] n = List.replicate n 0
  | 0 => rfl
  | n + 1 => by
    have := repeat_zero n
    simp_all [Lib.repeatL, List.replicate_succ]
theorem prog_repeat (n : Nat) (hn : n ≤ 1000000) (w : World) : Calls Tryz.prog 139 #[.string ⟨#[0]⟩, .int .i64 (n : Int)] w fun e w' => e = .returned (.string (zb n)) ∧ Below w.heap.size w w' := by
  have h := Tryz.strings_Repeat ⟨#[0]⟩ n w (by omega) (by show 1 * n ≤ _; omega)
  have e : (⟨#[0]⟩ : ByteArray).data.toList = [0] := rfl
  rw [e, repeat_zero] at h
  exact h
set_option maxRecDepth 100000 in
theorem prog_four (n : Nat) (w : World) (hn : (n : Int) ≤ 4294967295) : Calls Tryz.prog 144 #[.int .u32 (n : Int)] w fun e w' => e = .returned (.string (fb n)) ∧ Below w.heap.size w w' := by
  have hcv : (convert 134 9 (.slice (some ⟨w.heap.size, 0, none⟩) 4 4)).run Tryz.prog (w.alloc (.cells #[.int .u8 ((n : Int) / 16777216), .int .u8 ((n : Int) / 65536 % 256), .int .u8 ((n : Int) / 256 % 256), .int .u8 ((n : Int) % 256)] 5)) = .ok (.string (fb n)) (w.alloc (.cells #[.int .u8 ((n : Int) / 16777216), .int .u8 ((n : Int) / 65536 % 256), .int .u8 ((n : Int) / 256 % 256), .int .u8 ((n : Int) % 256)] 5)) := by
    have e0 : (n : Int) / 16777216 = (n : Int) / 16777216 % 256 := by omega
    rw [e0]
    refine run_convert_bytes_back (P := Tryz.prog) _ 134 9 5 ⟨w.heap.size, 0, none⟩ 4 (four4 n) Tryz.underlying134 Tryz.underlying5 Tryz.underlying9 ?_
    have hb : ∀ m : Nat, (UInt8.ofNat (m % 256)).toNat = m % 256 := fun m => by
      rw [UInt8.toNat_ofNat']; omega
    intro j hj
    match j, hj with
    | 0, _ => simp [four4, Addr.add, hb]
    | 1, _ => simp [four4, Addr.add, hb]
    | 2, _ => simp [four4, Addr.add, hb]
    | 3, _ => simp [four4, Addr.add, hb]
  go_enter Tryz.func144, Tryz.ntmps144
  go_wp2
  go_ret
  exact ⟨rfl, (Below.refl _ _).alloc (Nat.le_refl _) _⟩
set_option maxRecDepth 100000 in
theorem prog_sectorsFor (n : Nat) (hn : n ≤ 1000000) (w : World) : Calls Tryz.prog 217 #[.int .i64 (n : Int)] w fun e w' => e = .returned (.int .i64 (((n + 63) / 64 : Nat) : Int)) ∧ w = w' := by
  go_enter Tryz.func217, Tryz.ntmps217
  go_wp2
  go_ret
  exact ⟨by go_num, rfl⟩
set_option maxRecDepth 100000 in
theorem prog_inSectors (s : ByteArray) (hs : s.size = 16) (w : World) : Calls Tryz.prog 142 #[.string s] w fun e w' => e = .returned (.string (s ++ zb 48)) ∧ Below w.heap.size w w' := by
  have H1 : Hid (∀ w, Calls Tryz.prog 217 #[.int .i64 16] w fun e w' => e = .returned (.int .i64 1) ∧ w = w') := fun w => prog_sectorsFor 16 (by omega) w
  have H2 : Hid (∀ w, Calls Tryz.prog 139 #[.string ⟨#[0]⟩, .int .i64 48] w fun e w' => e = .returned (.string (zb 48)) ∧ Below w.heap.size w w') := fun w => prog_repeat 48 (by omega) w
  have hsi : (s.size : Int) = 16 := by omega
  obtain ⟨z, hz⟩ : ∃ z, z = zb 48 := ⟨_, rfl⟩
  rw [← hz] at H2 ⊢
  have hzs : z.size = 48 := by rw [hz]; exact zb_size 48
  clear hz
  go_enter Tryz.func142, Tryz.ntmps142
  go_wp2_with (first | (go_at_call 217; refine (H1.out _).mono ?_; rintro e w1 ⟨rfl, rfl⟩) | (go_at_call 139; refine (H2.out _).mono ?_; rintro e w2 ⟨rfl, hb⟩; have HB : Hid (Below w.heap.size w w2) := hb; clear hb))
  go_ret
  exact ⟨rfl, HB.out⟩
set_option maxRecDepth 100000 in
theorem prog_headBegin (n : Nat) (hn : n ≤ 4096) (w : World) : Calls Tryz.prog 143 #[.int .i64 (n : Int)] w fun e w' => e = .returned (.string (headT n)) ∧ Below w.heap.size w w' := by
  have H1 : Hid (∀ w, Calls Tryz.prog 144 #[.int .u32 (n : Int)] w fun e w' => e = .returned (.string (fb n)) ∧ Below w.heap.size w w') := fun w => prog_four n w (by omega)
  have hni : (n : Int) ≤ 4096 := by omega
  obtain ⟨f, hf⟩ : ∃ f, f = fb n := ⟨_, rfl⟩
  have hfs : f.size = 4 := by rw [hf]; rfl
  have htf : headT n = mark8 ++ f := by rw [hf]; rfl
  rw [← hf] at H1
  rw [htf]
  unfold mark8
  clear hf htf
  go_enter Tryz.func143, Tryz.ntmps143
  go_wp2_with (go_at_call 144; refine (H1.out _).mono ?_; rintro e w1 ⟨rfl, hb1⟩; have HB1 : Hid (Below w.heap.size w w1) := hb1; clear hb1)
  go_ret
  exact ⟨rfl, HB1.out⟩
set_option maxRecDepth 100000 in
theorem prog_headCRC (n : Nat) (hn : n ≤ 4096) (w : World) : Calls Tryz.prog 145 #[.int .i64 (n : Int)] w fun e w' => e = .returned (.int .u32 (headC n : Int)) ∧ Below w.heap.size w w' := by
  have H1 : Hid (∀ w, Calls Tryz.prog 143 #[.int .i64 (n : Int)] w fun e w' => e = .returned (.string (headT n)) ∧ Below w.heap.size w w') := fun w => prog_headBegin n hn w
  have H2 : Hid (∀ w, Calls Tryz.prog 185 #[.string (headT n)] w fun e w' => e = .returned (.int .u32 (headC n : Int)) ∧ Below w.heap.size w w') := fun w => sumsCrc (headT n) w (by rw [headT_size]; omega)
  go_enter Tryz.func145, Tryz.ntmps145
  go_wp2_with (first | (go_at_call 143; refine (H1.out _).mono ?_; rintro e w1 ⟨rfl, hb1⟩; have HB1 : Hid (Below w.heap.size w w1) := hb1; clear hb1) | (go_at_call 185; refine (H2.out _).mono ?_; rintro e w2 ⟨rfl, hb2⟩; have HB2 : Hid (Below w.heap.size w w2) := HB1.out.trans (hb2.mono HB1.out.size); clear hb2))
  go_ret
  exact ⟨rfl, HB2.out⟩
set_option maxRecDepth 100000 in
theorem prog_headOf (n : Nat) (hn : n ≤ 4096) (w : World) : Calls Tryz.prog 82 #[.int .i64 (n : Int)] w fun e w' => e = .returned (.string (headS n)) ∧ Below w.heap.size w w' := by
  have H1 : Hid (∀ w, Calls Tryz.prog 143 #[.int .i64 (n : Int)] w fun e w' => e = .returned (.string (headT n)) ∧ Below w.heap.size w w') := fun w => prog_headBegin n hn w
  have H2 : Hid (∀ w, Calls Tryz.prog 145 #[.int .i64 (n : Int)] w fun e w' => e = .returned (.int .u32 (headC n : Int)) ∧ Below w.heap.size w w') := fun w => prog_headCRC n hn w
  have H3 : Hid (∀ w, Calls Tryz.prog 144 #[.int .u32 (headC n : Int)] w fun e w' => e = .returned (.string (fb (headC n))) ∧ Below w.heap.size w w') := fun w => prog_four (headC n) w (by have := headC_lt n; unfold w32 at this; omega)
  have H4 : Hid (∀ w, Calls Tryz.prog 142 #[.string (headT n ++ fb (headC n))] w fun e w' => e = .returned (.string (headS n)) ∧ Below w.heap.size w w') := fun w => prog_inSectors _ (headTT_size n) w
  have hts := headT_size n
  have hfs := fb_size (headC n)
  obtain ⟨t, ht⟩ : ∃ t, t = headT n := ⟨_, rfl⟩
  obtain ⟨g, hg⟩ : ∃ g, g = fb (headC n) := ⟨_, rfl⟩
  obtain ⟨c, hc⟩ : ∃ c, c = headC n := ⟨_, rfl⟩
  obtain ⟨s, hs⟩ : ∃ s, s = headS n := ⟨_, rfl⟩
  rw [← hs] at H4 ⊢
  rw [← ht] at H1 H4 hts
  rw [← hg] at H3 H4 hfs
  rw [← hc] at H2 H3
  clear ht hg hc hs
  go_enter Tryz.func82, Tryz.ntmps82
  go_wp2_with (first | (go_at_call 143; refine (H1.out _).mono ?_; rintro e w1 ⟨rfl, hb1⟩; have HB1 : Hid (Below w.heap.size w w1) := hb1; clear hb1) | (go_at_call 145; refine (H2.out _).mono ?_; rintro e w2 ⟨rfl, hb2⟩; have HB2 : Hid (Below w.heap.size w w2) := HB1.out.trans (hb2.mono HB1.out.size); clear hb2) | (go_at_call 144; refine (H3.out _).mono ?_; rintro e w3 ⟨rfl, hb3⟩; have HB3 : Hid (Below w.heap.size w w3) := HB2.out.trans (hb3.mono HB2.out.size); clear hb3) | (go_at_call 142; refine (H4.out _).mono ?_; rintro e w4 ⟨rfl, hb4⟩; have HB4 : Hid (Below w.heap.size w w4) := HB3.out.trans (hb4.mono HB3.out.size); clear hb4))
  go_ret
  exact ⟨rfl, HB4.out⟩
end Go.Proofs.YtapijhhmjjplmaaGreatDoor
