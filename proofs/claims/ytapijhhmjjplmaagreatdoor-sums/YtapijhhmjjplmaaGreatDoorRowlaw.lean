/- OWN TEXT: laws of no program: a string copied into a row, a row cleared, an array's element. -/
import Derived.Test.YtapijhhmjjplmaaGreatDoorSha
import Derived.Tactics
import Derived.Laws.CopyRow
import Derived.Lib.SliceRun
import Derived.ChangeKeysEq
import Derived.Deep.RegionLaw
namespace Go.Proofs.YtapijhhmjjplmaaGreatDoor
open Go.RowKit

variable {P : Program}
def bcells (l : List UInt8) : List Value := l.map fun b : UInt8 => Value.int .u8 (b.toNat : Int)
theorem bcells_length (l : List UInt8) : (bcells l).length = l.length := by simp [bcells]
theorem bcells_one (l : List UInt8) : ∀ v ∈ bcells l, v.oneCell' = true := by
  intro v hv
  simp only [bcells, List.mem_map] at hv
  obtain ⟨b, _, rfl⟩ := hv
  rfl

/-- copy of a string, whole or its head, into row g. -/
theorem run_copy_str (w : World) (dT sT ty elem : TypeId) (g o dLen dCap : Nat) (s : ByteArray) (cur : Array Value) (t : TypeId) (cs : List Value)
    (hu : P.underlying dT = some (.slice elem)) (hs : (P.info? elem).map (·.size) = some 1) (hg : w.heap[g]? = some (.cells cur t (0, 0))) (hcs : cs = bcells (s.data.toList.take dLen)) (hfit : o + cs.length ≤ cur.size) :
    (Builtin.copy_ #[dT, sT] ty #[.slice (some ⟨g, o, none⟩) dLen dCap, .string s]).run P w =
      .ok (goInt cs.length) (w.setRow g (cur.toList.take o ++ cs ++ cur.toList.drop (o + cs.length)).toArray) := by
  have hlen : cs.length = Nat.min s.size dLen := by
    rw [hcs, bcells_length, List.length_take, Nat.min_comm]
    rfl
  have hone : ∀ v ∈ cs, v.oneCell' = true := by rw [hcs]; exact bcells_one _
  have hst := run_storeCells_at P g o t cs 0 cur w hg (by simpa using hfit) hone
  simp only [Nat.add_zero] at hst
  have hx : ((s.extract 0 (Nat.min s.size dLen)).data.map fun b => Value.int .u8 b.toNat).toList = cs := by
    rw [hcs]
    unfold bcells
    rw [Array.toList_map, ByteArray.data_extract, Array.toList_extract, List.extract_eq_take_drop, List.drop_zero, Nat.sub_zero]
    congr 1
    show List.take (min s.data.size dLen) s.data.toList = _
    rcases Nat.le_total s.data.size dLen with h | h
    · rw [Nat.min_eq_left h, List.take_of_length_le (by simp), List.take_of_length_le (by simpa using h)]
    · rw [Nat.min_eq_right h]
  cases hq : P.info? elem with
  | none => simp [hq] at hs
  | some i =>
    simp only [Builtin.copy_, Builtin.lenOf, Builtin.firstCells, sizeOf, typeInfo]
    simp [run_underlying hu, hq, -Array.toList_map, -ByteArray.data_extract, -Array.toList_extract]
    rw [hx, hst]
    simp [Result.andThen, hlen]

theorem wpList_copy_str {w : World} {ops : Array Oper} {rest : List Oper} {o : Oper} {a : Act} {Q : Exit → Act → World → Prop} (hgd : o.guard = none) (d s : Operand) (dT sT : TypeId)
    (ho : o.op = .call { callee := .builtin .copy, args := #[d, s], argTypes := #[dT, sT] }) (elem : TypeId) (hu : P.underlying dT = some (.slice elem)) (hsz : (P.info? elem).map (·.size) = some 1)
    (g off dLen dCap : Nat) (str : ByteArray) (hd : a.eval d = .slice (some ⟨g, off, none⟩) dLen dCap) (hs : a.eval s = .string str)
    (cur : Array Value) (t : TypeId) (hg : w.heap[g]? = some (.cells cur t (0, 0))) (cs : List Value) (hcs : cs = bcells (str.data.toList.take dLen)) (hfit : off + cs.length ≤ cur.size)
    (R : Array Value) (hR : (cur.toList.take off ++ cs ++ cur.toList.drop (off + cs.length)).toArray = R) (n : Int) (hn : (cs.length : Int) = n)
    (h : wpList P ops Q rest (a.put o.dst (.int .i64 n)) (w.setRow g R)) : wpList P ops Q (o :: rest) a w := by
  refine wpList_plain hgd fun K hK => ?_
  have hrun := run_copy_str (P := P) w dT sT o.type elem g off dLen dCap str cur t cs hu hsz hg hcs hfit
  rw [hR] at hrun
  unfold Oper.wp
  simp [execOp, ho, resolve, invoke, builtin, hd, hs, hrun, Result.andThen]
  have h' : wpList P ops Q rest (a.put o.dst (goInt cs.length)) (w.setRow g R) := by rw [goInt, hn]; exact h
  exact hK _ _ h'

theorem step_copy_str {w : World} {ops : Array Oper} {o : Oper} {a : Act} {K : Act → World → Prop} {Q : Exit → Act → World → Prop} {E : Prop} (hgd : o.guard = none) (d s : Operand) (dT sT : TypeId)
    (ho : o.op = .call { callee := .builtin .copy, args := #[d, s], argTypes := #[dT, sT] }) (elem : TypeId) (hu : P.underlying dT = some (.slice elem)) (hsz : (P.info? elem).map (·.size) = some 1)
    (g off dLen dCap : Nat) (str : ByteArray) (hd : a.eval d = .slice (some ⟨g, off, none⟩) dLen dCap) (hs : a.eval s = .string str)
    (cur : Array Value) (t : TypeId) (hg : w.heap[g]? = some (.cells cur t (0, 0))) (cs : List Value) (hcs : cs = bcells (str.data.toList.take dLen)) (hfit : off + cs.length ≤ cur.size)
    (R : Array Value) (hR : (cur.toList.take off ++ cs ++ cur.toList.drop (off + cs.length)).toArray = R) (n : Int) (hn : (cs.length : Int) = n)
    (h : K (a.put o.dst (.int .i64 n)) (w.setRow g R)) : if Region.wanted o (yielded ops a.tmps) = true then Oper.wp P o a w K Q else E := by
  have hw : Region.wanted o (yielded ops a.tmps) = true := by simp [Region.wanted, hgd]
  rw [if_pos hw]
  have hrun := run_copy_str (P := P) w dT sT o.type elem g off dLen dCap str cur t cs hu hsz hg hcs hfit
  rw [hR] at hrun
  unfold Oper.wp
  simp [execOp, ho, resolve, invoke, builtin, hd, hs, hrun, Result.andThen]
  have h' : K (a.put o.dst (goInt cs.length)) (w.setRow g R) := by rw [goInt, hn]; exact h
  exact h'

/-- clear of a whole row. -/
theorem run_clear_row (w : World) (t e ty : TypeId) (z : Value) (ht : P.underlying t = some (.slice e)) (hv : ∀ w, (zeroValue e).run P w = .ok z w) (hz : z.cells = #[z]) (h1 : z.oneCell' = true) (b n c : Nat) (hn : 0 < n)
    (cur : Array Value) (t' : TypeId) (hg : w.heap[b]? = some (.cells cur t' (0, 0))) (hc : cur.size = n) :
    (Builtin.clear_ #[t] ty #[.slice (some ⟨b, 0, none⟩) n c]).run P w = .ok (.tuple #[]) (w.setRow b (List.replicate n z).toArray) := by
  have hzc : (Builtin.zeroCells z.cells n).toList = List.replicate n z := by
    rw [hz]
    simp [Builtin.zeroCells]
    apply List.ext_getElem
    · simp
    · intro i h1 h2
      simp [Nat.mod_one]
  have hst := run_storeCells_at P b 0 t' (List.replicate n z) 0 cur w hg (by simp; omega) (by intro v hv'; rw [List.eq_of_mem_replicate hv']; exact h1)
  simp only [Nat.add_zero, List.take_zero, List.nil_append, Nat.zero_add, List.length_replicate] at hst
  have hd : cur.toList.drop n = [] := List.drop_eq_nil_of_le (by simp; omega)
  rw [hd, List.append_nil] at hst
  obtain ⟨m, rfl⟩ : ∃ m, n = m + 1 := ⟨n - 1, by omega⟩
  simp [Builtin.clear_, run_underlying ht, hv, hzc, hst]

theorem wpList_clear_row {w : World} {ops : Array Oper} {rest : List Oper} {o : Oper} {a : Act} {Q : Exit → Act → World → Prop} (hgd : o.guard = none) (d : Operand) (dT : TypeId)
    (ho : o.op = .call { callee := .builtin .clear, args := #[d], argTypes := #[dT] }) (elem : TypeId) (hu : P.underlying dT = some (.slice elem)) (z : Value) (hv : ∀ w, (zeroValue elem).run P w = .ok z w) (hz : z.cells = #[z]) (h1 : z.oneCell' = true)
    (b n c : Nat) (hn : 0 < n) (hd : a.eval d = .slice (some ⟨b, 0, none⟩) n c)
    (cur : Array Value) (t : TypeId) (hg : w.heap[b]? = some (.cells cur t (0, 0))) (hc : cur.size = n)
    (R : Array Value) (hR : (List.replicate n z).toArray = R)
    (h : wpList P ops Q rest (a.put o.dst (.tuple #[])) (w.setRow b R)) : wpList P ops Q (o :: rest) a w := by
  refine wpList_plain hgd fun K hK => ?_
  have hrun := run_clear_row (P := P) w dT elem o.type z hu hv hz h1 b n c hn cur t hg hc
  rw [hR] at hrun
  unfold Oper.wp
  simp [execOp, ho, resolve, invoke, builtin, hd, hrun, Result.andThen]
  exact hK _ _ h

/-- The element of an array, of one cell. -/
theorem run_index_row (w : World) (t e : TypeId) (n : Nat) (cs : Array Value) (i : Nat) (v : Value) (ht : P.underlying t = some (.array n e)) (hi : i < n) (he : P.plainKey e = true) (hs : (P.info? e).map (·.size) = some 1) (hv : cs[i]? = some v) :
    (Instr.index t (.agg cs) (.int .i64 (i : Int))).run P w = .ok v w := by
  have hp := run_part_plain (P := P) (w := w) he hv
  cases hq : P.info? e with
  | none => simp [hq] at hs
  | some j =>
    have hj : j.size = 1 := by simpa [hq] using hs
    simp [Instr.index, asIntOf, run_underlying ht, sizeOf, typeInfo, hq, hj, hp, hi]
end Go.Proofs.YtapijhhmjjplmaaGreatDoor
