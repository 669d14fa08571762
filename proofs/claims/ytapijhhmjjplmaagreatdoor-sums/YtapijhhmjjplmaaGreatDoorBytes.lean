/- OWN TEXT: rows of bytes that '[]byte(s)' or append made: whatever their mark, it lies behind their end. -/
import Derived.Test.YtapijhhmjjplmaaGreatDoorMem
import Derived.Test.YtapijhhmjjplmaaGreatDoorProg
import Derived.Laws.IdiomCopy
import Derived.Laws.IdiomStrings
import Derived.Lib.FrozenHead2
namespace Go.Proofs.YtapijhhmjjplmaaGreatDoor
open Go.RowKit

def bv (l : List Nat) : List Value := l.map fun c : Nat => Value.int .u8 (c : Int)
theorem bv_length (l : List Nat) : (bv l).length = l.length := by simp [bv]
theorem bv_append (l m : List Nat) : bv (l ++ m) = bv l ++ bv m := by simp [bv]
theorem bv_at (l : List Nat) (j : Nat) (h : j < l.length) : (bv l)[j]? = some (.int .u8 (l[j] : Int)) := by simp [bv, h]

/-- The slice v owns a row that begins with the bytes l. -/
def OwnB (w : World) (B : Nat) (v : Value) (l : List Nat) : Prop :=
  ∃ g cap cur fz, v = .slice (some ⟨g, 0, none⟩) l.length cap ∧ B ≤ g ∧ w.heap[g]? = some (.cells cur 5 fz) ∧ (cap ≤ fz.1 ∨ fz.2 = 0) ∧ l.length ≤ cap ∧ cur.size = cap ∧ cur.toList.take l.length = bv l

theorem OwnB.on {w w' : World} {B C : Nat} {v : Value} {l : List Nat} (h : OwnB w B v l) (hb : Below C w w') (hC : w.heap.size ≤ C) : OwnB w' B v l := by
  obtain ⟨g, cap, cur, fz, rfl, hB, hg, h3⟩ := h
  exact ⟨g, cap, cur, fz, rfl, hB, by rw [hb.block g (Nat.lt_of_lt_of_le (Array.getElem?_eq_some_iff.1 hg).1 hC)]; exact hg, h3⟩

theorem OwnB.alloc {w : World} {B : Nat} {v : Value} {l : List Nat} (h : OwnB w B v l) (o : Obj) : OwnB (w.alloc o) B v l :=
  h.on ((Below.refl w.heap.size w).alloc (Nat.le_refl _) o) (Nat.le_refl _)

theorem OwnB.drewN {w : World} {B : Nat} {v : Value} {l : List Nat} (h : OwnB w B v l) (n : Nat) : OwnB (w.drewN n) B v l := h

theorem OwnB.cell {w : World} {B g cap : Nat} {l : List Nat} (h : OwnB w B (.slice (some ⟨g, 0, none⟩) l.length cap) l) (j : Nat) (hj : j < l.length) : w.cell? ⟨g, j, none⟩ = some (.int .u8 (l[j] : Int)) := by
  obtain ⟨g', cap', cur, fz, e, hB, hg, h1, h2, h3, h4⟩ := h
  cases e
  have := bv_at l j hj
  rw [← h4, List.getElem?_take_of_lt hj] at this
  simp only [World.cell?, hg]
  simpa using this

theorem infoByte : (Tryz.prog.info? 5).map (fun i => (i.zero, i.size, i.bytes)) = some (some (.int .u8 0), 1, 1) := by kernel_rfl

theorem run_append_byte (w : World) (B : Nat) (ty : TypeId) (v : Value) (l : List Nat) (hown : OwnB w B v l) (ad : Addr) (c' x : Nat) (hx : w.cell? ad = some (.int .u8 (x : Int))) (hl : l.length < 1000000) (hB : B ≤ w.heap.size) :
    ∃ v' w', (Builtin.append_ #[134, 134] ty #[v, .slice (some ad) 1 c']).run Tryz.prog w = .ok v' w' ∧ OwnB w' B v' (l ++ [x]) ∧ w.grownBy w' v.ownBlock := by
  obtain ⟨i, hi, hzz⟩ := Option.map_eq_some_iff.1 infoByte
  simp only [Prod.mk.injEq] at hzz
  obtain ⟨hz, hs, hb⟩ := hzz
  have hnews : ∀ j u, [Value.int .u8 (x : Int)][j]? = some u → w.cell? (ad.add j) = some u := by
    intro j u hj
    match j, hj with
    | 0, hj =>
      simp at hj
      subst hj
      exact hx
  obtain ⟨g, cap, cur, fz, rfl, hBg, hg, hfz, hlc, hcs, htk⟩ := hown
  have hf := run_firstCells_some (P := Tryz.prog) w i.size 1 ad 1 c' [.int .u8 (x : Int)] (by rw [hs]; rfl) hnews
  by_cases hroom : l.length + 1 ≤ cap
  · have hlt : l.length < cur.size := by omega
    have hcell : w.cell? ⟨g, l.length, none⟩ = some cur[l.length] := by simp [World.cell?, hg, hlt]
    have hfro : w.frozen? ⟨g, l.length, none⟩ = false := by
      obtain ⟨lo, hi'⟩ := fz
      simp only [World.frozen?, hg, Bool.and_eq_false_iff, decide_eq_false_iff_not]
      simp only at hfz
      omega
    have hst := run_storeCells_cells (P := Tryz.prog) g l.length [.int .u8 (x : Int)] 0 w (by intro j hj; simp at hj; subst hj; simp [hcell]) (by intro j hj; simp at hj; subst hj; exact hfro) (by intro u hu; simp at hu; subst hu; rfl)
    simp only [Nat.add_zero, World.setCells] at hst
    refine ⟨.slice (some ⟨g, 0, none⟩) (l.length + 1) cap, w.setCell ⟨g, l.length, none⟩ (.int .u8 (x : Int)), ?_, ?_, ?_⟩
    · simp [Builtin.append_, run_underlying Tryz.underlying134, sizeOf, typeInfo, hi, hs, Builtin.lenOf, hroom, Addr.add_lit] at hf ⊢
      simp [hf, hst]
    · refine ⟨g, cap, cur.setIfInBounds l.length (.int .u8 (x : Int)), fz, by rw [List.length_append, List.length_singleton], hBg, ?_, hfz, by rw [List.length_append, List.length_singleton]; exact hroom, by simpa using hcs, ?_⟩
      · simp only [World.setCell, Array.getElem?_modify, ↓reduceIte, hg, Option.map_some]
        rfl
      · rw [Array.toList_setIfInBounds, List.length_append, List.length_singleton, bv_append, ← htk, List.take_succ_eq_append_getElem (by simpa using hlt), List.take_set_of_le (Nat.le_refl _), List.getElem_set_self]
        rfl
    · exact ⟨rfl, rfl, rfl, by simp, fun k _ hk => Below.heap_setCell w _ _ k (fun e => hk (by simp [Value.ownBlock, e]))⟩
  · have holds : ∀ j u, (bv l)[j]? = some u → w.cell? ((⟨g, 0, none⟩ : Addr).add j) = some u := by
      intro j u hu
      have hjl : j < l.length := by
        have := (List.getElem?_eq_some_iff.1 hu).1
        rw [bv_length] at this
        exact this
      rw [Addr.add_lit, Nat.zero_add]
      rw [← htk, List.getElem?_take_of_lt hjl] at hu
      simp only [World.cell?, hg]
      simpa using hu
    have hr := run_append_grow (P := Tryz.prog) w 134 ty 5 i (.int .u8 0) Tryz.underlying134 hi hz ⟨g, 0, none⟩ l.length cap (bv l) (by rw [bv_length, hs, Nat.mul_one]) holds ad 1 c' [.int .u8 (x : Int)] (by rw [hs]; rfl) hnews (by omega) (by omega) (growslice_fits (by omega) (by rw [hb]; omega))
    have hge := grownCap_ge w (l.length + 1) cap 5
    refine ⟨_, _, hr, ⟨w.heap.size, grownCap w (l.length + 1) cap 5, (bv l).toArray ++ [Value.int .u8 (x : Int)].toArray ++ Builtin.zeroCells (Value.int .u8 0).cells (grownCap w (l.length + 1) cap 5 - (l.length + 1)), (0, 0), by rw [List.length_append, List.length_singleton], hB, ?_, .inr rfl, by rw [List.length_append, List.length_singleton]; exact hge, ?_, ?_⟩, ⟨rfl, rfl, rfl, by simp, fun k hk _ => Below.heap_alloc w.drew _ k hk⟩⟩
    · exact heap_alloc_new w.drew _
    · simp only [Array.size_append, List.size_toArray, size_zeroCells, bv_length, List.length_singleton]
      show l.length + 1 + _ * 1 = _
      omega
    · simp only [Array.toList_append, List.append_assoc]
      rw [← List.append_assoc, bv_append]
      have e : (l ++ [x]).length = (bv l ++ [Value.int .u8 (x : Int)]).length := by simp [bv_length]
      rw [e]
      exact List.take_left

/-- 'append(p, x)' of one byte, as a law for the walk. -/
theorem wpList_append_byte (w : World) {ops : Array Oper} {rest : List Oper} {o : Oper} {a : Act} {Q : Exit → Act → World → Prop} (hgd : o.guard = none) (s y : Operand)
    (ho : o.op = .call { callee := .builtin .append, args := #[s, y], argTypes := #[134, 134] }) (B : Nat) (v : Value) (l : List Nat) (hs : a.eval s = v) (hown : OwnB w B v l)
    (ad : Addr) (c' x : Nat) (hy : a.eval y = .slice (some ad) 1 c') (hx : w.cell? ad = some (.int .u8 (x : Int))) (hl : l.length < 1000000) (hB : B ≤ w.heap.size)
    (h : ∀ v' w', OwnB w' B v' (l ++ [x]) → w.grownBy w' v.ownBlock → wpList Tryz.prog ops Q rest (a.put o.dst v') w') : wpList Tryz.prog ops Q (o :: rest) a w := by
  refine wpList_plain hgd fun K hK => ?_
  obtain ⟨v', w', hr, h2, h3⟩ := run_append_byte w B o.type v l hown ad c' x hx hl hB
  unfold Oper.wp execOp
  simp only [ho, resolve, invoke, builtin, Sem.run_bind, Sem.run_pure, Result.andThen_ok, List.map_toArray, List.map_cons, List.map_nil, hs, hy, hr]
  exact hK _ _ (h v' w' h2 h3)

/-- A text's bytes. -/
def bytesN (s : ByteArray) : List Nat := s.data.toList.map UInt8.toNat
theorem bytesN_length (s : ByteArray) : (bytesN s).length = s.size := by simp [bytesN]
theorem bytesN_lt (s : ByteArray) : ∀ d ∈ bytesN s, d < 256 := by
  intro d hd
  unfold bytesN at hd
  obtain ⟨c, _, rfl⟩ := List.mem_map.1 hd
  exact c.toNat_lt

/-- '[]byte(s)': in whatever world. -/
theorem run_bytes (w : World) (s : ByteArray) : ∃ v w', (convert 9 134 (.string s)).run Tryz.prog w = .ok v w' ∧ OwnB w' w.heap.size v (bytesN s) ∧ Below w.heap.size w w' ∧ (∃ cap, v = .slice (some ⟨w.heap.size, 0, none⟩) s.size cap) := by
  refine ⟨_, _, run_bytes_of_string w 9 134 5 s Tryz.underlying9 Tryz.underlying134 Tryz.underlying5, ?_, ((Below.refl w.heap.size w).drew).alloc (Nat.le_refl _) _, ⟨_, rfl⟩⟩
  have hge := grownCap_ge w s.size 0 5
  generalize grownCap w s.size 0 5 = cap at *
  have hsz : (bytesRow s cap).size = cap := by
    unfold bytesRow
    simp
    omega
  refine ⟨w.heap.size, cap, bytesRow s cap, ((bytesRow s cap).size, (bytesRow s cap).size + 1), by rw [bytesN_length], Nat.le_refl _, ?_, .inl ?_, by rw [bytesN_length]; exact hge, hsz, ?_⟩
  · show (w.heap.push _)[w.heap.size]? = _
    rw [Array.getElem?_push_size]
  · exact Nat.le_of_eq hsz.symm
  · rw [bytesN_length]
    unfold bytesRow bv bytesN
    rw [Array.toList_append, List.take_append_of_le_length (by simp), List.take_of_length_le (by simp)]
    simp
end Go.Proofs.YtapijhhmjjplmaaGreatDoor
