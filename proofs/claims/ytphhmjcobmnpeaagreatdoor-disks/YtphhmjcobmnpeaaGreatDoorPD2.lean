/- OWN TEXT: the program's disk: Read. -/
import Derived.Test.YtphhmjcobmnpeaaGreatDoorPD1
import Derived.Test.YtphhmjcobmnpeaaGreatDoorInBytes
import Derived.Laws.Rows
import Derived.Deep.WholeRow
namespace Go.Proofs.YtphhmjcobmnpeaaGreatDoor
open Go.RowKit Go.Maps

theorem bcells_oneArr (l : List UInt8) : (bcells l).toArray.all (·.oneCell') = true := by
  rw [Array.all_eq_true_iff_forall_mem]
  intro v hv
  exact bcells_one l v (by simpa using hv)
/-- Where a sector's cells lie. -/
theorem secs_at : ∀ (l : List ByteArray), (∀ s ∈ l, s.size = 64) → ∀ k (h : k < l.length) j, j < 64 → (secs l)[k * 64 + j]? = (bcells l[k].data.toList)[j]?
  | [], _, k, h, _, _ => by cases h
  | s :: r, hs, k, h, j, hj => by
    have hl : (bcells s.data.toList).length = 64 := by rw [bcells_length, Array.length_toList]; exact hs s (List.mem_cons_self ..)
    have e : secs (s :: r) = bcells s.data.toList ++ secs r := rfl
    match k, h with
    | 0, _ =>
      rw [e, Nat.zero_mul, Nat.zero_add, List.getElem?_append_left (by omega)]
      rfl
    | k + 1, h =>
      rw [e, List.getElem?_append_right (by rw [hl]; omega), hl, show (k + 1) * 64 + j - 64 = k * 64 + j by omega]
      exact secs_at r (fun x hx => hs x (List.mem_cons_of_mem _ hx)) k (by simpa using h) j hj
theorem secs_length : ∀ (l : List ByteArray), (∀ s ∈ l, s.size = 64) → (secs l).length = l.length * 64
  | [], _ => rfl
  | s :: r, hs => by
    have hl : (bcells s.data.toList).length = 64 := by rw [bcells_length, Array.length_toList]; exact hs s (List.mem_cons_self ..)
    have e : secs (s :: r) = bcells s.data.toList ++ secs r := rfl
    rw [e, List.length_append, hl, secs_length r (fun x hx => hs x (List.mem_cons_of_mem _ hx)), List.length_cons]
    omega
theorem sec_range {w : World} {gs : Nat} {t : TypeId} {l : List ByteArray} (h : w.heap[gs]? = some (.cells (secs l).toArray t (0, 0))) (hs : ∀ s ∈ l, s.size = 64) (k : Nat) (hk : k < l.length) : w.rangeAt gs (k * 64) (bcells l[k].data.toList) := by
  intro j v hv
  have hj : j < 64 := by
    have := (List.getElem?_eq_some_iff.1 hv).1
    rw [bcells_length, Array.length_toList] at this
    have h64 : l[k].data.size = 64 := hs _ (List.getElem_mem _)
    omega
  rw [cell_of_row _ _ _ _ _ _ h]
  simp only [List.getElem?_toArray]
  rw [secs_at l hs k hk j hj]
  exact hv

theorem DskV.keep {w w' : World} {S : Nat → Prop} {lk : Int} {bd gs bm m : Nat} {wv : Value} {d : Dsk} (h : DskV w S lk bd gs bm m wv d) (hb : Below w.heap.size w w') : DskV w' S lk bd gs bm m wv d := by
  have hs : Same (fun g => w.heap.size ≤ g) w w' := ⟨hb.os, hb.tape, hb.output, hb.size, fun k hk _ => hb.block k hk⟩
  have l1 := lt_of_heap' h.blk
  have l2 := lt_of_heap' h.rest.sec
  have l3 := ownsMap_lt h.rest.map
  refine ⟨by rw [hb.block _ l1]; exact h.blk, h.rest.on hs (by omega) (by omega) (fun g hg => ?_)⟩
  have := h.rest.wait.lt hg
  omega
theorem below_row {w : World} {Z A : Array Value} {t : TypeId} : Below w.heap.size w ((w.alloc (.cells Z t)).setRow w.heap.size A) := below_setRow ((Below.refl _ _).alloc (Nat.le_refl _) _) (Nat.le_refl _) _
theorem below_same {w w' : World} (S : Nat → Prop) (h : Below w.heap.size w w') : Same S w w' := ⟨h.os, h.tape, h.output, h.size, fun k hk _ => h.block k hk⟩
/-- 'string(s[:])' of a sector that lies in a new block. -/
theorem sec_string (w : World) (s : ByteArray) (hs : s.size = 64) (A : Array Value) (hA : A = (bcells s.data.toList).toArray) (Z : Array Value) :
    (convert 128 9 (.slice (some ⟨w.heap.size, 0, none⟩) 64 64)).run Tryz.prog ((w.alloc (.cells Z 199)).setRow w.heap.size A) = .ok (.string s) ((w.alloc (.cells Z 199)).setRow w.heap.size A) := by
  have hl : s.data.toList.length = 64 := by rw [Array.length_toList]; exact hs
  have h := run_convert_bytes_back (P := Tryz.prog) ((w.alloc (.cells Z 199)).setRow w.heap.size A) 128 9 5 ⟨w.heap.size, 0, none⟩ 64 s.data.toList Tryz.underlying128 Tryz.underlying5 Tryz.underlying9 ?_
  · rw [hl] at h
    exact h
  · intro j hj
    have e1 : (⟨w.heap.size, 0, none⟩ : Addr).add j = ⟨w.heap.size, j, none⟩ := by unfold Addr.add; split <;> simp_all
    have hr := setRow_heap _ _ _ A _ _ (heap_alloc_new w (.cells Z 199))
    rw [e1, cell_of_row _ _ _ _ _ _ hr, hA]
    simp only [List.getElem?_toArray]
    unfold bcells
    rw [List.getElem?_map, List.getElem?_eq_getElem hj]
    rfl

/-- A whole row is stored; the world behind it is a letter. -/
theorem wpList_store_rowA {P : Program} {ops : Array Oper} {rest : List Oper} {o : Oper} {a : Act} {w : World} {Q : Exit → Act → World → Prop} (hgd : o.guard = none) (ty : TypeId) (x y : Operand) (ho : o.op = .store ty x y)
    (g : Nat) (cells : Array Value) (hx : a.eval x = .pointer (some ⟨g, 0, none⟩)) (hy : a.eval y = .agg cells)
    (t : TypeId) (old : Array Value) (hg : w.heap[g]? = some (.cells old t (0, 0))) (hi : (P.info? ty).map (·.size) = some cells.size)
    (hold : old.size = cells.size) (h1 : cells.all (·.oneCell') = true)
    (h : ∀ w', Hid (w' = w.setRow g cells) → wpList P ops Q rest (a.put o.dst undef) w') : wpList P ops Q (o :: rest) a w :=
  wpList_store_row hgd ty x y ho g cells hx hy t old hg hi hold h1 (h _ rfl)

/-- What is read at a place. -/
def Dsk.at (d : Dsk) (k : Nat) (h : k < d.safe.length) : ByteArray := (lastW d.wait k).getD d.safe[k]

theorem dsk_read_bad (bd m : Nat) (S : Nat → Prop) (d : Dsk) (at_ : Int) (ev : Value) (w : World) (h : DskAt w S bd m d) (hE : w.cell? ⟨0, 0, none⟩ = some ev) (hbad : ¬ (0 ≤ at_ ∧ at_ < d.safe.length)) :
    Calls Tryz.prog 98 #[.pointer (some ⟨bd, 0, none⟩), .int .i64 at_] w fun e w' => e = .returned (.tuple #[.string ⟨#[]⟩, ev]) ∧ Same S w w' := by
  have HH : Hid (Calls Tryz.prog 99 #[.pointer (some ⟨bd, 0, none⟩), .int .i64 at_] w fun e w' => e = .returned (.bool false) ∧ w = w') := by
    have h1 := dsk_has bd m S d at_ w h
    have e : (decide (0 ≤ at_) && decide (at_ < d.safe.length)) = false := by
      rw [Bool.and_eq_false_iff, decide_eq_false_iff_not, decide_eq_false_iff_not]
      omega
    rw [e] at h1
    exact h1
  have hnot : ∀ (x : Bool) (w : World), (Op.unary .not (.bool x)).run Tryz.prog w = .ok (.bool (!x)) w := fun _ _ => rfl
  clear h hbad
  go_enter_defers Tryz.func98, Tryz.ntmps98
  go_wp2_with fail
  refine HH.out.mono ?_
  rintro e w' ⟨rfl, rfl⟩
  go_wp2
  go_region
  all_goals
    go_wp2
    refine ⟨_, results_tmp2 rfl _ _ _, rfl, (Same.refl S w).drew⟩

set_option maxRecDepth 100000 in
set_option maxHeartbeats 1000000 in
theorem dsk_read (bd m : Nat) (S : Nat → Prop) (d : Dsk) (k : Nat) (w : World) (h : DskAt w S bd m d) (hk : k < d.safe.length) (hn : d.safe.length ≤ 4096) :
    Calls Tryz.prog 98 #[.pointer (some ⟨bd, 0, none⟩), .int .i64 (k : Int)] w fun e w' => e = .returned (.tuple #[.string (d.at k hk), .nilIface]) ∧ DskAt w' S bd m d ∧ Same S w w' := by
  have HH : Hid (Calls Tryz.prog 99 #[.pointer (some ⟨bd, 0, none⟩), .int .i64 (k : Int)] w fun e w' => e = .returned (.bool true) ∧ w = w') := by
    have h1 := dsk_has bd m S d k w h
    have e : (decide (0 ≤ (k : Int)) && decide ((k : Int) < d.safe.length)) = true := by
      rw [Bool.and_eq_true, decide_eq_true_iff, decide_eq_true_iff]
      omega
    rw [e] at h1
    exact h1
  obtain ⟨gs, bm, wv, h⟩ := h
  have c0 : w.cell? ⟨bd, 0, none⟩ = some (.int .i32 0) := cell_of_row _ _ _ _ _ _ h.blk
  have f0 := frozen_of_row w bd 0 _ _ h.blk
  obtain ⟨h1, s1⟩ := h.lockTo 1
  obtain ⟨w1, hw1⟩ : ∃ w1, w1 = w.setCell ⟨bd, 0, none⟩ (.int .i32 1) := ⟨_, rfl⟩
  have HL : Hid (Calls Tryz.prog 122 #[.pointer (some ⟨bd, 0, none⟩)] w fun e w' => e = .returned (.tuple #[]) ∧ w1 = w') := by
    refine (lock_free ⟨bd, 0, none⟩ w c0 f0).mono ?_
    rintro e w' ⟨rfl, rfl⟩
    exact ⟨rfl, hw1⟩
  rw [← hw1] at h1 s1
  have c3 : w1.cell? ⟨bd, 3, none⟩ = some (.map (some bm)) := cell_of_row _ _ _ _ _ _ h1.blk
  have hlb := lt_of_heap' h1.blk
  have hnot : ∀ (x : Bool) (w : World), (Op.unary .not (.bool x)).run Tryz.prog w = .ok (.bool (!x)) w := fun _ _ => rfl
  obtain ⟨A, hA⟩ : ∃ A, secV ((lastW d.wait k).getD z64) = .agg A := ⟨_, rfl⟩
  have hs64 : ((lastW d.wait k).getD z64).size = 64 := by
    cases hl : lastW d.wait k with
    | none => exact z64_size
    | some s =>
      have : ∀ (l : List (Nat × ByteArray)), (∀ x ∈ l, x.2.size = 64) → ∀ s, lastW l k = some s → s.size = 64 := by
        intro l
        refine snoc_ind (P := fun l => (∀ x ∈ l, x.2.size = 64) → ∀ s, lastW l k = some s → s.size = 64) (fun _ s e => by cases e) (fun l x ih hx s e => ?_) l
        obtain ⟨j, t⟩ := x
        rw [lastW_snoc] at e
        split at e
        · cases e
          exact hx (j, s) (by simp)
        · exact ih (fun y hy => hx y (by simp [hy])) s e
      exact this d.wait (fun x hx => (h1.rest.v2 x hx).2) s hl
  have hAs : A.size = 64 := by
    unfold secV at hA
    cases hA
    rw [List.size_toArray, bcells_length, Array.length_toList]
    exact hs64
  have HIA : Hid ((Tryz.prog.info? 199).map (·.size) = some A.size) := by show _ = _; rw [hAs]; kernel_rfl
  have HZA : Hid (∀ Z : Array Value, Z.size = 64 → Z.size = A.size) := fun Z hz => hz.trans hAs.symm
  have HOA : Hid (A.all (·.oneCell') = true) := by
    unfold secV at hA
    cases hA
    exact bcells_oneArr _
  have HMAP : Hid (w1.ownsMap Tryz.prog 3 heldR bm m (mapD d.wait)) := h1.rest.map
  have HV : Hid (DskV w1 S 1 bd gs bm m wv d) := h1
  have HS : Hid (Same S w w1) := s1
  have HAE : Hid (secV ((lastW d.wait k).getD z64) = .agg A) := hA
  have HS64 : Hid (((lastW d.wait k).getD z64).size = 64) := hs64
  clear h h1 s1 hw1 hA hAs c0 f0 hs64
  cases hok : lastW d.wait k with
  | some s =>
    have hk4 : k ≤ 4096 := by omega
    have HOK : Hid ((lastW d.wait k).isSome = true) := by rw [hok]; rfl
    have hAs : A = (bcells s.data.toList).toArray := by
      have h := HAE.out
      rw [hok] at h
      exact (Value.agg.inj h).symm
    have hs64 : s.size = 64 := by
      have h := HS64.out
      rw [hok] at h
      exact h
    have hcv := sec_string w1 s hs64 A hAs
    have hat : d.at k hk = s := by unfold Dsk.at; rw [hok]; rfl
    rw [hat]
    clear hat hAs hs64 hok
    go_enter_defers Tryz.func98, Tryz.ntmps98
    go_wp2_with (first | (go_at_call 99; refine HH.out.mono ?_; rintro e w' ⟨rfl, rfl⟩) | (go_at_call 122; refine HL.out.mono ?_; rintro e w' ⟨rfl, rfl⟩) | (at_lookup; refine wpList_lookup_sec rfl _ _ rfl bm m d.wait rfl HMAP.out k rfl hk4 A HAE.out true HOK.out ?_) | refine wpList_store_row rfl 199 _ _ rfl w1.heap.size A rfl rfl 199 _ (heap_alloc_new w1 _) HIA.out (HZA.out _ rfl) HOA.out ?_)
    have h2 := fun Z => HV.out.keep (below_row (Z := Z) (A := A) (t := 199))
    refine leaves_cons (f := 123) (args := #[.pointer (some ⟨bd, 0, none⟩)]) (by simp) (by simp [go_sem]) ?_
    refine (unlock_deferred ⟨bd, 0, none⟩ .returning _ (cell_of_row _ _ _ _ _ _ (h2 _).blk) (frozen_of_row _ _ _ _ _ (h2 _).blk)).mono ?_
    rintro e u' w'' ⟨rfl, rfl, hw⟩
    have h3 := fun Z => (h2 Z).lockTo 0
    refine ⟨_, results_tmp2 rfl _ _ _, rfl, ?_, ?_⟩
    · rw [hw]
      exact ⟨_, _, _, (h3 _).1⟩
    · rw [hw]
      exact HS.out.trans ((below_same S below_row).trans (h3 _).2)
  | none =>
    have hk4 : k ≤ 4096 := by omega
    have HOK : Hid ((lastW d.wait k).isSome = false) := by rw [hok]; rfl
    obtain ⟨s, hs⟩ : ∃ s, s = d.safe[k] := ⟨_, rfl⟩
    have hs64 : s.size = 64 := by rw [hs]; exact HV.out.rest.v1 _ (List.getElem_mem _)
    obtain ⟨C, hC⟩ : ∃ C, C = bcells s.data.toList := ⟨_, rfl⟩
    obtain ⟨B, hB⟩ : ∃ B, B = C.toArray := ⟨_, rfl⟩
    have hCl : C.length = 64 := by rw [hC, bcells_length, Array.length_toList]; exact hs64
    have hBs : B.size = 64 := by rw [hB, List.size_toArray]; exact hCl
    have HCV : Hid (∀ (Z : Array Value) (w2 w3 : World), w2 = (w1.alloc (.cells Z 199)).setRow w1.heap.size A → w3 = w2.setRow w1.heap.size B → (convert 128 9 (.slice (some ⟨w1.heap.size, 0, none⟩) 64 64)).run Tryz.prog w3 = .ok (.string s) w3) := fun Z w2 w3 e1 e2 => by
      rw [e2, e1, setRow_setRow]
      exact sec_string w1 s hs64 B (by rw [hB, hC]) Z
    have hat : d.at k hk = s := by unfold Dsk.at; rw [hok, hs]; rfl
    rw [hat]
    have HRG0 : Hid (∀ w2, Below w1.heap.size w1 w2 → w2.rangeAt gs (k * 64) C) := fun w2 hb => by
      rw [hC, hs]
      exact sec_range (HV.out.keep hb).rest.sec HV.out.rest.v1 k hk
    have HIC : Hid ((Tryz.prog.info? 199).map (·.size) = some C.length) := by show _ = _; rw [hCl]; kernel_rfl
    have HIB : Hid ((Tryz.prog.info? 199).map (·.size) = some B.size) := by show _ = _; rw [hBs]; kernel_rfl
    have HAB : Hid (A.size = B.size) := by show _ = _; rw [hBs]; exact (HZA.out (List.replicate 64 (Value.int .u8 0)).toArray (by simp)).symm.trans (by simp)
    have HOB : Hid (B.all (·.oneCell') = true) := by rw [hB, hC]; exact bcells_oneArr _
    have HBC : Hid (C.toArray = B) := hB.symm
    have hki : (k : Int) < d.safe.length := by omega
    clear hat hs64 hok hs hC hB hCl hBs
    go_enter_defers Tryz.func98, Tryz.ntmps98
    go_wp2_with (first | (go_at_call 99; refine HH.out.mono ?_; rintro e w' ⟨rfl, rfl⟩) | (go_at_call 122; refine HL.out.mono ?_; rintro e w' ⟨rfl, rfl⟩) | (at_lookup; refine wpList_lookup_sec rfl _ _ rfl bm m d.wait rfl HMAP.out k rfl hk4 A HAE.out false HOK.out ?_) | (refine wpList_store_rowA rfl 199 _ _ rfl w1.heap.size A rfl rfl 199 _ (heap_alloc_new w1 _) HIA.out (HZA.out _ rfl) HOA.out ?_; intro w2 hw2; have HB2 : Hid (Below w1.heap.size w1 w2) := (by rw [hw2.out]; exact below_row); have HCV2 := fun w3 => HCV.out _ w2 w3 hw2.out; have HCV3 : Hid (∀ w3, w3 = w2.setRow w1.heap.size B → (convert 128 9 (.slice (some ⟨w1.heap.size, 0, none⟩) 64 64)).run Tryz.prog w3 = .ok (.string s) w3) := HCV2; have HR2 : Hid (w2.heap[w1.heap.size]? = some (.cells A 199 (0, 0))) := (by rw [hw2.out]; exact setRow_heap _ _ _ _ _ _ (heap_alloc_new w1 _)); have c2 : w2.cell? ⟨bd, 2, none⟩ = some (.slice (some ⟨gs, 0, none⟩) d.safe.length d.safe.length) := cell_of_row _ _ _ _ _ _ (HV.out.keep HB2.out).blk; have HRG : Hid (w2.rangeAt gs (k * 64) C) := HRG0.out w2 HB2.out; clear HCV2 hw2) | (refine wpList_load_mid rfl 199 _ rfl gs (k * 64) rfl C _ HRG.out Tryz.underlying199 rfl HIC.out ?_; rw [HBC.out]) | (refine wpList_store_rowA rfl 199 _ _ rfl w1.heap.size B rfl rfl 199 A HR2.out HIB.out HAB.out HOB.out ?_; intro w3 hw3; have hcv := HCV3.out w3 hw3.out; have HB3 : Hid (Below w1.heap.size w1 w3) := (by rw [hw3.out]; exact below_setRow HB2.out (Nat.le_refl _) _)))
    have h2 := HV.out.keep HB3.out
    refine leaves_cons (f := 123) (args := #[.pointer (some ⟨bd, 0, none⟩)]) (by simp) (by simp [go_sem]) ?_
    refine (unlock_deferred ⟨bd, 0, none⟩ .returning _ (cell_of_row _ _ _ _ _ _ h2.blk) (frozen_of_row _ _ _ _ _ h2.blk)).mono ?_
    rintro e u' w'' ⟨rfl, rfl, hw⟩
    obtain ⟨h3, s3⟩ := h2.lockTo 0
    rw [← hw] at h3 s3
    exact ⟨_, results_tmp2 rfl _ _ _, rfl, ⟨_, _, _, h3⟩, HS.out.trans ((below_same S HB3.out).trans s3)⟩
end Go.Proofs.YtphhmjcobmnpeaaGreatDoor
