/- OWN TEXT: the law's steps of Disks: pick; what is held between the steps. -/
import Derived.Test.YtphhmjcobmnpeaaGreatDoorLD6
import Derived.Test.YtphhmjcobmnpeaaGreatDoorUptoN
namespace Go.Proofs.YtphhmjcobmnpeaaGreatDoor
open Go.RowKit Go.Maps

theorem tmod_nat (q n : Nat) (hn : 0 < n) : ∃ k : Nat, k < n ∧ (q : Int).tmod n = k := ⟨q % n, Nat.mod_lt _ hn, by rw [Int.tmod_eq_emod_of_nonneg (by omega)]; rfl⟩
theorem pick_any (c : Int) (n : Nat) (w : World) (hc : inR c) (hn : 0 < n) (hb : n ≤ 1000000) :
    Calls Tryz.prog 32 #[.int .i64 c, .int .i64 (n : Int)] w fun e w' => (∃ k : Nat, k < n ∧ e = .returned (.int .i64 (k : Int))) ∧ w = w' := by
  obtain ⟨h1, h2⟩ := hc
  have hz : ((n : Int) == 0) = false := by simp; omega
  by_cases h0 : c < 0
  · have hw1 : IntKind.i64.wrap (c + 1) = c + 1 := by rw [IntKind.wrap_i64]; omega
    obtain ⟨q, hq⟩ : ∃ q : Nat, -(c + 1) = (q : Int) := ⟨(-(c + 1)).toNat, by omega⟩
    have hqb : (q : Int) ≤ 9223372036854775807 := by omega
    obtain ⟨k, hkn, hk⟩ := tmod_nat q n hn
    have hw2 : IntKind.i64.wrap (k : Int) = k := by rw [IntKind.wrap_i64]; omega
    go_enter Tryz.func32, Tryz.ntmps32
    go_wp2
    go_ret
    exact ⟨⟨k, hkn, rfl⟩, rfl⟩
  · obtain ⟨q, rfl⟩ : ∃ q : Nat, c = (q : Int) := ⟨c.toNat, by omega⟩
    obtain ⟨k, hkn, hk⟩ := tmod_nat q n hn
    have hw2 : IntKind.i64.wrap (k : Int) = k := by rw [IntKind.wrap_i64]; omega
    go_enter Tryz.func32, Tryz.ntmps32
    go_wp2
    go_ret
    exact ⟨⟨k, hkn, rfl⟩, rfl⟩

/-- One pair of disks. -/
structure PairD where
  bd : Nat
  be : Nat
  m : Nat
  d : Dsk
  r : RDsk
def pairV (p : PairD) : List Value := [.pointer (some ⟨p.bd, 0, none⟩), .pointer (some ⟨p.be, 0, none⟩), .pointer none, .pointer none]
def pairsV (l : List PairD) : List Value := l.flatMap pairV
theorem pairsV_length (l : List PairD) : (pairsV l).length = l.length * 4 := by
  induction l with
  | nil => rfl
  | cons p r ih =>
    have e : pairsV (p :: r) = pairV p ++ pairsV r := rfl
    rw [e, List.length_append, ih, List.length_cons]
    show 4 + _ = _
    omega
theorem pairsV_at : ∀ (l : List PairD) (k : Nat) (h : k < l.length) (j : Nat), j < 4 → (pairsV l)[k * 4 + j]? = (pairV l[k])[j]?
  | p :: r, 0, _, j, hj => by
    have e : pairsV (p :: r) = pairV p ++ pairsV r := rfl
    rw [e, Nat.zero_mul, Nat.zero_add, List.getElem?_append_left (by show j < 4; exact hj)]
    rfl
  | p :: r, k + 1, h, j, hj => by
    have e : pairsV (p :: r) = pairV p ++ pairsV r := rfl
    rw [e, List.getElem?_append_right (by show 4 ≤ _; omega)]
    have e2 : (k + 1) * 4 + j - (pairV p).length = k * 4 + j := by show (k + 1) * 4 + j - 4 = _; omega
    rw [e2]
    exact pairsV_at r k (by simpa using h) j hj

def dRow (b : Nat) (kv av : Value) (left : Int) : Array Value := #[.pointer (some ⟨b, 0, none⟩), kv, av, .slice none 0 0, .int .i64 0, .int .i64 left]
/-- The blocks of an owner. -/
def ownQ (w W : World) (o : Nat → Nat) (q : Nat) : Nat → Prop := fun g => o g = q ∧ w.heap.size < g ∧ g < W.heap.size
structure Disk1 (w W : World) (o : Nat → Nat) (i k : Nat) (p : PairD) : Prop where
  dsk : DskAt W (ownQ w W o (2 * k + 2)) p.bd p.m p.d
  ref : RefAt W (ownQ w W o (2 * k + 3)) p.be p.r
  rel : Rel p.d p.r
  wl : p.d.wait.length ≤ i
  ml : p.m ≤ i
structure DInvV (w : World) (i : Nat) (W : World) (b : Nat) (kv : Value) (ks : List Int) (av : Value) (l : List PairD) (left : Int) (o : Nat → Nat) : Prop where
  below : Below w.heap.size w W
  row : W.heap[w.heap.size]? = some (.cells (dRow b kv av left) 47 (0, 0))
  keep : OwnS W (ownQ w W o 0) 3 1 kv ks.length (kints ks)
  kl : ks.length ≤ i
  all : OwnS W (ownQ w W o 1) 89 4 av l.length (pairsV l)
  al : l.length ≤ i
  each : ∀ k (h : k < l.length), Disk1 w W o i k l[k]
  lo : -5000 ≤ left
  hi : left ≤ 262144
def DInv (w : World) (i : Nat) (W : World) : Prop := ∃ b kv ks av l left o, DInvV w i W b kv ks av l left o

theorem DInvV.duo {w W : World} {i b k : Nat} {kv av : Value} {ks : List Int} {l : List PairD} {left : Int} {o : Nat → Nat} (h : DInvV w i W b kv ks av l left o) (hk : k < l.length) :
    ∃ g cap, av = .slice (some ⟨g, 0, none⟩) l.length cap ∧ ownQ w W o 1 g ∧ Duo w W i g (k * 4) l[k].bd l[k].be l[k].m (ownQ w W o (2 * k + 2)) (ownQ w W o (2 * k + 3)) l[k].d l[k].r := by
  obtain ⟨g, cap, hv, hg, hc, -⟩ := h.all.open (by omega)
  have hD := h.each k hk
  have h0 := hc (k * 4 + 0) (by rw [pairsV_length]; omega)
  have h1 := hc (k * 4 + 1) (by rw [pairsV_length]; omega)
  have e0 := pairsV_at l k hk 0 (by omega)
  have e1 := pairsV_at l k hk 1 (by omega)
  rw [List.getElem?_eq_getElem (by rw [pairsV_length]; omega)] at e0 e1
  refine ⟨g, cap, hv, hg, ?_, ?_, hD.dsk, hD.ref, hD.rel, ?_, ⟨?_, ?_⟩, h.below, ?_, ?_, hD.wl, hD.ml⟩
  · exact h0.trans e0
  · exact h1.trans e1
  · rintro x ⟨hx, -⟩ ⟨hy, -⟩
    omega
  · rintro ⟨hx, -⟩
    have := hg.1
    omega
  · rintro ⟨hx, -⟩
    have := hg.1
    omega
  · rintro x (⟨-, hx, -⟩ | ⟨-, hx, -⟩) <;> omega
  · rintro x (⟨-, -, hx⟩ | ⟨-, -, hx⟩) <;> exact hx

open Classical in
/-- The owners behind a step on pair k. -/
noncomputable def newO (W : World) (o : Nat → Nat) (k : Nat) (Sd Se : Nat → Prop) : Nat → Nat := fun g => if g < W.heap.size then o g else if Sd g then 2 * k + 2 else if Se g then 2 * k + 3 else 0
theorem newO_old {W : World} {o : Nat → Nat} {k : Nat} {Sd Se : Nat → Prop} {g : Nat} (h : g < W.heap.size) : newO W o k Sd Se g = o g := by unfold newO; rw [if_pos h]
theorem newO_d {W : World} {o : Nat → Nat} {k : Nat} {Sd Se : Nat → Prop} {g : Nat} (h : ¬ g < W.heap.size) (hd : Sd g) : newO W o k Sd Se g = 2 * k + 2 := by unfold newO; rw [if_neg h, if_pos hd]
theorem newO_e {W : World} {o : Nat → Nat} {k : Nat} {Sd Se : Nat → Prop} {g : Nat} (h : ¬ g < W.heap.size) (hd : ¬ Sd g) (he : Se g) : newO W o k Sd Se g = 2 * k + 3 := by unfold newO; rw [if_neg h, if_neg hd, if_pos he]

/-- Behind a step on pair k, all is held as before. -/
theorem DInvV.turn {w W W' : World} {i b k : Nat} {kv kv' av : Value} {ks ks' : List Int} {l : List PairD} {left left' : Int} {o : Nat → Nat} (h : DInvV w i W b kv ks av l left o) (hk : k < l.length) {g0 : Nat} (po : Nat)
    (hL : Leaves2 w W i g0 po l[k].bd l[k].be (ownQ w W o (2 * k + 2)) (ownQ w W o (2 * k + 3)) W') (hs : Same (fun g => ownQ w W o (2 * k + 2) g ∨ ownQ w W o (2 * k + 3) g ∨ g = w.heap.size) W W')
    (hrow : W'.heap[w.heap.size]? = some (.cells (dRow b kv' av left') 47 (0, 0))) (hkeep : (kv' = kv ∧ ks' = ks) ∨ (kv' = .slice none 0 0 ∧ ks' = [])) (hlo : -5000 ≤ left') (hhi : left' ≤ 262144) : DInv w (i + 1) W' := by
  obtain ⟨m', Sd', Se', d', r', hD, hiff⟩ := hL
  have hz := hs.size
  have far : ∀ q g, ownQ w W o q g → q ≠ 2 * k + 2 → q ≠ 2 * k + 3 → ¬ (ownQ w W o (2 * k + 2) g ∨ ownQ w W o (2 * k + 3) g ∨ g = w.heap.size) := by
    rintro q g ⟨h1, h2, h3⟩ n1 n2 (⟨e, -⟩ | ⟨e, -⟩ | e) <;> omega
  have up : ∀ q g, ownQ w W o q g → ownQ w W' (newO W o k Sd' Se') q g := fun q g hq => ⟨by rw [newO_old hq.2.2]; exact hq.1, hq.2.1, by have := hq.2.2; omega⟩
  have upd : ∀ g, Sd' g → ownQ w W' (newO W o k Sd' Se') (2 * k + 2) g := fun g hg => by
    have h1 := hD.lo g (.inl hg)
    have h2 := hD.hi g (.inl hg)
    by_cases hl : g < W.heap.size
    · exact up _ g ((hiff g hl).1.1 hg)
    · have := h.below.size
      have := lt_of_heap' h.row
      exact ⟨newO_d hl hg, by omega, h2⟩
  have upe : ∀ g, Se' g → ownQ w W' (newO W o k Sd' Se') (2 * k + 3) g := fun g hg => by
    have h2 := hD.hi g (.inr hg)
    by_cases hl : g < W.heap.size
    · exact up _ g ((hiff g hl).2.1 hg)
    · have := lt_of_heap' h.row
      exact ⟨newO_e hl (fun hd => hD.dj g hd hg) hg, by omega, h2⟩
  refine ⟨b, kv', ks', av, l.set k ⟨l[k].bd, l[k].be, m', d', r'⟩, left', newO W o k Sd' Se', hD.base, hrow, ?_, ?_, ?_, ?_, ?_, hlo, hhi⟩
  · rcases hkeep with ⟨rfl, rfl⟩ | ⟨rfl, rfl⟩
    · exact (h.keep.on hs (fun g hg => far 0 g (h.keep.2 g hg) (by omega) (by omega))).mono (up 0)
    · exact ⟨⟨rfl, .inl ⟨rfl, rfl⟩⟩, fun g hg => by cases hg⟩
  · have := h.kl
    rcases hkeep with ⟨-, rfl⟩ | ⟨-, rfl⟩
    · omega
    · exact Nat.zero_le _
  · have e : pairsV (l.set k ⟨l[k].bd, l[k].be, m', d', r'⟩) = pairsV l := by
      unfold pairsV
      have hm : (l.set k ⟨l[k].bd, l[k].be, m', d', r'⟩).map pairV = l.map pairV := by
        rw [List.map_set]
        apply List.ext_getElem
        · simp
        · intro n h1 h2
          rw [List.getElem_set]
          split
          · subst k; simp [pairV]
          · rfl
      rw [List.flatMap_def, List.flatMap_def, hm]
    rw [e, List.length_set]
    exact (h.all.on hs (fun g hg => far 1 g (h.all.2 g hg) (by omega) (by omega))).mono (up 1)
  · rw [List.length_set]; have := h.al; omega
  · intro j hj
    rw [List.length_set] at hj
    by_cases hjk : j = k
    · subst hjk
      rw [List.getElem_set_self]
      exact ⟨hD.dsk.mono upd, hD.ref.mono upe, hD.rel, hD.wl, hD.ml⟩
    · rw [List.getElem_set_ne (fun e => hjk e.symm)]
      have h1 := h.each j hj
      have hwl := h1.wl
      have hml := h1.ml
      exact ⟨(h1.dsk.on hs (fun g hg => far _ g hg (by omega) (by omega))).mono (up _), (h1.ref.on hs (fun g hg => far _ g hg (by omega) (by omega))).mono (up _), h1.rel, by omega, by omega⟩
end Go.Proofs.YtphhmjcobmnpeaaGreatDoor
