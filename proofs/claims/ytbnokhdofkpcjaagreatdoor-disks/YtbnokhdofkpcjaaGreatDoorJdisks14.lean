/- OWN TEXT: joined of: LS1 LS2 LS3 LS4 LS5 LS6 Laid CardFacts. -/
import Derived.Deep.AppendLies
import Derived.Deep.RegionLaw
import Derived.Test.YtbnokhdofkpcjaaGreatDoorRows
import Derived.ProofKit
import Derived.LaidMore
import Derived.LaidLaws
import Derived.LaidHandle
import Derived.SevenTiedAt
import Derived.Test.YtbnokhdofkpcjaaGreatDoorJdisks13
namespace Go.Proofs.YtbnokhdofkpcjaaGreatDoor
open Go.RowKit Go.Maps

theorem tmod_nat (q n : Nat) (hn : 0 < n) : ∃ k : Nat, k < n ∧ (q : Int).tmod n = k := ⟨q % n, Nat.mod_lt _ hn, by rw [Int.tmod_eq_emod_of_nonneg (by omega)]; rfl⟩
theorem pick_any (c : Int) (n : Nat) (w : World) (hc : inR c) (hn : 0 < n) (hb : n ≤ 1000000) :
    Calls Tryz.prog 71 #[.int .i64 c, .int .i64 (n : Int)] w fun e w' => (∃ k : Nat, k < n ∧ e = .returned (.int .i64 (k : Int))) ∧ w = w' := by
  obtain ⟨h1, h2⟩ := hc
  have hz : ((n : Int) == 0) = false := by simp; omega
  by_cases h0 : c < 0
  · have hw1 : IntKind.i64.wrap (c + 1) = c + 1 := by rw [IntKind.wrap_i64]; omega
    obtain ⟨q, hq⟩ : ∃ q : Nat, -(c + 1) = (q : Int) := ⟨(-(c + 1)).toNat, by omega⟩
    have hqb : (q : Int) ≤ 9223372036854775807 := by omega
    obtain ⟨k, hkn, hk⟩ := tmod_nat q n hn
    have hw2 : IntKind.i64.wrap (k : Int) = k := by rw [IntKind.wrap_i64]; omega
    go_enter Tryz.func71, Tryz.ntmps71
    go_wp2
    go_ret
    exact ⟨⟨k, hkn, rfl⟩, rfl⟩
  · obtain ⟨q, rfl⟩ : ∃ q : Nat, c = (q : Int) := ⟨c.toNat, by omega⟩
    obtain ⟨k, hkn, hk⟩ := tmod_nat q n hn
    have hw2 : IntKind.i64.wrap (k : Int) = k := by rw [IntKind.wrap_i64]; omega
    go_enter Tryz.func71, Tryz.ntmps71
    go_wp2
    go_ret
    exact ⟨⟨k, hkn, rfl⟩, rfl⟩

/-- One pair of disks. -/
structure PairD where
  bd : Nat
  be : Nat
  m : Nat
  d : Dsk
  r : RDsk
def pairV (p : PairD) : List Value := [.pointer (some ⟨p.bd, 0, none⟩), .pointer (some ⟨p.be, 0, none⟩), .pointer none, .pointer none]
def pairsV (l : List PairD) : List Value := l.flatMap pairV
theorem pairsV_length (l : List PairD) : (pairsV l).length = l.length * 4 := by
  induction l with
  | nil => rfl
  | cons p r ih =>
    have e : pairsV (p :: r) = pairV p ++ pairsV r := rfl
    rw [e, List.length_append, ih, List.length_cons]
    show 4 + _ = _
    omega
theorem pairsV_at : ∀ (l : List PairD) (k : Nat) (h : k < l.length) (j : Nat), j < 4 → (pairsV l)[k * 4 + j]? = (pairV l[k])[j]?
  | p :: r, 0, _, j, hj => by
    have e : pairsV (p :: r) = pairV p ++ pairsV r := rfl
    rw [e, Nat.zero_mul, Nat.zero_add, List.getElem?_append_left (by show j < 4; exact hj)]
    rfl
  | p :: r, k + 1, h, j, hj => by
    have e : pairsV (p :: r) = pairV p ++ pairsV r := rfl
    rw [e, List.getElem?_append_right (by show 4 ≤ _; omega)]
    have e2 : (k + 1) * 4 + j - (pairV p).length = k * 4 + j := by show (k + 1) * 4 + j - 4 = _; omega
    rw [e2]
    exact pairsV_at r k (by simpa using h) j hj

def dRow (b : Nat) (kv av : Value) (left : Int) : Array Value := #[.pointer (some ⟨b, 0, none⟩), kv, av, .slice none 0 0, .int .i64 0, .int .i64 left]
/-- The blocks of an owner. -/
def ownQ (w W : World) (o : Nat → Nat) (q : Nat) : Nat → Prop := fun g => o g = q ∧ w.heap.size < g ∧ g < W.heap.size
structure Disk1 (w W : World) (o : Nat → Nat) (i k : Nat) (p : PairD) : Prop where
  dsk : DskAt W (ownQ w W o (2 * k + 2)) p.bd p.m p.d
  ref : RefAt W (ownQ w W o (2 * k + 3)) p.be p.r
  rel : Rel p.d p.r
  wl : p.d.wait.length ≤ i
  ml : p.m ≤ i
structure DInvV (w : World) (i : Nat) (W : World) (b : Nat) (kv : Value) (ks : List Int) (av : Value) (l : List PairD) (left : Int) (o : Nat → Nat) : Prop where
  below : Below w.heap.size w W
  row : W.heap[w.heap.size]? = some (.cells (dRow b kv av left) 73 (0, 0))
  keep : OwnS W (ownQ w W o 0) 3 1 kv ks.length (kints ks)
  kl : ks.length ≤ i
  all : OwnS W (ownQ w W o 1) 152 4 av l.length (pairsV l)
  al : l.length ≤ i
  each : ∀ k (h : k < l.length), Disk1 w W o i k l[k]
  lo : -5000 ≤ left
  hi : left ≤ 262144
def DInv (w : World) (i : Nat) (W : World) : Prop := ∃ b kv ks av l left o, DInvV w i W b kv ks av l left o

theorem DInvV.duo {w W : World} {i b k : Nat} {kv av : Value} {ks : List Int} {l : List PairD} {left : Int} {o : Nat → Nat} (h : DInvV w i W b kv ks av l left o) (hk : k < l.length) :
    ∃ g cap, av = .slice (some ⟨g, 0, none⟩) l.length cap ∧ ownQ w W o 1 g ∧ Duo w W i g (k * 4) l[k].bd l[k].be l[k].m (ownQ w W o (2 * k + 2)) (ownQ w W o (2 * k + 3)) l[k].d l[k].r := by
  obtain ⟨g, cap, hv, hg, hc, -⟩ := h.all.open (by omega)
  have hD := h.each k hk
  have h0 := hc (k * 4 + 0) (by rw [pairsV_length]; omega)
  have h1 := hc (k * 4 + 1) (by rw [pairsV_length]; omega)
  have e0 := pairsV_at l k hk 0 (by omega)
  have e1 := pairsV_at l k hk 1 (by omega)
  rw [List.getElem?_eq_getElem (by rw [pairsV_length]; omega)] at e0 e1
  refine ⟨g, cap, hv, hg, ?_, ?_, hD.dsk, hD.ref, hD.rel, ?_, ⟨?_, ?_⟩, h.below, ?_, ?_, hD.wl, hD.ml⟩
  · exact h0.trans e0
  · exact h1.trans e1
  · rintro x ⟨hx, -⟩ ⟨hy, -⟩
    omega
  · rintro ⟨hx, -⟩
    have := hg.1
    omega
  · rintro ⟨hx, -⟩
    have := hg.1
    omega
  · rintro x (⟨-, hx, -⟩ | ⟨-, hx, -⟩) <;> omega
  · rintro x (⟨-, -, hx⟩ | ⟨-, -, hx⟩) <;> exact hx

open Classical in
/-- The owners behind a step on pair k. -/
noncomputable def newO (W : World) (o : Nat → Nat) (k : Nat) (Sd Se : Nat → Prop) : Nat → Nat := fun g => if g < W.heap.size then o g else if Sd g then 2 * k + 2 else if Se g then 2 * k + 3 else 0
theorem newO_old {W : World} {o : Nat → Nat} {k : Nat} {Sd Se : Nat → Prop} {g : Nat} (h : g < W.heap.size) : newO W o k Sd Se g = o g := by unfold newO; rw [if_pos h]
theorem newO_d {W : World} {o : Nat → Nat} {k : Nat} {Sd Se : Nat → Prop} {g : Nat} (h : ¬ g < W.heap.size) (hd : Sd g) : newO W o k Sd Se g = 2 * k + 2 := by unfold newO; rw [if_neg h, if_pos hd]
theorem newO_e {W : World} {o : Nat → Nat} {k : Nat} {Sd Se : Nat → Prop} {g : Nat} (h : ¬ g < W.heap.size) (hd : ¬ Sd g) (he : Se g) : newO W o k Sd Se g = 2 * k + 3 := by unfold newO; rw [if_neg h, if_neg hd, if_pos he]

/-- Behind a step on pair k, all is held as before. -/
theorem DInvV.turn {w W W' : World} {i b k : Nat} {kv kv' av : Value} {ks ks' : List Int} {l : List PairD} {left left' : Int} {o : Nat → Nat} (h : DInvV w i W b kv ks av l left o) (hk : k < l.length) {g0 : Nat} (po : Nat)
    (hL : Leaves2 w W i g0 po l[k].bd l[k].be (ownQ w W o (2 * k + 2)) (ownQ w W o (2 * k + 3)) W') (hs : Same (fun g => ownQ w W o (2 * k + 2) g ∨ ownQ w W o (2 * k + 3) g ∨ g = w.heap.size) W W')
    (hrow : W'.heap[w.heap.size]? = some (.cells (dRow b kv' av left') 73 (0, 0))) (hkeep : (kv' = kv ∧ ks' = ks) ∨ (kv' = .slice none 0 0 ∧ ks' = [])) (hlo : -5000 ≤ left') (hhi : left' ≤ 262144) : DInv w (i + 1) W' := by
  obtain ⟨m', Sd', Se', d', r', hD, hiff⟩ := hL
  have hz := hs.size
  have far : ∀ q g, ownQ w W o q g → q ≠ 2 * k + 2 → q ≠ 2 * k + 3 → ¬ (ownQ w W o (2 * k + 2) g ∨ ownQ w W o (2 * k + 3) g ∨ g = w.heap.size) := by
    rintro q g ⟨h1, h2, h3⟩ n1 n2 (⟨e, -⟩ | ⟨e, -⟩ | e) <;> omega
  have up : ∀ q g, ownQ w W o q g → ownQ w W' (newO W o k Sd' Se') q g := fun q g hq => ⟨by rw [newO_old hq.2.2]; exact hq.1, hq.2.1, by have := hq.2.2; omega⟩
  have upd : ∀ g, Sd' g → ownQ w W' (newO W o k Sd' Se') (2 * k + 2) g := fun g hg => by
    have h1 := hD.lo g (.inl hg)
    have h2 := hD.hi g (.inl hg)
    by_cases hl : g < W.heap.size
    · exact up _ g ((hiff g hl).1.1 hg)
    · have := h.below.size
      have := lt_of_heap' h.row
      exact ⟨newO_d hl hg, by omega, h2⟩
  have upe : ∀ g, Se' g → ownQ w W' (newO W o k Sd' Se') (2 * k + 3) g := fun g hg => by
    have h2 := hD.hi g (.inr hg)
    by_cases hl : g < W.heap.size
    · exact up _ g ((hiff g hl).2.1 hg)
    · have := lt_of_heap' h.row
      exact ⟨newO_e hl (fun hd => hD.dj g hd hg) hg, by omega, h2⟩
  refine ⟨b, kv', ks', av, l.set k ⟨l[k].bd, l[k].be, m', d', r'⟩, left', newO W o k Sd' Se', hD.base, hrow, ?_, ?_, ?_, ?_, ?_, hlo, hhi⟩
  · rcases hkeep with ⟨rfl, rfl⟩ | ⟨rfl, rfl⟩
    · exact (h.keep.on hs (fun g hg => far 0 g (h.keep.2 g hg) (by omega) (by omega))).mono (up 0)
    · exact ⟨⟨rfl, .inl ⟨rfl, rfl⟩⟩, fun g hg => by cases hg⟩
  · have := h.kl
    rcases hkeep with ⟨-, rfl⟩ | ⟨-, rfl⟩
    · omega
    · exact Nat.zero_le _
  · have e : pairsV (l.set k ⟨l[k].bd, l[k].be, m', d', r'⟩) = pairsV l := by
      unfold pairsV
      have hm : (l.set k ⟨l[k].bd, l[k].be, m', d', r'⟩).map pairV = l.map pairV := by
        rw [List.map_set]
        apply List.ext_getElem
        · simp
        · intro n h1 h2
          rw [List.getElem_set]
          split
          · subst k; simp [pairV]
          · rfl
      rw [List.flatMap_def, List.flatMap_def, hm]
    rw [e, List.length_set]
    exact (h.all.on hs (fun g hg => far 1 g (h.all.2 g hg) (by omega) (by omega))).mono (up 1)
  · rw [List.length_set]; have := h.al; omega
  · intro j hj
    rw [List.length_set] at hj
    by_cases hjk : j = k
    · subst hjk
      rw [List.getElem_set_self]
      exact ⟨hD.dsk.mono upd, hD.ref.mono upe, hD.rel, hD.wl, hD.ml⟩
    · rw [List.getElem_set_ne (fun e => hjk e.symm)]
      have h1 := h.each j hj
      have hwl := h1.wl
      have hml := h1.ml
      exact ⟨(h1.dsk.on hs (fun g hg => far _ g hg (by omega) (by omega))).mono (up _), (h1.ref.on hs (fun g hg => far _ g hg (by omega) (by omega))).mono (up _), h1.rel, by omega, by omega⟩
end Go.Proofs.YtbnokhdofkpcjaaGreatDoor
namespace Go.Proofs.YtbnokhdofkpcjaaGreatDoor
open Go.RowKit Go.Maps

theorem Disk1.mono {w W W' : World} {o : Nat → Nat} {i k : Nat} {p : PairD} (h : Disk1 w W o i k p) (hb : Below W.heap.size W W') : Disk1 w W' o i k p := by
  have hs := below_same (fun _ => False) hb
  have up : ∀ q g, ownQ w W o q g → ownQ w W' o q g := fun q g hq => ⟨hq.1, hq.2.1, Nat.lt_of_lt_of_le hq.2.2 hb.size⟩
  exact ⟨(h.dsk.on hs (fun _ _ h => h)).mono (up _), (h.ref.on hs (fun _ _ h => h)).mono (up _), h.rel, h.wl, h.ml⟩
theorem DInvV.mono {w W W' : World} {i b : Nat} {kv av : Value} {ks : List Int} {l : List PairD} {left : Int} {o : Nat → Nat} (h : DInvV w i W b kv ks av l left o) (hb : Below W.heap.size W W') : DInvV w i W' b kv ks av l left o := by
  have hs := below_same (fun _ => False) hb
  have up : ∀ q g, ownQ w W o q g → ownQ w W' o q g := fun q g hq => ⟨hq.1, hq.2.1, Nat.lt_of_lt_of_le hq.2.2 hb.size⟩
  refine ⟨h.below.trans (hb.mono h.below.size), ?_, (h.keep.on hs (fun _ _ h => h)).mono (up _), h.kl, (h.all.on hs (fun _ _ h => h)).mono (up _), h.al, fun k hk => (h.each k hk).mono hb, h.lo, h.hi⟩
  rw [hb.block _ (lt_of_heap' h.row)]
  exact h.row
theorem DInvV.succ {w W : World} {i b : Nat} {kv av : Value} {ks : List Int} {l : List PairD} {left : Int} {o : Nat → Nat} (h : DInvV w i W b kv ks av l left o) : DInvV w (i + 1) W b kv ks av l left o :=
  ⟨h.below, h.row, h.keep, Nat.le_succ_of_le h.kl, h.all, Nat.le_succ_of_le h.al, fun k hk => ⟨(h.each k hk).dsk, (h.each k hk).ref, (h.each k hk).rel, Nat.le_succ_of_le (h.each k hk).wl, Nat.le_succ_of_le (h.each k hk).ml⟩, h.lo, h.hi⟩

theorem ldisk_any {w W : World} {a : Nat → Addr} (S0 : Sent w a) {i b k : Nat} {kv av : Value} {ks : List Int} {l : List PairD} {left : Int} {o : Nat → Nat} (h : DInvV w i W b kv ks av l left o) (hk : k < l.length) (hi : i ≤ 300000) (hl : 0 < left)
    (x : Stp) (hx : x.kind = 4 ∨ x.kind = 5 ∨ x.kind = 6 ∨ x.kind = 7 ∨ x.kind = 9 ∨ x.kind = 10 ∨ x.kind = 11) (hra : inR x.a) (g : Nat) (cap : Nat) (hav : av = .slice (some ⟨g, 0, none⟩) l.length cap) :
    Calls Tryz.prog 72 #[.pointer (some ⟨w.heap.size, 0, none⟩), .pointer (some ⟨g, k * 4, none⟩), stpV x] W fun e W' => e = .returned (.bool true) ∧ DInv w (i + 1) W' := by
  obtain ⟨g', cap', hv, hg, D⟩ := h.duo hk
  rw [hav] at hv
  cases hv
  have hnd : ¬ ownQ w W o (2 * k + 2) w.heap.size := fun h => by have := h.2.1; omega
  have hne : ¬ ownQ w W o (2 * k + 3) w.heap.size := fun h => by have := h.2.1; omega
  have hgw : w.heap.size ≠ g := by have := hg.2.1; omega
  have hlt := lt_of_heap' h.row
  have fin1 : ∀ W', Leaves2 w W i g (k * 4) l[k].bd l[k].be (ownQ w W o (2 * k + 2)) (ownQ w W o (2 * k + 3)) W' → Same (fun g => ownQ w W o (2 * k + 2) g ∨ ownQ w W o (2 * k + 3) g) W W' → DInv w (i + 1) W' := fun W' hL hs => by
    refine h.turn hk (k * 4) hL (hs.weak (fun g h => h.elim .inl (fun h => .inr (.inl h)))) ?_ (.inl ⟨rfl, rfl⟩) h.lo h.hi
    rw [hs.block _ hlt (by rintro (h | h); exact hnd h; exact hne h)]
    exact h.row
  have fin2 : ∀ W', Duo w W' i g (k * 4) l[k].bd l[k].be l[k].m (ownQ w W o (2 * k + 2)) (ownQ w W o (2 * k + 3)) l[k].d l[k].r → Same (ownQ w W o (2 * k + 2)) W W' → DInv w (i + 1) W' := fun W' hL hs => fin1 W' hL.leaves (hs.weak (fun _ h => .inl h))
  rcases hx with hx | hx | hx | hx | hx | hx | hx
  · refine (ldisk_read w W a S0 i w.heap.size g (k * 4) _ _ _ _ _ _ _ x hx hra D).mono ?_
    rintro e W' ⟨rfl, h1, h2⟩
    exact ⟨rfl, fin2 W' h1 h2⟩
  · refine (ldisk_write w W a S0 i w.heap.size g (k * 4) _ _ _ _ _ _ _ x hx D (by omega)).mono ?_
    rintro e W' ⟨rfl, h1, h2⟩
    exact ⟨rfl, fin1 W' h1 h2⟩
  · refine (ldisk_flush w W a S0 i w.heap.size g (k * 4) _ _ _ _ _ _ _ x hx D (by omega)).mono ?_
    rintro e W' ⟨rfl, h1, h2⟩
    exact ⟨rfl, fin1 W' h1 h2⟩
  · refine (ldisk_fuse w W i w.heap.size g (k * 4) _ _ _ _ _ _ _ x hx hra D).mono ?_
    rintro e W' ⟨rfl, h1, h2⟩
    exact ⟨rfl, fin1 W' h1 h2⟩
  · have hkl := h.kl
    refine (ldisk_crash w W i w.heap.size g (k * 4) _ _ _ _ _ _ _ x kv ks _ _ hx D (by omega) h.row rfl h.keep.1 (by omega) (fun q hq => ?_) ⟨Nat.le_refl _, hnd, hne, hgw⟩).mono ?_
    · have h0 := h.keep.2 q hq
      exact ⟨fun h1 => by have := h0.1; have := h1.1; omega, fun h1 => by have := h0.1; have := h1.1; omega⟩
    · rintro e W' ⟨rfl, h1, h2, h3⟩
      exact ⟨rfl, h.turn hk (k * 4) h1 h2 h3 (.inr ⟨rfl, rfl⟩) h.lo h.hi⟩
  · refine (ldisk_waiting w W i w.heap.size g (k * 4) _ _ _ _ _ _ _ x hx D).mono ?_
    rintro e W' ⟨rfl, h1, h2⟩
    exact ⟨rfl, fin2 W' h1 h2⟩
  · have hhi := h.hi
    have hsz := D.rel.size.2
    refine (ldisk_image w W a S0 i w.heap.size g (k * 4) _ _ _ _ _ _ _ x left _ _ hx D h.row rfl (by omega) (by omega) ⟨Nat.le_refl _, hnd, hne, hgw⟩).mono ?_
    rintro e W' ⟨rfl, h1, h2, h3⟩
    exact ⟨rfl, h.turn hk (k * 4) h1.leaves (h2.weak (fun g h => h.elim .inl (fun h => .inr (.inr h)))) h3 (.inl ⟨rfl, rfl⟩) (by omega) (by omega)⟩
end Go.Proofs.YtbnokhdofkpcjaaGreatDoor
namespace Go.Proofs.YtbnokhdofkpcjaaGreatDoor
open Go.RowKit Go.Maps

theorem DInvV.left {w W : World} {i b : Nat} {kv av : Value} {ks : List Int} {l : List PairD} {left : Int} {o : Nat → Nat} (h : DInvV w i W b kv ks av l left o) : W.cell? ⟨w.heap.size, 5, none⟩ = some (.int .i64 left) := by
  rw [cell_of_row _ _ _ _ _ _ h.row]; rfl

set_option maxRecDepth 100000 in
set_option maxHeartbeats 4000000 in
theorem step_pair (w W : World) (a : Nat → Addr) (S0 : Sent w a) (i : Nat) (hi : i ≤ 300000) (x : Stp) (hx : x.kind = 4 ∨ x.kind = 5 ∨ x.kind = 6 ∨ x.kind = 7 ∨ x.kind = 9 ∨ x.kind = 10 ∨ x.kind = 11) (hra : inR x.a) (hrd : inR x.d) (I : DInv w i W)
    (hL : ∃ n : Int, 0 < n ∧ W.cell? ⟨w.heap.size, 5, none⟩ = some (.int .i64 n)) :
    Calls Tryz.prog 41 #[.pointer (some ⟨w.heap.size, 0, none⟩), stpV x] W fun e W' => e = .returned (.bool true) ∧ DInv w (i + 1) W' := by
  obtain ⟨b, kv, ks, av, l, left, o, I⟩ := I
  have hl0 : 0 < left := by
    obtain ⟨n, h1, h2⟩ := hL
    rw [I.left] at h2
    cases h2
    exact h1
  have HD : Hid (∀ V, Below W.heap.size W V → ∀ k, k < l.length → ∀ g cap, av = .slice (some ⟨g, 0, none⟩) l.length cap → Calls Tryz.prog 72 #[.pointer (some ⟨w.heap.size, 0, none⟩), .pointer (some ⟨g, k * 4, none⟩), stpV x] V fun e W' => e = .returned (.bool true) ∧ Hid (DInv w (i + 1) W')) := fun V hV k hk g cap hav => ldisk_any S0 (I.mono hV) hk hi hl0 x hx hra g cap hav
  obtain ⟨kd, xa, xb, xd, xs, xt⟩ := x
  simp only at hx hrd
  obtain ⟨W1, hW1⟩ : ∃ W1, W1 = W.alloc (.cells #[.int .i64 kd, .int .i64 xa, .int .i64 xb, .int .i64 xd, .string xs, .string xt] 67) := ⟨_, rfl⟩
  have hb1 : Below W.heap.size W W1 := by rw [hW1]; exact (Below.refl _ _).alloc (Nat.le_refl _) _
  have I1 := I.mono hb1
  have c2 : W1.cell? ⟨w.heap.size, 2, none⟩ = some av := by rw [cell_of_row _ _ _ _ _ _ I1.row]; rfl
  have d3 : W1.cell? ⟨W.heap.size, 3, none⟩ = some (.int .i64 xd) := by rw [hW1]; simp
  have d0 : W1.cell? ⟨W.heap.size, 0, none⟩ = some (.int .i64 kd) := by rw [hW1]; simp
  have d1 : W1.cell? ⟨W.heap.size, 1, none⟩ = some (.int .i64 xa) := by rw [hW1]; simp
  have d2 : W1.cell? ⟨W.heap.size, 2, none⟩ = some (.int .i64 xb) := by rw [hW1]; simp
  have d4 : W1.cell? ⟨W.heap.size, 4, none⟩ = some (.string xs) := by rw [hW1]; simp
  have d5 : W1.cell? ⟨W.heap.size, 5, none⟩ = some (.string xt) := by rw [hW1]; simp
  by_cases h0 : l.length = 0
  · obtain ⟨ao, c, rfl⟩ := own_shape I1.all
    rw [h0] at c2
    have HF : Hid (DInv w (i + 1) W1) := ⟨b, kv, ks, _, l, left, o, I1.succ⟩
    clear I1 I hL HD hb1 d3 d0 d1 d2 d4 d5 hrd hra
    rw [hW1] at c2 HF
    clear hW1
    rcases hx with rfl | rfl | rfl | rfl | rfl | rfl | rfl
    all_goals
      go_enter Tryz.func41, Tryz.ntmps41
      go_wp2
      go_ret
      exact ⟨rfl, HF.out⟩
  · obtain ⟨g, cap, hav, -, -⟩ := I1.duo (k := 0) (by omega)
    have hn := I.al
    obtain ⟨n, hn'⟩ : ∃ n, n = l.length := ⟨_, rfl⟩
    have HP : Hid (∀ V, Calls Tryz.prog 71 #[.int .i64 xd, .int .i64 (n : Int)] V fun e w' => (∃ k : Nat, k < n ∧ e = .returned (.int .i64 (k : Int))) ∧ V = w') := fun V => pick_any xd n V hrd (by omega) (by omega)
    have HE : Hid (∀ k, k < n → Calls Tryz.prog 72 #[.pointer (some ⟨w.heap.size, 0, none⟩), .pointer (some ⟨g, k * 4, none⟩), .agg #[.int .i64 kd, .int .i64 xa, .int .i64 xb, .int .i64 xd, .string xs, .string xt]] W1.drew fun e W' => e = .returned (.bool true) ∧ Hid (DInv w (i + 1) W')) := fun k hk => HD.out W1.drew hb1.drew k (by omega) g cap hav
    rw [hav, ← hn'] at c2
    have hn0 : ((n : Int) == 0) = false := by simp; omega
    have hnb : (n : Int) ≤ 300000 := by omega
    clear I1 I hL HD hb1 hrd hra hav hn' h0 hn
    rcases hx with rfl | rfl | rfl | rfl | rfl | rfl | rfl
    all_goals
      go_enter Tryz.func41, Tryz.ntmps41
      rw [hW1] at c2
      go_wp2
      rw [← hW1] at c2 ⊢
      clear hW1
      go_region_held3 (fun w' => w'.cell? ⟨w.heap.size, 2, none⟩ = some (.slice (some ⟨g, 0, none⟩) n cap) ∧ w'.cell? ⟨W.heap.size, 3, none⟩ = some (.int .i64 xd)) (((repeat' constructor) <;> first | assumption | (rw [World.cell?_drew]; assumption))) (first | (go_at_call 71; refine (HP.out _).mono ?_; rintro e w' ⟨⟨k, hk, rfl⟩, rfl⟩; have hk0 : (0 : Int) ≤ k := Int.natCast_nonneg k; have hk1 : (k : Int) < n := Int.ofNat_lt.2 hk))
      go_wp2_with (go_at_call 72; refine (HE.out k hk).mono ?_; rintro e W3 ⟨rfl, H3⟩)
      go_ret
      exact ⟨rfl, H3.out⟩
end Go.Proofs.YtbnokhdofkpcjaaGreatDoor
namespace Go.Proofs.YtbnokhdofkpcjaaGreatDoor
open Go.RowKit Go.Maps

theorem DInvV.keepOn {w W W' : World} {i b : Nat} {kv kv' av : Value} {ks ks' : List Int} {l : List PairD} {left : Int} {o : Nat → Nat} (h : DInvV w i W b kv ks av l left o) (hs : Same (fun g => kv.ownBlock = some g ∨ g = w.heap.size) W W')
    (hrow : W'.heap[w.heap.size]? = some (.cells (dRow b kv' av left) 73 (0, 0))) (hk : W'.ownsRow 0 3 1 kv' ks'.length (kints ks')) (hb : ∀ g, kv'.ownBlock = some g → kv.ownBlock = some g ∨ (W.heap.size ≤ g ∧ g < W'.heap.size)) (hl : ks'.length ≤ i + 1) : DInv w (i + 1) W' := by
  obtain ⟨o', ho'⟩ : ∃ o' : Nat → Nat, o' = fun g => if g < W.heap.size then o g else 0 := ⟨_, rfl⟩
  have hz := hs.size
  have hlt := lt_of_heap' h.row
  have far : ∀ q g, ownQ w W o q g → q ≠ 0 → ¬ (kv.ownBlock = some g ∨ g = w.heap.size) := by
    rintro q g ⟨h1, h2, h3⟩ n1 (e | e)
    · have := (h.keep.2 g e).1; omega
    · omega
  have up : ∀ q g, ownQ w W o q g → ownQ w W' o' q g := fun q g hq => ⟨by rw [ho']; show (if _ then _ else _) = _; rw [if_pos hq.2.2]; exact hq.1, hq.2.1, by have := hq.2.2; omega⟩
  have hal := h.al
  refine ⟨b, kv', ks', av, l, left, o', h.below.trans (hs.below ?_ h.below.size), hrow, ⟨hk, fun g hg => ?_⟩, hl, (h.all.on hs (fun g hg => far 1 g (h.all.2 g hg) (by omega))).mono (up 1), by omega, fun k hk => ?_, h.lo, h.hi⟩
  · rintro g (hg | rfl)
    · have := (h.keep.2 g hg).2.1; omega
    · exact Nat.le_refl _
  · rcases hb g hg with h1 | ⟨h1, h2⟩
    · exact up 0 g (h.keep.2 g h1)
    · exact ⟨by rw [ho']; show (if _ then _ else _) = _; rw [if_neg (by omega)], by omega, h2⟩
  · have h1 := h.each k hk
    have hwl := h1.wl
    have hml := h1.ml
    exact ⟨(h1.dsk.on hs (fun g hg => far _ g hg (by omega))).mono (up _), (h1.ref.on hs (fun g hg => far _ g hg (by omega))).mono (up _), h1.rel, by omega, by omega⟩

set_option maxRecDepth 100000 in
set_option maxHeartbeats 2000000 in
theorem step_keep (w W : World) (i : Nat) (hi : i ≤ 300000) (x : Stp) (hx : x.kind = 8) (I : DInv w i W) :
    Calls Tryz.prog 41 #[.pointer (some ⟨w.heap.size, 0, none⟩), stpV x] W fun e W' => e = .returned (.bool true) ∧ DInv w (i + 1) W' := by
  obtain ⟨b, kv, ks, av, l, left, o, I⟩ := I
  obtain ⟨kd, xa, xb, xd, xs, xt⟩ := x
  simp only at hx
  subst hx
  obtain ⟨W1, hW1⟩ : ∃ W1, W1 = W.alloc (.cells #[.int .i64 8, .int .i64 xa, .int .i64 xb, .int .i64 xd, .string xs, .string xt] 67) := ⟨_, rfl⟩
  have hb1 : Below W.heap.size W W1 := by rw [hW1]; exact (Below.refl _ _).alloc (Nat.le_refl _) _
  have I1 := I.mono hb1
  have c1 : W1.cell? ⟨w.heap.size, 1, none⟩ = some kv := by rw [cell_of_row _ _ _ _ _ _ I1.row]; rfl
  have d1 : W1.cell? ⟨W.heap.size, 1, none⟩ = some (.int .i64 xa) := by rw [hW1]; simp
  obtain ⟨ii, hii, hz0, hz1, hz2⟩ := info_parts infoInt
  have HI : Hid (DInvV w i W1 b kv ks av l left o) := I1
  have HL : Hid (ks.length ≤ i) := I1.kl
  have HKV : Hid (W1.ownsRow 0 3 1 kv ks.length (kints ks)) := I1.keep.1
  have HFIN : Hid (∀ g cap W3, W3.ownsRow 0 3 1 (.slice (some ⟨g, 0, none⟩) (ks.length + 1) cap) (ks.length + 1) (kints ks ++ [.int .i64 xa]) → (W1.alloc (.cells #[.int .i64 xa] 3)).drew.grownBy W3 kv.ownBlock → (kv.ownBlock = some g ∨ g = W1.heap.size + 1) → g < W3.heap.size →
      W3.heap[w.heap.size]? = some (.cells (dRow b kv av left) 73 (0, 0)) ∧ DInv w (i + 1) (W3.setCell ⟨w.heap.size, 1, none⟩ (.slice (some ⟨g, 0, none⟩) (ks.length + 1) cap))) := fun g cap W3 ho hg hat hlt => by
    have hlw := lt_of_heap' HI.out.row
    have hkw : ∀ q, kv.ownBlock = some q → q ≠ w.heap.size := fun q hq => by have := (HI.out.keep.2 q hq).2.1; omega
    have hbe : W3.heap[w.heap.size]? = some (.cells (dRow b kv av left) 73 (0, 0)) := by
      rw [hg.block _ (by simp; omega) (fun e => hkw _ e.symm rfl)]
      show (W1.alloc _).heap[_]? = _
      rw [Below.heap_alloc _ _ _ hlw]
      exact HI.out.row
    have hgw : g ≠ w.heap.size := by
      rcases hat with h | h
      · exact hkw g h
      · omega
    refine ⟨hbe, HI.out.keepOn (kv' := .slice (some ⟨g, 0, none⟩) (ks.length + 1) cap) (ks' := ks ++ [xa]) ⟨?_, ?_, ?_, ?_, fun q hq hn => ?_⟩ ?_ ?_ ?_ ?_⟩
    · rw [show (W3.setCell _ _).os = W3.os from rfl, hg.os]; rfl
    · rw [show (W3.setCell _ _).tape = W3.tape from rfl, hg.tape]; rfl
    · rw [show (W3.setCell _ _).output = W3.output from rfl, hg.output]; rfl
    · have := hg.size; simp at this ⊢; omega
    · rw [heap_setCell_other _ _ _ _ (fun e => hn (.inr e)), hg.block q (by simp; omega) (fun e => hn (.inl e.symm))]
      show (W1.alloc _).heap[_]? = _
      rw [Below.heap_alloc _ _ _ hq]
    · rw [heap_setCell_same W3 _ 1 _ _ _ hbe]; rfl
    · have e : kints (ks ++ [xa]) = kints ks ++ [.int .i64 xa] := by simp [kints]
      have e2 : (ks ++ [xa]).length = ks.length + 1 := by simp
      rw [e, e2]
      refine own_heap ho (fun q hq => ?_)
      cases hq
      exact heap_setCell_other _ _ _ _ hgw
    · intro q hq
      cases hq
      rcases hat with h | h
      · exact .inl h
      · exact .inr ⟨by show W1.heap.size ≤ g; omega, by simpa using hlt⟩
    · have := HL.out
      simp
      exact this
  have c1a : (W1.alloc (.cells #[.int .i64 xa] 3)).cell? ⟨w.heap.size, 1, none⟩ = some kv := by rw [World.cell?_alloc_some _ _ _ (by rw [c1]; rfl)]; exact c1
  clear I1 I hb1
  go_enter Tryz.func41, Tryz.ntmps41
  go_wp2
  rw [← hW1]
  clear hW1
  go_region_law (first | (refine step_append_lies _ rfl _ _ 34 rfl 0 3 ii (.int .i64 0) 1 8 Tryz.underlying34 hii hz0 hz1 hz2 rfl (by decide) kv ks.length (kints ks) rfl (World.ownsRow.alloc (w := W1) HKV.out _) ⟨W1.heap.size, 0, none⟩ 1 1 [.int .i64 xa] rfl rfl (fun j u hj => cell_one_new W1 _ _ j u hj) (by intro u hu; rw [List.mem_singleton] at hu; subst hu; rfl) (by decide) (by have := HL.out; unfold maxLen; omega) (by have := HL.out; omega) (by omega) (W1.heap.size + 1) (by simp) ?_; intro g cap W3 hown hgrow hat hlt; have hfin := HFIN.out g cap W3 hown hgrow hat hlt; have k3 : W3.cell? ⟨w.heap.size, 1, none⟩ = some kv := cell_of_row _ _ _ _ _ _ hfin.1; have f3 := frozen_of_row W3 w.heap.size 1 _ _ hfin.1; have HG : Hid (DInv w (i + 1) (W3.setCell ⟨w.heap.size, 1, none⟩ (.slice (some ⟨g, 0, none⟩) (ks.length + 1) cap))) := hfin.2; clear hfin hown hgrow hat hlt))
  all_goals
    go_wp2
    go_ret
    exact ⟨rfl, HG.out⟩
end Go.Proofs.YtbnokhdofkpcjaaGreatDoor
namespace Go.Proofs.YtbnokhdofkpcjaaGreatDoor
open Go.RowKit Go.Maps

/-- A pair more. -/
theorem DInvV.more {w W W3 WF : World} {i b n2 : Nat} {kv av av' : Value} {ks : List Int} {l : List PairD} {left left' : Int} {o : Nat → Nat} (h : DInvV w i W b kv ks av l left o) (p : PairD)
    (hs : Same (fun g => av.ownBlock = some g ∨ g = w.heap.size) W WF) (hs3 : Same (fun g => av.ownBlock = some g ∨ g = w.heap.size) W3 WF) (hz1 : W.heap.size ≤ n2) (hz2 : n2 ≤ W3.heap.size)
    (hrow : WF.heap[w.heap.size]? = some (.cells (dRow b kv av' left') 73 (0, 0))) (hall : WF.ownsRow 0 152 4 av' (l ++ [p]).length (pairsV (l ++ [p]))) (hb : ∀ g, av'.ownBlock = some g → av.ownBlock = some g ∨ (W3.heap.size ≤ g ∧ g < WF.heap.size))
    (hD : DskAt W3 (fun g => W.heap.size ≤ g ∧ g < n2) p.bd p.m p.d) (hR : RefAt W3 (fun g => n2 ≤ g ∧ g < W3.heap.size) p.be p.r) (hrel : Rel p.d p.r) (hw : p.d.wait.length ≤ i + 1) (hm : p.m ≤ i + 1) (hlo : -5000 ≤ left') (hhi : left' ≤ 262144) : DInv w (i + 1) WF := by
  obtain ⟨o', ho'⟩ : ∃ o' : Nat → Nat, o' = fun g => if g < W.heap.size then o g else if g < n2 then 2 * l.length + 2 else if g < W3.heap.size then 2 * l.length + 3 else 1 := ⟨_, rfl⟩
  have hz := hs.size
  have hz3 := hs3.size
  have hlt := lt_of_heap' h.row
  have halt : ∀ g, av.ownBlock = some g → g < W.heap.size := fun g hg => (h.all.2 g hg).2.2
  have far : ∀ q g, ownQ w W o q g → q ≠ 1 → ¬ (av.ownBlock = some g ∨ g = w.heap.size) := by
    rintro q g ⟨h1, h2, h3⟩ n1 (e | e)
    · have := (h.all.2 g e).1; omega
    · omega
  have up : ∀ q g, ownQ w W o q g → ownQ w WF o' q g := fun q g hq => ⟨by rw [ho']; show (if _ then _ else _) = _; rw [if_pos hq.2.2]; exact hq.1, hq.2.1, by have := hq.2.2; omega⟩
  have hal := h.al
  have hkl := h.kl
  refine ⟨b, kv, ks, av', l ++ [p], left', o', h.below.trans (hs.below ?_ h.below.size), hrow, (h.keep.on hs (fun g hg => far 0 g (h.keep.2 g hg) (by omega))).mono (up 0), by omega, ⟨hall, fun g hg => ?_⟩, by simp; omega, fun k hk => ?_, hlo, hhi⟩
  · rintro g (hg | rfl)
    · have := (h.all.2 g hg).2.1; omega
    · exact Nat.le_refl _
  · rcases hb g hg with h1 | ⟨h1, h2⟩
    · exact up 1 g (h.all.2 g h1)
    · exact ⟨by rw [ho']; show (if _ then _ else if _ then _ else if _ then _ else _) = _; rw [if_neg (by omega), if_neg (by omega), if_neg (by omega)], by omega, h2⟩
  · by_cases hkl : k < l.length
    · rw [List.getElem_append_left hkl]
      have h1 := h.each k hkl
      have hwl := h1.wl
      have hml := h1.ml
      exact ⟨(h1.dsk.on hs (fun g hg => far _ g hg (by omega))).mono (up _), (h1.ref.on hs (fun g hg => far _ g hg (by omega))).mono (up _), h1.rel, by omega, by omega⟩
    · have hk' : k = l.length := by simp at hk; omega
      subst hk'
      rw [List.getElem_append_right (Nat.le_refl _)]
      simp only [Nat.sub_self, List.getElem_cons_zero]
      have n1 : ∀ g, W.heap.size ≤ g → ¬ (av.ownBlock = some g ∨ g = w.heap.size) := by
        rintro g hg (e | e)
        · have := halt g e; omega
        · omega
      refine ⟨(hD.on hs3 (fun g hg => n1 g hg.1)).mono (fun g hg => ⟨?_, by omega, by omega⟩), (hR.on hs3 (fun g hg => n1 g (by omega))).mono (fun g hg => ⟨?_, by omega, by omega⟩), hrel, hw, hm⟩
      · rw [ho']; show (if _ then _ else if _ then _ else if _ then _ else _) = _; rw [if_neg (by omega), if_pos hg.2]
      · rw [ho']; show (if _ then _ else if _ then _ else if _ then _ else _) = _; rw [if_neg (by omega), if_neg (by omega), if_pos hg.2]

theorem infoPair : (Tryz.prog.info? 152).map (fun i => (i.zero, i.size, i.bytes)) = some (some (.agg #[.pointer none, .pointer none, .pointer none, .pointer none]), 4, 32) := by kernel_rfl
theorem cells_four (w : World) (x y z u : Value) (t : TypeId) : ∀ j v, [x, y, z, u][j]? = some v → (w.alloc (.cells #[x, y, z, u] t)).cell? ((⟨w.heap.size, 0, none⟩ : Addr).add j) = some v := by
  intro j v hj
  have e1 : (⟨w.heap.size, 0, none⟩ : Addr).add j = ⟨w.heap.size, j, none⟩ := by unfold Addr.add; split <;> simp_all
  rw [e1, cell_of_row _ _ _ _ _ _ (heap_alloc_new w _)]
  simpa using hj

set_option maxRecDepth 100000 in
set_option maxHeartbeats 2000000 in
theorem step_new (w W : World) (i : Nat) (hi : i ≤ 300000) (x : Stp) (hx : x.kind = 3) (hra : inR x.a) (I : DInv w i W) (hL : ∃ n : Int, 0 < n ∧ W.cell? ⟨w.heap.size, 5, none⟩ = some (.int .i64 n)) :
    Calls Tryz.prog 41 #[.pointer (some ⟨w.heap.size, 0, none⟩), stpV x] W fun e W' => e = .returned (.bool true) ∧ DInv w (i + 1) W' := by
  obtain ⟨b, kv, ks, av, l, left, o, I⟩ := I
  have hl0 : 0 < left := by
    obtain ⟨n, h1, h2⟩ := hL
    rw [I.left] at h2
    cases h2
    exact h1
  obtain ⟨kd, xa, xb, xd, xs, xt⟩ := x
  simp only at hx hra
  subst hx
  obtain ⟨W1, hW1⟩ : ∃ W1, W1 = W.alloc (.cells #[.int .i64 3, .int .i64 xa, .int .i64 xb, .int .i64 xd, .string xs, .string xt] 67) := ⟨_, rfl⟩
  have hb1 : Below W.heap.size W W1 := by rw [hW1]; exact (Below.refl _ _).alloc (Nat.le_refl _) _
  have d1 : W1.cell? ⟨W.heap.size, 1, none⟩ = some (.int .i64 xa) := by rw [hW1]; simp
  have hlt1 : W.heap.size < W1.heap.size := by rw [hW1]; simp
  have HA := dsk_new xa W1
  rw [hW1] at HA
  have HAH : Hid (Calls Tryz.prog 24 #[.int .i64 xa] (W.alloc (.cells #[.int .i64 3, .int .i64 xa, .int .i64 xb, .int .i64 xd, .string xs, .string xt] 67)) fun e w' => ∃ bd, e = .returned (.pointer (some ⟨bd, 0, none⟩)) ∧ DskAt w' (fun g => (W.alloc (.cells #[.int .i64 3, .int .i64 xa, .int .i64 xb, .int .i64 xd, .string xs, .string xt] 67)).heap.size ≤ g) bd 0 (Dsk.fresh (clampN xa)) ∧ Below (W.alloc (.cells #[.int .i64 3, .int .i64 xa, .int .i64 xb, .int .i64 xd, .string xs, .string xt] 67)).heap.size (W.alloc (.cells #[.int .i64 3, .int .i64 xa, .int .i64 xb, .int .i64 xd, .string xs, .string xt] 67)) w') := HA
  have HB : Hid (∀ V, Calls Tryz.prog 69 #[.int .i64 xa] V fun e w' => ∃ be, e = .returned (.pointer (some ⟨be, 0, none⟩)) ∧ RefAt w' (fun g => V.heap.size ≤ g) be (RDsk.fresh (clampN xa)) ∧ Below V.heap.size V w') := fun V => ref_new xa V hra
  obtain ⟨n, hn⟩ : ∃ n, n = clampN xa := ⟨_, rfl⟩
  have hnb := clampN_bound xa
  rw [← hn] at HAH HB hnb
  have HI : Hid (DInvV w i W b kv ks av l left o) := I
  have hhi := I.hi
  have hwrap : IntKind.i64.wrap (left - (n : Int)) = left - n := by rw [IntKind.wrap_i64]; omega
  clear HA hra hL I hn
  go_enter Tryz.func41, Tryz.ntmps41
  go_wp2_with fail
  refine HAH.out.mono ?_
  rintro e W2 ⟨bd, rfl, D2, B2⟩
  rw [← hW1] at D2 B2
  have d2 : W2.cell? ⟨W.heap.size, 1, none⟩ = some (.int .i64 xa) := by rw [B2.cell hlt1]; exact d1
  have HD2 : Hid (DskAt W2 (fun g => W1.heap.size ≤ g) bd 0 (Dsk.fresh n)) := D2
  have HB2 : Hid (Below W1.heap.size W1 W2) := B2
  clear D2 B2 HAH d1
  go_wp2_with fail
  refine (HB.out W2).mono ?_
  rintro e W3 ⟨be, rfl, R3, B3⟩
  have hb2 : Below W.heap.size W W2 := hb1.trans (HB2.out.mono (Nat.le_of_lt hlt1))
  have hb3 : Below W.heap.size W W3 := hb2.trans (B3.mono hb2.size)
  have hlw := lt_of_heap' HI.out.row
  have row3 : W3.heap[w.heap.size]? = some (.cells (dRow b kv av left) 73 (0, 0)) := by rw [hb3.block _ hlw]; exact HI.out.row
  have l3 : W3.cell? ⟨w.heap.size, 5, none⟩ = some (.int .i64 left) := cell_of_row _ _ _ _ _ _ row3
  have f3 := frozen_of_row W3 w.heap.size 5 _ _ row3
  obtain ⟨an, cn, s3⟩ : ∃ an cn, W3.cell? ⟨be, 1, none⟩ = some (.slice an n cn) := by
    obtain ⟨sv, nv, wv, hv⟩ := R3
    obtain ⟨an, cn, rfl⟩ := own_shape hv.seen
    refine ⟨an, cn, ?_⟩
    rw [cell_of_row _ _ _ _ _ _ hv.blk]
    show some (Value.slice an (List.replicate n z64).length cn) = _
    rw [List.length_replicate]
  have HD3 : Hid (DskAt W3 (fun g => W.heap.size ≤ g ∧ g < W2.heap.size) bd 0 (Dsk.fresh n)) := (HD2.out.tight.on (below_same (fun _ => False) B3) (fun _ _ h => h)).mono (fun g hg => ⟨Nat.le_trans hb1.size hg.1, hg.2⟩)
  have HR3 : Hid (RefAt W3 (fun g => W2.heap.size ≤ g ∧ g < W3.heap.size) be (RDsk.fresh n)) := R3.tight
  have HZ : Hid (W.heap.size ≤ W2.heap.size ∧ W2.heap.size ≤ W3.heap.size) := ⟨hb2.size, B3.size⟩
  have HB3 : Hid (Below W.heap.size W W3) := hb3
  obtain ⟨W4, hW4⟩ : ∃ W4, W4 = (W3.setCell ⟨w.heap.size, 5, none⟩ (.int .i64 (left - n))).drew := ⟨_, rfl⟩
  have row4 : W4.heap[w.heap.size]? = some (.cells (dRow b kv av (left - n)) 73 (0, 0)) := by
    rw [hW4]
    show (W3.setCell _ _).heap[_]? = _
    rw [heap_setCell_same W3 _ 5 _ _ _ row3]
    rfl
  have hs4 : Same (· = w.heap.size) W3 W4 := by
    rw [hW4]
    exact (Same.setCell (S := (· = w.heap.size)) (Same.refl _ _) ⟨w.heap.size, 5, none⟩ rfl _).drew
  have c4 : W4.cell? ⟨w.heap.size, 2, none⟩ = some av := cell_of_row _ _ _ _ _ _ row4
  have hown4 : W4.ownsRow 0 152 4 av l.length (pairsV l) := own_heap HI.out.all.1 (fun g hg => by
    have h1 := HI.out.all.2 g hg
    rw [hs4.block g (Nat.lt_of_lt_of_le h1.2.2 hb3.size) (by have := h1.2.1; show ¬ g = _; omega), hb3.block g h1.2.2])
  have HO4 : Hid (W4.ownsRow 0 152 4 av l.length (pairsV l)) := hown4
  have HS4 : Hid (Same (· = w.heap.size) W3 W4) := hs4
  have HR4 : Hid (W4.heap[w.heap.size]? = some (.cells (dRow b kv av (left - n)) 73 (0, 0))) := row4
  have HL : Hid (l.length ≤ 300000) := Nat.le_trans HI.out.al hi
  obtain ⟨ip, hip, hz0, hz1, hz2⟩ := info_parts infoPair
  have HLW : Hid (w.heap.size < W.heap.size) := hlw
  clear R3 B3 hb2 hb3 row3 hb1 hlt1 d2 HD2 HB2 HB hown4 hs4 row4 hlw hW1
  go_wp2
  go_region
  rw [← hW4]
  clear hW4 s3 l3 f3
  go_wp2_with (at_builtin; refine wpList_append_own_at _ rfl _ _ 70 rfl 0 152 ip (.agg #[.pointer none, .pointer none, .pointer none, .pointer none]) 4 32 Tryz.underlying70 hip hz0 hz1 hz2 rfl (by decide) _ _ _ rfl (World.ownsRow.alloc HO4.out _) _ 1 1 [.pointer (some ⟨bd, 0, none⟩), .pointer (some ⟨be, 0, none⟩), .pointer none, .pointer none] rfl rfl (cells_four _ _ _ _ _ _) ?c2 ?c3 ?c4 ?c5 ?_)
  case c2 => intro u hu; simp at hu; rcases hu with rfl | rfl | rfl <;> rfl
  case c3 => have := HL.out; unfold maxLen; omega
  case c4 => have := HL.out; omega
  case c5 => omega
  intro v' W5 hown' hgrow _ hat
  obtain ⟨g', cap', rfl⟩ : ∃ g' cap', v' = .slice (some ⟨g', 0, none⟩) (l.length + 1) cap' := by
    obtain ⟨-, h2 | ⟨g', cap', cur', hv', -⟩⟩ := hown'
    · omega
    · exact ⟨g', cap', hv'⟩
  have hz5 : W4.heap.size + 1 ≤ W5.heap.size := by have := hgrow.size; simpa using this
  have hz34 := HS4.out.size
  have hz13 := HB3.out.size
  have hlw := HLW.out
  have hav : ∀ q, av.ownBlock = some q → q < W.heap.size ∧ q ≠ w.heap.size := fun q hq => by
    have h1 := HI.out.all.2 q hq
    exact ⟨h1.2.2, by have := h1.2.1; omega⟩
  have hbe : W5.heap[w.heap.size]? = some (.cells (dRow b kv av (left - n)) 73 (0, 0)) := by
    rw [hgrow.block _ (by simp; omega) (fun e => (hav _ e.symm).2 rfl), Below.heap_alloc _ _ _ (by omega)]
    exact HR4.out
  have k5 : W5.cell? ⟨w.heap.size, 2, none⟩ = some av := cell_of_row _ _ _ _ _ _ hbe
  have f5 := frozen_of_row W5 w.heap.size 2 _ _ hbe
  have hat' : av.ownBlock = some g' ∨ g' = W4.heap.size + 1 := by
    rcases hat with e | e
    · exact .inl e.symm
    · exact .inr (by simpa [Value.ownBlock] using e)
  have hgw : g' ≠ w.heap.size := by
    rcases hat' with e | e
    · exact (hav g' e).2
    · omega
  have hs3 : Same (fun g => av.ownBlock = some g ∨ g = w.heap.size) W3 (W5.setCell ⟨w.heap.size, 2, none⟩ (.slice (some ⟨g', 0, none⟩) (l.length + 1) cap')) := by
    have h4 := HS4.out
    refine ⟨?_, ?_, ?_, by simp; omega, fun q hq hn' => ?_⟩
    · rw [show (W5.setCell _ _).os = W5.os from rfl, hgrow.os]; exact h4.os
    · rw [show (W5.setCell _ _).tape = W5.tape from rfl, hgrow.tape]; exact h4.tape
    · rw [show (W5.setCell _ _).output = W5.output from rfl, hgrow.output]; exact h4.output
    · rw [heap_setCell_other _ _ _ _ (fun e => hn' (.inr e)), hgrow.block q (by simp; omega) (fun e => hn' (.inl e.symm)), Below.heap_alloc _ _ _ (by omega), h4.block q hq (fun e => hn' (.inr e))]
  have HG : Hid (DInv w (i + 1) (W5.setCell ⟨w.heap.size, 2, none⟩ (.slice (some ⟨g', 0, none⟩) (l.length + 1) cap'))) := by
    refine HI.out.more (n2 := W2.heap.size) (av' := .slice (some ⟨g', 0, none⟩) (l.length + 1) cap') (left' := left - n) ⟨bd, be, 0, Dsk.fresh n, RDsk.fresh n⟩ ((below_same _ HB3.out).trans hs3) hs3 HZ.out.1 HZ.out.2 ?_ ?_ ?_ HD3.out HR3.out (Rel.fresh n hnb) (Nat.zero_le _) (Nat.zero_le _) (by omega) (by omega)
    · rw [heap_setCell_same W5 _ 2 _ _ _ hbe]; rfl
    · have e : pairsV (l ++ [⟨bd, be, 0, Dsk.fresh n, RDsk.fresh n⟩]) = pairsV l ++ [.pointer (some ⟨bd, 0, none⟩), .pointer (some ⟨be, 0, none⟩), .pointer none, .pointer none] := by simp [pairsV, pairV]
      have e2 : (l ++ [(⟨bd, be, 0, Dsk.fresh n, RDsk.fresh n⟩ : PairD)]).length = l.length + 1 := by simp
      rw [e, e2]
      refine own_heap hown' (fun q hq => ?_)
      cases hq
      exact heap_setCell_other _ _ _ _ hgw
    · intro q hq
      cases hq
      have hlg : g' < W5.heap.size := OwnS.lt (S := fun _ => True) ⟨hown', fun _ _ => trivial⟩ rfl
      rcases hat' with e | e
      · exact .inl e
      · exact .inr ⟨by show W3.heap.size ≤ g'; omega, by simpa using hlg⟩
  clear hown' hgrow hat hat' hs3 hbe hav hgw hz5 hz34 hz13 hlw HI HD3 HR3 HZ HB3 HO4 HS4 HR4 HL HLW
  go_wp2
  go_ret
  exact ⟨rfl, HG.out⟩
end Go.Proofs.YtbnokhdofkpcjaaGreatDoor
namespace Go.Proofs.YtbnokhdofkpcjaaGreatDoor
open Go.RowKit Go.Maps

theorem DInv.init {w w1 : World} {b : Nat} {kv hv : Value} (M : Made (w.alloc (.cells freshW 73)) w1 b kv hv) : DInv w 0 (w1.setCell ⟨w.heap.size, 0, none⟩ (.pointer (some ⟨b, 0, none⟩))) := by
  have S := SInv.init M
  have h0 : w1.heap[w.heap.size]? = some (.cells freshW 73 (0, 0)) := by
    rw [M.below.block _ (by simp)]
    exact heap_alloc_new w _
  refine ⟨b, .slice none 0 0, [], .slice none 0 0, [], 262144, fun _ => 0, ⟨S.below, ?_, ⟨⟨rfl, .inl ⟨rfl, rfl⟩⟩, fun g hg => (by cases hg)⟩, Nat.le_refl _, ⟨⟨rfl, .inl ⟨rfl, rfl⟩⟩, fun g hg => (by cases hg)⟩, Nat.le_refl _, fun k hk => (by cases hk), by omega, by omega⟩⟩
  rw [heap_setCell_same w1 _ 0 _ _ _ h0]
  rfl

theorem disks_steps (w : World) (l : List Stp) (hb : l.length ≤ 262144) (a : Nat → Addr) (S0 : Sent w a) : StepsN w 4088 l (DInv w) D4088 where
  below := fun _ _ h => by obtain ⟨b, kv, ks, av, l, left, o, I⟩ := h; exact I.below
  left := fun _ W h => by obtain ⟨b, kv, ks, av, l, left, o, I⟩ := h; exact ⟨left, I.left⟩
  mono := fun _ _ _ h hb => by obtain ⟨b, kv, ks, av, l, left, o, I⟩ := h; exact ⟨b, kv, ks, av, l, left, o, I.mono hb⟩
  succ := fun _ _ h => by obtain ⟨b, kv, ks, av, l, left, o, I⟩ := h; exact ⟨b, kv, ks, av, l, left, o, I.succ⟩
  init := fun _ _ _ _ M => DInv.init M
  does := fun x _ h1 h2 W => does4088 x h1 h2 W
  step := fun i x hi _ _ _ hd W I hL hra hrd => by
    unfold D4088 at hd
    rw [Bool.and_eq_true, decide_eq_true_iff, decide_eq_true_iff] at hd
    by_cases h3 : x.kind = 3
    · exact step_new w W i (by omega) x h3 hra I hL
    · by_cases h8 : x.kind = 8
      · exact step_keep w W i (by omega) x h8 I
      · exact step_pair w W a S0 i (by omega) x (by omega) hra hrd I hL
  looks := fun i W I => by
    have hI := I
    obtain ⟨b, kv, ks, av, l, left, o, I⟩ := I
    have c3 : W.cell? ⟨w.heap.size, 3, none⟩ = some (.slice none 0 0) := by rw [cell_of_row _ _ _ _ _ _ I.row]; rfl
    refine (looks_nil w.heap.size W c3).mono ?_
    rintro e W' ⟨rfl, rfl⟩
    exact ⟨rfl, hI⟩
set_option maxRecDepth 100000 in
theorem disks_any (v : Value) (l : List Stp) (w : World) (hs : Scr w v l) (a : Nat → Addr) (S0 : Sent w a) :
    Calls Tryz.prog 4 #[v] w fun e w' => e = .returned (.bool true) ∧ Below w.heap.size w w' := by
  have hp := plays_ofN 4088 4088 false v l w hs (fun w1 hb hl => ⟨_, _, disks_steps w1 l (by omega) a (S0.on hb)⟩)
  have HH : Hid (Calls Tryz.prog 13 #[v, .int .i64 4088, .int .i64 4088, .bool false] w fun e w' => PlaysPost w e w') := hp
  clear hp
  go_enter Tryz.func4, Tryz.ntmps4
  go_wp2_with fail
  refine HH.out.mono ?_
  rintro e w1 ⟨rfl, hb⟩
  have HB : Hid (Below w.heap.size w w1) := hb
  clear hb
  go_wp2
  go_ret
  exact ⟨rfl, HB.out⟩
end Go.Proofs.YtbnokhdofkpcjaaGreatDoor
namespace Go.Proofs.YtbnokhdofkpcjaaGreatDoor
open Go.ChangeShapes Go.WideShapes Go.RowKit

/-- A list of laid variables, position by position: each reads as listed; what one position's pointers lead to is met at no other. -/
theorem laid_all {P : Program} {W : World} : ∀ {l : List (String × DataW Unit)} {ps : List MemPlace}, DataW.LaidVars P W l ps → ps.Nodup →
    ∃ pl : Nat → List MemPlace, (∀ j (h : j < l.length), ∃ g t cs fuel, P.globalNamed l[j].1 = some g ∧ (P.globals[g]?).map (·.type) = some t ∧ W.var? P l[j].1 = some cs ∧
      DataW.trod (fun _ => ()) P W 0 (fun _ => true) false fuel t cs.toList = some (l[j].2, pl j) ∧ ∀ x ∈ MemPlace.row ⟨g, 0, none⟩ cs.size ++ pl j, x ∈ ps) ∧
      ∀ i j, i < j → j < l.length → ∀ x ∈ pl i, x ∉ pl j
  | [], ps, _, _ => ⟨fun _ => [], fun j h => absurd h (Nat.not_lt_zero _), fun i j _ h => absurd h (Nat.not_lt_zero _)⟩
  | (n, d) :: r, ps, h, hnd => by
    obtain ⟨g, t, cs, fuel, p, q, hg, ht, hv, hd, hr, e⟩ := h
    subst e
    have hnq : q.Nodup := (List.nodup_append.1 hnd).2.1
    obtain ⟨pl, h1, h2⟩ := laid_all hr hnq
    have hsub : ∀ j, j < r.length → ∀ x ∈ pl j, x ∈ q := fun j hj x hx => by
      obtain ⟨g', t', cs', fuel', _, _, _, _, hin⟩ := h1 j hj
      exact hin x (List.mem_append_right _ hx)
    refine ⟨fun j => match j with | 0 => p | j + 1 => pl j, ?_, ?_⟩
    · intro j hj
      match j, hj with
      | 0, _ => exact ⟨g, t, cs, fuel, hg, ht, hv, hd, fun x hx => List.mem_append_left _ hx⟩
      | j + 1, hj =>
        obtain ⟨g', t', cs', fuel', a1, a2, a3, a4, a5⟩ := h1 j (Nat.lt_of_succ_lt_succ hj)
        exact ⟨g', t', cs', fuel', a1, a2, a3, a4, fun x hx => List.mem_append_right _ (a5 x hx)⟩
    · intro i j hij hj x hx hx'
      match i, j, hij, hj with
      | 0, j + 1, _, hj =>
        have := hsub j (Nat.lt_of_succ_lt_succ hj) x hx'
        exact (List.nodup_append.1 hnd).2.2 x (List.mem_append_right _ hx) x this rfl
      | i + 1, j + 1, hij, hj => exact h2 i j (Nat.lt_of_succ_lt_succ hij) (Nat.lt_of_succ_lt_succ hj) x hx hx'

theorem star : "*" ++ "errors.errorString" = "*errors.errorString" := by decide
theorem rowE (u : TypeId) (h : Tryz.prog.typeName? 3 u = some "*errors.errorString") : u = 456 :=
  typeName_ptr_named (nm := "errors.errorString") (by rw [star]; kernel_rfl) (by kernel_rfl) (by decide) u (by rw [star]; exact h)
theorem cellsE : Tryz.prog.cellsOf 474 = 1 := by kernel_rfl
theorem cellsS : Tryz.prog.cellsOf 9 = 1 := by kernel_rfl

set_option maxRecDepth 100000 in
/-- One sentinel out of one position. -/
theorem sent_at {W : World} {n : String} {text : List UInt8} {g : Nat} {p ps : List MemPlace} {t : TypeId} {cs : Array Value} {fuel : Nat}
    (hg : Tryz.prog.globalNamed n = some g) (ht : (Tryz.prog.globals[g]?).map (·.type) = some 92) (ht' : (Tryz.prog.globals[g]?).map (·.type) = some t) (hv : W.var? Tryz.prog n = some cs)
    (hd : DataW.trod (fun _ => ()) Tryz.prog W 0 (fun _ => true) false fuel t cs.toList = some (.iface "*errors.errorString" (.ptr (.agg [.lit (.string text)])), p))
    (hin : ∀ x ∈ MemPlace.row ⟨g, 0, none⟩ cs.size ++ p, x ∈ ps)
    (hrows : ∀ b off, MemPlace.cell b off ∈ ps → (∃ c t, W.heap[b]? = some (.cells c t (0, 0))) ∧ ∀ u v, W.cell? ⟨b, off, none⟩ = some (.iface u v) → Value.okWide Tryz.prog W .any 0 u v) :
    ∃ a s, W.cell? ⟨g, 0, none⟩ = some (rv a) ∧ W.cell? a = some (.string s) ∧ s.size = text.length ∧ (∃ c t, W.heap[a.block]? = some (.cells c t (0, 0))) ∧ p = [.cell a.block a.off] := by
  obtain rfl := Option.some.inj (ht.symm.trans ht')
  obtain ⟨l⟩ := cs
  have ok : ∀ u v, l = [.iface u v] → Value.okWide Tryz.prog W .any 0 u v := fun u v e => by
    subst e
    have hmem : MemPlace.cell g 0 ∈ ps := hin (MemPlace.cell g 0) (List.mem_append_left _ (by simp [MemPlace.row]))
    have hc0 : W.cell? ⟨g, 0, none⟩ = some (.iface u v) := by
      have := World.var?_cell hg hv 0
      simpa using this
    exact (hrows g 0 hmem).2 u v hc0
  obtain ⟨a, s, rfl, hc, hs, _, rfl⟩ := errorString_of_trod Tryz.underlying92 rowE Tryz.underlying456 Tryz.underlying474 rfl rfl Tryz.underlying9 cellsE cellsS hd ok
  refine ⟨a, s, by simpa using World.var?_cell hg hv 0, hc, ?_, (hrows a.block a.off (hin _ (by simp [MemPlace.row]))).1, by simp [MemPlace.row]⟩
  rw [← hs, Array.length_toList, ByteArray.size_data]

/-- The reasons' names and texts, in order. -/
def named12 : List (String × List UInt8) := [("keepsake/keepsake.ErrArg", [97, 110, 32, 97, 114, 103, 117, 109, 101, 110, 116, 32, 116, 104, 97, 116, 32, 109, 97, 121, 32, 110, 111, 116, 32, 98, 101]), ("keepsake/keepsake.ErrDown", [116, 104, 101, 32, 100, 105, 115, 107, 32, 105, 115, 32, 100, 111, 119, 110]), ("keepsake/keepsake.ErrFormat", [110, 111, 32, 97, 114, 99, 104, 105, 118, 101, 32, 105, 115, 32, 116, 104, 101, 114, 101]), ("keepsake/keepsake.ErrCorrupt", [100, 97, 109, 97, 103, 101]), ("keepsake/keepsake.ErrPath", [97, 32, 112, 97, 116, 104, 32, 116, 104, 97, 116, 32, 109, 97, 121, 32, 110, 111, 116, 32, 98, 101]), ("keepsake/keepsake.ErrNone", [105, 116, 32, 105, 115, 32, 110, 111, 116, 32, 116, 104, 101, 114, 101]), ("keepsake/keepsake.ErrKind", [105, 116, 32, 105, 115, 32, 111, 102, 32, 116, 104, 101, 32, 111, 116, 104, 101, 114, 32, 107, 105, 110, 100]), ("keepsake/keepsake.ErrAgain", [105, 116, 32, 105, 115, 32, 116, 104, 101, 114, 101, 32, 97, 108, 114, 101, 97, 100, 121]), ("keepsake/keepsake.ErrBusy", [105, 116, 32, 105, 115, 32, 110, 111, 116, 32, 101, 109, 112, 116, 121]), ("keepsake/keepsake.ErrMany", [110, 111, 32, 114, 111, 111, 109, 32, 105, 110, 32, 97, 32, 100, 105, 114, 101, 99, 116, 111, 114, 121]), ("keepsake/keepsake.ErrBig", [116, 111, 111, 32, 109, 97, 110, 121, 32, 98, 121, 116, 101, 115]), ("keepsake/keepsake.ErrFull", [116, 104, 101, 32, 100, 105, 115, 107, 32, 105, 115, 32, 102, 117, 108, 108])]

theorem g12 : ∀ j, (h : j < named12.length) → ∃ g, Tryz.prog.globalNamed named12[j].1 = some g ∧ (Tryz.prog.globals[g]?).map (·.type) = some 92 ∧ g = [0, 1, 2, 3, 4, 5, 6, 7, 8, 9, 10, 11].getD j 0
  | 0, _ => ⟨0, by kernel_rfl, by kernel_rfl, rfl⟩
  | 1, _ => ⟨1, by kernel_rfl, by kernel_rfl, rfl⟩
  | 2, _ => ⟨2, by kernel_rfl, by kernel_rfl, rfl⟩
  | 3, _ => ⟨3, by kernel_rfl, by kernel_rfl, rfl⟩
  | 4, _ => ⟨4, by kernel_rfl, by kernel_rfl, rfl⟩
  | 5, _ => ⟨5, by kernel_rfl, by kernel_rfl, rfl⟩
  | 6, _ => ⟨6, by kernel_rfl, by kernel_rfl, rfl⟩
  | 7, _ => ⟨7, by kernel_rfl, by kernel_rfl, rfl⟩
  | 8, _ => ⟨8, by kernel_rfl, by kernel_rfl, rfl⟩
  | 9, _ => ⟨9, by kernel_rfl, by kernel_rfl, rfl⟩
  | 10, _ => ⟨10, by kernel_rfl, by kernel_rfl, rfl⟩
  | 11, _ => ⟨11, by kernel_rfl, by kernel_rfl, rfl⟩
  | j + 12, h => absurd h (by simp [named12])

theorem short12 : ∀ j, (h : j < named12.length) → 0 < named12[j].2.length ∧ named12[j].2.length < 1000 := by decide

def sentD (x : String × List UInt8) : String × DataW Unit := (x.1, .iface "*errors.errorString" (.ptr (.agg [.lit (.string x.2)])))

theorem et : Tryz.prog.globalNamed "errors.errorType" = some 12 := by kernel_rfl
theorem rt : (Tryz.prog.cutTypes.find? (·.1 == "internal/reflectlite.rtype")).map (·.2) = some 336 := by kernel_rfl
theorem oneRow : ((List.range 485).filter fun t => Tryz.prog.rowNamed t [101, 114, 114, 111, 114]) = [92] := by kernel_rfl
theorem tsize : Tryz.prog.types.size = 485 := by kernel_rfl

/-- The handle's cell. -/
theorem handle_of {W : World} {hs : List (String × DataW Unit)} (h : handlesMet Tryz.prog hs W) (hm : ("errors.errorType", .iface "internal/reflectlite.rtype" (.agg [.ptr (.lit (.string [101, 114, 114, 111, 114]))])) ∈ hs) :
    W.cell? ⟨12, 0, none⟩ = some (.iface 336 (.agg #[.pointer (some ⟨18, 92, none⟩)])) := by
  obtain ⟨name, u, ty, e1, e2, e3, e4, e5⟩ := h _ hm
  have en : name = [101, 114, 114, 111, 114] := (Option.some.inj e1).symm
  subst en
  obtain rfl := Option.some.inj (rt.symm.trans e2)
  have hm : ty ∈ (List.range 485).filter fun t => Tryz.prog.rowNamed t [101, 114, 114, 111, 114] := List.mem_filter.2 ⟨List.mem_range.2 (by rw [← tsize]; exact e3), e4⟩
  rw [oneRow] at hm
  obtain rfl := List.mem_singleton.1 hm
  have hh : typeHandle Tryz.prog 92 = .pointer (some ⟨18, 92, none⟩) := by kernel_rfl
  rw [hh] at e5
  simpa using World.var?_cell et e5 0

/-- 'Sent' out of a condition in which the twelve stand at the positions 'at_'. -/
theorem sent_of {W : World} {l : List (String × DataW Unit)} (pos : Nat → Nat) (hpos : ∀ j, (h : j < named12.length) → ∃ h' : pos j < l.length, l[pos j] = sentD named12[j]) (hinc : ∀ i j, i < j → pos i < pos j)
    (hm : laidMet Tryz.prog l W) (ht : W.cell? ⟨12, 0, none⟩ = some (.iface 336 (.agg #[.pointer (some ⟨18, 92, none⟩)]))) : ∃ a, Sent W a := by
  obtain ⟨ps, hl, hnd, hrows⟩ := hm
  obtain ⟨pl, h1, h2⟩ := laid_all hl hnd
  have one : ∀ j, (h : j < named12.length) → ∃ a s, W.cell? ⟨[0, 1, 2, 3, 4, 5, 6, 7, 8, 9, 10, 11].getD j 0, 0, none⟩ = some (rv a) ∧ W.cell? a = some (.string s) ∧ s.size = named12[j].2.length ∧ (∃ c t, W.heap[a.block]? = some (.cells c t (0, 0))) ∧ pl (pos j) = [.cell a.block a.off] := by
    intro j hj
    obtain ⟨hp, he⟩ := hpos j hj
    obtain ⟨g, t, cs, fuel, a1, a2, a3, a4, a5⟩ := h1 (pos j) hp
    obtain ⟨g', b1, b2, b3⟩ := g12 j hj
    rw [he] at a1 a3 a4
    obtain rfl := Option.some.inj (b1.symm.trans a1)
    rw [← b3]
    exact sent_at b1 b2 a2 a3 a4 a5 hrows
  have hlen : named12.length = 12 := rfl
  have one' : ∀ j, ∃ a : Addr, (h : j < named12.length) → ∃ s, W.cell? ⟨[0, 1, 2, 3, 4, 5, 6, 7, 8, 9, 10, 11].getD j 0, 0, none⟩ = some (rv a) ∧ W.cell? a = some (.string s) ∧ s.size = named12[j].2.length ∧ (∃ c t, W.heap[a.block]? = some (.cells c t (0, 0))) ∧ pl (pos j) = [.cell a.block a.off] := by
    intro j
    by_cases h : j < named12.length
    · obtain ⟨a, s, hs⟩ := one j h
      exact ⟨a, fun _ => ⟨s, hs⟩⟩
    · exact ⟨⟨0, 0, none⟩, fun h' => absurd h' h⟩
  obtain ⟨a, spec⟩ := Classical.axiomOfChoice one'
  refine ⟨a, ?_⟩
  exact {
    v0 := (spec 0 (by decide)).choose_spec.1
    v1 := (spec 1 (by decide)).choose_spec.1
    v2 := (spec 2 (by decide)).choose_spec.1
    v3 := (spec 3 (by decide)).choose_spec.1
    v4 := (spec 4 (by decide)).choose_spec.1
    v5 := (spec 5 (by decide)).choose_spec.1
    v6 := (spec 6 (by decide)).choose_spec.1
    v7 := (spec 7 (by decide)).choose_spec.1
    v8 := (spec 8 (by decide)).choose_spec.1
    v9 := (spec 9 (by decide)).choose_spec.1
    v10 := (spec 10 (by decide)).choose_spec.1
    v11 := (spec 11 (by decide)).choose_spec.1
    row := fun j hj => (spec j (by rw [hlen]; exact hj)).choose_spec.2.2.2.1
    text := fun j hj => by
      obtain ⟨s, _, hs, hz, _, _⟩ := spec j (by rw [hlen]; exact hj)
      have := short12 j (by rw [hlen]; exact hj)
      exact ⟨s, hs, by omega, by omega⟩
    inj := fun i j hi hj hij e => by
      obtain ⟨s, _, _, _, _, hp⟩ := spec i (by rw [hlen]; exact hi)
      obtain ⟨s', _, _, _, _, hp'⟩ := spec j (by rw [hlen]; exact hj)
      rw [e] at hp
      rcases Nat.lt_or_gt_of_ne hij with h | h
      · exact h2 _ _ (hinc i j h) (hpos j (by rw [hlen]; exact hj)).1 _ (by rw [hp]; exact List.mem_singleton.2 rfl) (by rw [hp']; exact List.mem_singleton.2 rfl)
      · exact h2 _ _ (hinc j i h) (hpos i (by rw [hlen]; exact hi)).1 _ (by rw [hp']; exact List.mem_singleton.2 rfl) (by rw [hp]; exact List.mem_singleton.2 rfl)
    ty := ht }
end Go.Proofs.YtbnokhdofkpcjaaGreatDoor
namespace Go.Proofs.YtbnokhdofkpcjaaGreatDoor

theorem k_main : Tryz.pinned.checked.prog.mainIs = some (true, ("a5bdd69e9582746949c8e84eed0d6134fc226438f06422e11e389a3d5ab4b345" : String).toList) := by kernel_rfl
theorem k_looks : true = Tryz.pinned.checked.prog.looks [] := by kernel_rfl
theorem k_stand : ([22].all fun u => !Tryz.prog.wantsStandIn u) = true := by kernel_rfl
theorem k_sums_wf : Rows.sumsRow.wfByText (OpenSpec.ofChange Rows.sumsSpec) = true := by kernel_rfl
theorem k_sums_goes : false = Rows.sumsRow.goesBy Tryz.pinned.checked.prog := by kernel_rfl
theorem k_disks_wf : Rows.disksRow.wfByText (OpenSpec.ofChange Rows.disksSpec) = true := by kernel_rfl
theorem k_disks_goes : false = Rows.disksRow.goesBy Tryz.pinned.checked.prog := by kernel_rfl
end Go.Proofs.YtbnokhdofkpcjaaGreatDoor
