/- OWN TEXT: the law's steps of Disks: those on a pair. -/
import Derived.Test.YtphhmjcobmnpeaaGreatDoorLS1
namespace Go.Proofs.YtphhmjcobmnpeaaGreatDoor
open Go.RowKit Go.Maps

theorem Disk1.mono {w W W' : World} {o : Nat → Nat} {i k : Nat} {p : PairD} (h : Disk1 w W o i k p) (hb : Below W.heap.size W W') : Disk1 w W' o i k p := by
  have hs := below_same (fun _ => False) hb
  have up : ∀ q g, ownQ w W o q g → ownQ w W' o q g := fun q g hq => ⟨hq.1, hq.2.1, Nat.lt_of_lt_of_le hq.2.2 hb.size⟩
  exact ⟨(h.dsk.on hs (fun _ _ h => h)).mono (up _), (h.ref.on hs (fun _ _ h => h)).mono (up _), h.rel, h.wl, h.ml⟩
theorem DInvV.mono {w W W' : World} {i b : Nat} {kv av : Value} {ks : List Int} {l : List PairD} {left : Int} {o : Nat → Nat} (h : DInvV w i W b kv ks av l left o) (hb : Below W.heap.size W W') : DInvV w i W' b kv ks av l left o := by
  have hs := below_same (fun _ => False) hb
  have up : ∀ q g, ownQ w W o q g → ownQ w W' o q g := fun q g hq => ⟨hq.1, hq.2.1, Nat.lt_of_lt_of_le hq.2.2 hb.size⟩
  refine ⟨h.below.trans (hb.mono h.below.size), ?_, (h.keep.on hs (fun _ _ h => h)).mono (up _), h.kl, (h.all.on hs (fun _ _ h => h)).mono (up _), h.al, fun k hk => (h.each k hk).mono hb, h.lo, h.hi⟩
  rw [hb.block _ (lt_of_heap' h.row)]
  exact h.row
theorem DInvV.succ {w W : World} {i b : Nat} {kv av : Value} {ks : List Int} {l : List PairD} {left : Int} {o : Nat → Nat} (h : DInvV w i W b kv ks av l left o) : DInvV w (i + 1) W b kv ks av l left o :=
  ⟨h.below, h.row, h.keep, Nat.le_succ_of_le h.kl, h.all, Nat.le_succ_of_le h.al, fun k hk => ⟨(h.each k hk).dsk, (h.each k hk).ref, (h.each k hk).rel, Nat.le_succ_of_le (h.each k hk).wl, Nat.le_succ_of_le (h.each k hk).ml⟩, h.lo, h.hi⟩

theorem ldisk_any {w W : World} {a : Nat → Addr} (S0 : Sent w a) {i b k : Nat} {kv av : Value} {ks : List Int} {l : List PairD} {left : Int} {o : Nat → Nat} (h : DInvV w i W b kv ks av l left o) (hk : k < l.length) (hi : i ≤ 300000) (hl : 0 < left)
    (x : Stp) (hx : x.kind = 4 ∨ x.kind = 5 ∨ x.kind = 6 ∨ x.kind = 7 ∨ x.kind = 9 ∨ x.kind = 10 ∨ x.kind = 11) (hra : inR x.a) (g : Nat) (cap : Nat) (hav : av = .slice (some ⟨g, 0, none⟩) l.length cap) :
    Calls Tryz.prog 33 #[.pointer (some ⟨w.heap.size, 0, none⟩), .pointer (some ⟨g, k * 4, none⟩), stpV x] W fun e W' => e = .returned (.bool true) ∧ DInv w (i + 1) W' := by
  obtain ⟨g', cap', hv, hg, D⟩ := h.duo hk
  rw [hav] at hv
  cases hv
  have hnd : ¬ ownQ w W o (2 * k + 2) w.heap.size := fun h => by have := h.2.1; omega
  have hne : ¬ ownQ w W o (2 * k + 3) w.heap.size := fun h => by have := h.2.1; omega
  have hgw : w.heap.size ≠ g := by have := hg.2.1; omega
  have hlt := lt_of_heap' h.row
  have fin1 : ∀ W', Leaves2 w W i g (k * 4) l[k].bd l[k].be (ownQ w W o (2 * k + 2)) (ownQ w W o (2 * k + 3)) W' → Same (fun g => ownQ w W o (2 * k + 2) g ∨ ownQ w W o (2 * k + 3) g) W W' → DInv w (i + 1) W' := fun W' hL hs => by
    refine h.turn hk (k * 4) hL (hs.weak (fun g h => h.elim .inl (fun h => .inr (.inl h)))) ?_ (.inl ⟨rfl, rfl⟩) h.lo h.hi
    rw [hs.block _ hlt (by rintro (h | h); exact hnd h; exact hne h)]
    exact h.row
  have fin2 : ∀ W', Duo w W' i g (k * 4) l[k].bd l[k].be l[k].m (ownQ w W o (2 * k + 2)) (ownQ w W o (2 * k + 3)) l[k].d l[k].r → Same (ownQ w W o (2 * k + 2)) W W' → DInv w (i + 1) W' := fun W' hL hs => fin1 W' hL.leaves (hs.weak (fun _ h => .inl h))
  rcases hx with hx | hx | hx | hx | hx | hx | hx
  · refine (ldisk_read w W a S0 i w.heap.size g (k * 4) _ _ _ _ _ _ _ x hx hra D).mono ?_
    rintro e W' ⟨rfl, h1, h2⟩
    exact ⟨rfl, fin2 W' h1 h2⟩
  · refine (ldisk_write w W a S0 i w.heap.size g (k * 4) _ _ _ _ _ _ _ x hx D (by omega)).mono ?_
    rintro e W' ⟨rfl, h1, h2⟩
    exact ⟨rfl, fin1 W' h1 h2⟩
  · refine (ldisk_flush w W a S0 i w.heap.size g (k * 4) _ _ _ _ _ _ _ x hx D (by omega)).mono ?_
    rintro e W' ⟨rfl, h1, h2⟩
    exact ⟨rfl, fin1 W' h1 h2⟩
  · refine (ldisk_fuse w W i w.heap.size g (k * 4) _ _ _ _ _ _ _ x hx hra D).mono ?_
    rintro e W' ⟨rfl, h1, h2⟩
    exact ⟨rfl, fin1 W' h1 h2⟩
  · have hkl := h.kl
    refine (ldisk_crash w W i w.heap.size g (k * 4) _ _ _ _ _ _ _ x kv ks _ _ hx D (by omega) h.row rfl h.keep.1 (by omega) (fun q hq => ?_) ⟨Nat.le_refl _, hnd, hne, hgw⟩).mono ?_
    · have h0 := h.keep.2 q hq
      exact ⟨fun h1 => by have := h0.1; have := h1.1; omega, fun h1 => by have := h0.1; have := h1.1; omega⟩
    · rintro e W' ⟨rfl, h1, h2, h3⟩
      exact ⟨rfl, h.turn hk (k * 4) h1 h2 h3 (.inr ⟨rfl, rfl⟩) h.lo h.hi⟩
  · refine (ldisk_waiting w W i w.heap.size g (k * 4) _ _ _ _ _ _ _ x hx D).mono ?_
    rintro e W' ⟨rfl, h1, h2⟩
    exact ⟨rfl, fin2 W' h1 h2⟩
  · have hhi := h.hi
    have hsz := D.rel.size.2
    refine (ldisk_image w W a S0 i w.heap.size g (k * 4) _ _ _ _ _ _ _ x left _ _ hx D h.row rfl (by omega) (by omega) ⟨Nat.le_refl _, hnd, hne, hgw⟩).mono ?_
    rintro e W' ⟨rfl, h1, h2, h3⟩
    exact ⟨rfl, h.turn hk (k * 4) h1.leaves (h2.weak (fun g h => h.elim .inl (fun h => .inr (.inr h)))) h3 (.inl ⟨rfl, rfl⟩) (by omega) (by omega)⟩
end Go.Proofs.YtphhmjcobmnpeaaGreatDoor
