/- OWN TEXT: joined of: RT5 RT6 RT7 RT8 RT9 RT10 RT11 RT12 RT13 PT7. -/
import Derived.Test.YtapijhhmjjplmaaGreatDoorJtrees5
namespace Go.Proofs.YtapijhhmjjplmaaGreatDoor
open Go.RowKit
/-- What spot tells of a path's text. -/
def spotR (T : Tre) (s : ByteArray) : Nat := match pathOf s with
  | none => 5
  | some [] => 5
  | some l => spotE T l
theorem StrsAt.init {w : World} {g c : Nat} {l : List ByteArray} (h : StrsAt w (.slice (some ⟨g, 0, none⟩) l.length c) l) (h0 : l ≠ []) (n : Nat) (hn : n + 1 = l.length) : StrsAt w (.slice (some ⟨g, 0, none⟩) n c) l.dropLast := by
  rcases h with ⟨h, -⟩ | ⟨g', c', hv, hg, hc⟩
  · exact absurd h h0
  · cases hv
    refine .inr ⟨g, c, by rw [List.length_dropLast, ← hn]; rfl, hg, fun j hj => ?_⟩
    rw [List.length_dropLast] at hj
    rw [hc j (by omega), List.getElem_dropLast]
theorem TreeR.on {w w' : World} {S : Nat → Prop} {tv : Value} {T : Tre} (h : TreeR w S tv T) (hb : Below w.heap.size w w') : TreeR w' S tv T :=
  OwnS.on (T := fun _ => False) h ⟨hb.os, hb.tape, hb.output, hb.size, fun k hk _ => hb.block k hk⟩ (fun _ _ h => h)
set_option maxRecDepth 100000 in
set_option maxHeartbeats 2000000 in
theorem ref_spot (S : Nat → Prop) (tv : Value) (T : Tre) (s : ByteArray) (w : World) (h : TreeR w S tv T) (hT : WFT T) (hs : s.size ≤ 262144) :
    Calls Tryz.prog 192 #[tv, .string s] w fun e w' => e = .returned (.int .i64 (spotR T s : Nat)) ∧ Below w.heap.size w w' := by
  have hnot : ∀ (x : Bool) (w : World), (Op.unary .not (.bool x)).run Tryz.prog w = .ok (.bool (!x)) w := fun _ _ => rfl
  have HH : Hid (TreeR w S tv T) := h
  have HT : Hid (WFT T) := hT
  have HN : Hid (Calls Tryz.prog 191 #[.string s] w fun e w' => NamesPost w s e w') := ref_names s w hs
  obtain ⟨at0, cp, rfl⟩ := own_sh h.1
  have hTl := hT.len
  clear h hT
  go_enter Tryz.func192, Tryz.ntmps192
  go_wp2_with fail
  refine HN.out.mono ?_
  rintro e w1 ⟨v, b, rfl, hb1, ⟨l, hl, rfl, hown⟩ | ⟨hl, rfl⟩⟩
  · have HB1 : Hid (Below w.heap.size w w1) := hb1
    by_cases h0 : l = []
    · subst h0
      obtain ⟨ao, c, rfl⟩ := own_sh hown
      have HP : Hid (spotR T s = 5) := by show _ = _; unfold spotR; rw [hl]
      clear hb1 hl hown
      go_wp2
      go_ret
      exact ⟨by rw [HP.out]; rfl, HB1.out⟩
    · have hsa := StrsAt.of_own hown
      obtain ⟨n, hn⟩ : ∃ n, n + 1 = l.length := ⟨l.length - 1, by have := List.length_pos_iff.2 h0; omega⟩
      obtain ⟨g, c, rfl⟩ : ∃ g c, v = .slice (some ⟨g, 0, none⟩) l.length c := by
        rcases hsa with ⟨h, -⟩ | ⟨g, c, hv, -⟩
        · exact absurd h h0
        · exact ⟨g, c, hv⟩
      have hcap : l.length ≤ c := by
        obtain ⟨-, h2 | ⟨g', cap', cur, hv, -, -, h3, -⟩⟩ := hown
        · cases h2.1
        · cases hv; exact h3
      have hv := pathOf_valid hl
      have hF := ref_Find S (.slice at0 T.length cp) (.slice (some ⟨g, 0, none⟩) n c) T l.dropLast w1 (HH.out.on hb1) HT.out hv.1.dropLast (by rw [List.length_dropLast]; omega) (hsa.init h0 n hn)
      have hsp : spotR T s = spotE T l := by
        unfold spotR
        rw [hl]
        cases l with
        | nil => exact absurd rfl h0
        | cons _ _ => rfl
      obtain ⟨q, hq⟩ : ∃ q, q = l.dropLast := ⟨_, rfl⟩
      unfold spotE at hsp
      rw [← hq] at hF hsp
      have HSP : Hid (spotR T s = if findE T [] q ≠ 0 then findE T [] q else if isF T q then 7 else 0) := hsp
      rw [← hn]
      have hn8 : n ≤ 8 := by omega
      have hnc : n + 1 ≤ c := by omega
      have HFI : Hid (Calls Tryz.prog 200 #[.slice at0 T.length cp, .slice (some ⟨g, 0, none⟩) n c] w1 fun e w' => e = .returned (.tuple #[.int .i64 (findAt T q), .int .i64 (findE T [] q : Nat)]) ∧ w1 = w') := hF
      have HR1 : Hid (TreeR w1 S (.slice at0 T.length cp) T) := HH.out.on hb1
      clear hF hsp hl hown hsa hb1 hv hcap h0 hq hn
      rcases findE_cases T q [] with hz | hz | hz
      · rw [hz, if_neg (by simp)] at HSP
        rw [hz] at HFI
        have hat : Hid (findAt T q = -1 ∧ isF T q = false ∨ ∃ (gi : Nat) (d : Bool) (m : Nat), at0 = some ⟨gi, 0, none⟩ ∧ findAt T q = (m : Int) ∧ m < T.length ∧ w1.cell? ⟨gi, m * 3 + 1, none⟩ = some (.bool d) ∧ isF T q = !d) := by
          unfold findAt
          rw [hz, if_neg (by simp)]
          by_cases hq : q = []
          · subst hq
            exact .inl ⟨rfl, by unfold isF; rw [look_root HT.out]⟩
          · rw [if_neg hq]
            have hs := findE_ok hz hq
            rw [List.nil_append] at hs
            obtain ⟨y, hy⟩ := Option.isSome_iff_exists.1 hs
            obtain ⟨hil, hiy⟩ := idx_some hy
            obtain ⟨gi, ci, hvi, -, -, hci, -⟩ := HR1.out.open (by omega)
            cases hvi
            refine .inr ⟨gi, y.dir, idxT T q, rfl, rfl, hil, ?_, ?_⟩
            · rw [(hci _ hil).2.1, hiy]
            · unfold isF; rw [hy]
        obtain ⟨a, ha⟩ : ∃ a, a = findAt T q := ⟨_, rfl⟩
        rw [← ha] at hat HFI
        obtain ⟨nT, hnT⟩ : ∃ nT, nT = T.length := ⟨_, rfl⟩
        rw [← hnT] at hTl HFI hat ⊢
        clear ha hnT hz
        rcases hat.out with ⟨rfl, hf⟩ | ⟨gi, d, m, rfl, rfl, hmT, cm, hf⟩
        · rw [hf] at HSP
          clear hat hf
          go_wp2_with (go_at_call 200; refine HFI.out.mono ?_; rintro e w2 ⟨rfl, rfl⟩)
          go_ret
          exact ⟨by rw [HSP.out]; rfl, HB1.out⟩
        · rw [hf] at HSP
          clear hat hf
          cases d
          · go_wp2_with (go_at_call 200; refine HFI.out.mono ?_; rintro e w2 ⟨rfl, rfl⟩)
            go_ret
            exact ⟨by rw [HSP.out]; rfl, HB1.out⟩
          · go_wp2_with (go_at_call 200; refine HFI.out.mono ?_; rintro e w2 ⟨rfl, rfl⟩)
            go_ret
            exact ⟨by rw [HSP.out]; rfl, HB1.out⟩
      · rw [hz, if_pos (by simp)] at HSP
        rw [hz] at HFI
        obtain ⟨a, ha⟩ : ∃ a, a = findAt T q := ⟨_, rfl⟩
        rw [← ha] at HFI
        clear hz ha
        go_wp2_with (go_at_call 200; refine HFI.out.mono ?_; rintro e w2 ⟨rfl, rfl⟩)
        go_ret
        exact ⟨by rw [HSP.out]; rfl, HB1.out⟩
      · rw [hz, if_pos (by simp)] at HSP
        rw [hz] at HFI
        obtain ⟨a, ha⟩ : ∃ a, a = findAt T q := ⟨_, rfl⟩
        rw [← ha] at HFI
        clear hz ha
        go_wp2_with (go_at_call 200; refine HFI.out.mono ?_; rintro e w2 ⟨rfl, rfl⟩)
        go_ret
        exact ⟨by rw [HSP.out]; rfl, HB1.out⟩
  · have HB1 : Hid (Below w.heap.size w w1) := hb1
    have HP : Hid (spotR T s = 5) := by show _ = _; unfold spotR; rw [hl]
    clear hb1 hl
    go_wp2
    go_ret
    exact ⟨by rw [HP.out]; rfl, HB1.out⟩
end Go.Proofs.YtapijhhmjjplmaaGreatDoor
namespace Go.Proofs.YtapijhhmjjplmaaGreatDoor
open Go.RowKit
/-- The last slash of the first m bytes. -/
def LastS (q : List UInt8) (m : Nat) (cut : Int) : Prop := (cut = -1 ∧ ∀ j, j < m → q[j]? ≠ some 47) ∨ ∃ c : Nat, cut = (c : Int) ∧ c < m ∧ q[c]? = some 47 ∧ ∀ j, c < j → j < m → q[j]? ≠ some 47
theorem LastS.start (q : List UInt8) : LastS q 0 (-1) := .inl ⟨rfl, fun _ h => absurd h (Nat.not_lt_zero _)⟩
theorem LastS.hit {q : List UInt8} {m : Nat} (h : q[m]? = some 47) : LastS q (m + 1) m := .inr ⟨m, rfl, by omega, h, fun j h1 h2 => by omega⟩
theorem LastS.miss {q : List UInt8} {m : Nat} {cut : Int} (h : LastS q m cut) (hm : q[m]? ≠ some 47) : LastS q (m + 1) cut := by
  rcases h with ⟨e, h⟩ | ⟨c, e, h1, h2, h3⟩
  · exact .inl ⟨e, fun j hj => by
      rcases Nat.lt_or_ge j m with h' | h'
      · exact h j h'
      · have : j = m := by omega
        subst this; exact hm⟩
  · exact .inr ⟨c, e, by omega, h2, fun j h4 h5 => by
      rcases Nat.lt_or_ge j m with h' | h'
      · exact h3 j h4 h'
      · have : j = m := by omega
        subst this; exact hm⟩
def lastN (x : List ByteArray) : ByteArray := x.getLast?.getD ⟨#[]⟩
theorem joinB_last {x : List ByteArray} (hv : Valid x) (h0 : x ≠ []) : (x.dropLast = [] ∧ joinB x = lastN x) ∨ (x.dropLast ≠ [] ∧ joinB x = joinB x.dropLast ++ slash ++ lastN x) := by
  have e := names_last h0
  by_cases hd : x.dropLast = []
  · refine .inl ⟨hd, ?_⟩
    conv => lhs; rw [← e, hd]
    rw [List.nil_append]
    rfl
  · refine .inr ⟨hd, ?_⟩
    conv => lhs; rw [← e]
    rw [joinB_snoc]
    unfold jn
    have := (joinB_data x.dropLast hv.dropLast).2 hd
    rw [if_neg (by omega)]
    rfl
theorem lastN_mem {x : List ByteArray} (h0 : x ≠ []) : lastN x ∈ x := by
  unfold lastN
  rw [List.getLast?_eq_some_getLast h0]
  exact List.getLast_mem h0
theorem last_cut {x : List ByteArray} (hv : Valid x) (h0 : x ≠ []) {q : ByteArray} (hq : q = joinB x) {cut : Int} (h : LastS (bl q) q.size cut) :
    (cut = -1 ∧ x.dropLast = [] ∧ q = lastN x) ∨ ∃ c : Nat, cut = (c : Int) ∧ c < q.size ∧ q.extract 0 c = joinB x.dropLast ∧ q.extract (c + 1) q.size = lastN x := by
  have hns := nm_noslash (hv (lastN x) (lastN_mem h0))
  rcases joinB_last hv h0 with ⟨hd, hj⟩ | ⟨hd, hj⟩
  · rw [← hq] at hj
    rcases h with ⟨e, h⟩ | ⟨c, e, h1, h2, h3⟩
    · exact .inl ⟨e, hd, hj⟩
    · rw [hj] at h2
      exact absurd rfl (hns 47 (List.mem_of_getElem? h2))
  · rw [← hq] at hj
    have hb : bl q = bl (joinB x.dropLast) ++ 47 :: bl (lastN x) := by
      rw [hj, bl_append, bl_append]
      show _ ++ [47] ++ _ = _
      simp
    obtain ⟨A, hA⟩ : ∃ A, A = bl (joinB x.dropLast) := ⟨_, rfl⟩
    rw [← hA] at hb
    have hz : q.size = A.length + 1 + (bl (lastN x)).length := by rw [← bl_length, hb]; simp; omega
    have hat : (bl q)[A.length]? = some 47 := by rw [hb]; simp
    have haf : ∀ j, A.length < j → (bl q)[j]? ≠ some 47 := fun j hj e => by
      rw [hb, List.getElem?_append_right (by omega)] at e
      obtain ⟨t, ht⟩ : ∃ t, j - A.length = t + 1 := ⟨j - A.length - 1, by omega⟩
      rw [ht, List.getElem?_cons_succ] at e
      exact hns 47 (List.mem_of_getElem? e) rfl
    rcases h with ⟨e, h⟩ | ⟨c, e, h1, h2, h3⟩
    · exact absurd hat (h _ (by omega))
    · have hc : c = A.length := by
        rcases Nat.lt_trichotomy c A.length with h' | h' | h'
        · exact absurd hat (h3 _ h' (by omega))
        · exact h'
        · exact absurd h2 (haf c h')
      subst hc
      refine .inr ⟨_, e, by omega, ?_, ?_⟩
      · apply bl_inj
        rw [bl_extract, hb, ← hA]
        simp
      · apply bl_inj
        rw [bl_extract, hb, hz]
        simp
/-- A list in which the name y is on its way to its place. -/
structure Sinks (L A B : List ByteArray) (y : ByteArray) : Prop where
  eq : A ++ B = L
  ord : L.Pairwise (fun a b => leB a b = true)
  ge : ∀ b ∈ B, leB y b = true
theorem Sinks.start {L : List ByteArray} (h : L.Pairwise (fun a b => leB a b = true)) (y : ByteArray) : Sinks L L [] y := ⟨List.append_nil _, h, by simp⟩
theorem Sinks.down {L A B : List ByteArray} {y z : ByteArray} (h : Sinks L (A ++ [z]) B y) (hlt : leB y z = true) : Sinks L A (z :: B) y :=
  ⟨by rw [← h.eq]; simp, h.ord, fun b hb => by
    rcases List.mem_cons.1 hb with rfl | hb
    · exact hlt
    · exact h.ge b hb⟩
theorem Sinks.done {L A B : List ByteArray} {y : ByteArray} (h : Sinks L A B y) (hle : A = [] ∨ ∃ A' z, A = A' ++ [z] ∧ leB z y = true) : (A ++ y :: B).Pairwise (fun a b => leB a b = true) ∧ (A ++ y :: B).Perm (L ++ [y]) := by
  refine ⟨?_, ?_⟩
  · have ho := h.ord
    rw [← h.eq, List.pairwise_append] at ho
    rw [List.pairwise_append, List.pairwise_cons]
    refine ⟨ho.1, ⟨h.ge, ho.2.1⟩, fun a ha b hb => ?_⟩
    rcases List.mem_cons.1 hb with rfl | hb
    · rcases hle with rfl | ⟨A', z, rfl, hz⟩
      · cases ha
      · rcases List.mem_append.1 ha with h1 | h1
        · have := (List.pairwise_append.1 ho.1).2.2 a h1 z (by simp)
          exact leB_trans _ _ _ this hz
        · simp at h1
          rw [h1]; exact hz
    · exact ho.2.2 a ha b hb
  · rw [← h.eq]
    exact (List.perm_middle.trans (List.perm_append_singleton y (A ++ B)).symm)
theorem kidsU_take (T : Tre) (p : List ByteArray) (k : Nat) (hk : k < T.length) : kidsU (T.take (k + 1)) p = kidsU (T.take k) p ++ (if T[k].names.dropLast = p then [lastN T[k].names] else []) := by
  unfold kidsU
  rw [List.take_succ_eq_append_getElem hk, List.filter_append, List.map_append, List.filter_cons]
  congr 1
  by_cases h : T[k].names.dropLast = p
  · rw [if_pos (by simpa using h), if_pos h]; rfl
  · rw [if_neg (by simpa using h), if_neg h]; rfl
theorem own_up {w : World} {B : Nat} {e : TypeId} {k : Nat} {v : Value} {n : Nat} {xs : List Value} (h : w.ownsRow 0 e k v n xs) (hb : ∀ g, v.ownBlock = some g → B ≤ g) : w.ownsRow B e k v n xs := by
  obtain ⟨h1, h2 | ⟨g, cap, cur, hv, hB, hr⟩⟩ := h
  · exact ⟨h1, .inl h2⟩
  · exact ⟨h1, .inr ⟨g, cap, cur, hv, hb g (by rw [hv]; rfl), hr⟩⟩
/-- A cell of a row of strings is written. -/
theorem own_set {w : World} {B g c : Nat} {l : List ByteArray} (h : w.ownsRow B 9 1 (.slice (some ⟨g, 0, none⟩) l.length c) l.length (strs l)) (j : Nat) (y : ByteArray) : (w.setCell ⟨g, j, none⟩ (.string y)).ownsRow B 9 1 (.slice (some ⟨g, 0, none⟩) (l.set j y).length c) (l.set j y).length (strs (l.set j y)) := by
  have h1 := OwnS.set (S := fun _ => True) (⟨own_base h (Nat.zero_le _), fun _ _ => trivial⟩) j (.string y)
  have e : (strs l).set j (.string y) = strs (l.set j y) := by simp [strs, List.map_set]
  rw [e] at h1
  rw [List.length_set]
  exact own_up h1.1 (own_base_of h)
theorem set_mid (A B : List ByteArray) (y z : ByteArray) : ((A ++ [z] ++ y :: B).set (A.length + 1) z).set A.length y = A ++ y :: z :: B := by
  rw [List.set_append_right _ _ (by simp)]
  simp
end Go.Proofs.YtapijhhmjjplmaaGreatDoor
namespace Go.Proofs.YtapijhhmjjplmaaGreatDoor
open Go.RowKit
theorem bytesLess_dec : ∀ (x y : List UInt8), Op.bytesLess x y = decide (x < y)
  | [], [] => by simp [Op.bytesLess]
  | _ :: _, [] => by simp [Op.bytesLess]
  | [], _ :: _ => by simp [Op.bytesLess]
  | a :: x, b :: y => by
    rw [Op.bytesLess, bytesLess_dec x y]
    by_cases h : a < b
    · have : a :: x < b :: y := List.cons_lt_cons_iff.2 (.inl h)
      simp [h, this]
    · by_cases he : a = b
      · subst he
        have : (a :: x < a :: y) = (x < y) := by
          apply propext
          rw [List.cons_lt_cons_iff]
          constructor
          · rintro (h' | h')
            · exact absurd h' h
            · exact h'.2
          · intro h'; exact .inr ⟨rfl, h'⟩
        simp [this]
      · have : ¬ a :: x < b :: y := by
          rw [List.cons_lt_cons_iff]
          rintro (h' | h')
          · exact h h'
          · exact he h'.1
        simp [h, he, this]
theorem less_leB {y z : ByteArray} (h : Op.bytesLess y.toList z.toList = true) : leB y z = true := by
  rw [bytesLess_dec, decide_eq_true_iff, ByteArray.toList_eq, ByteArray.toList_eq] at h
  unfold leB
  rw [decide_eq_true_iff]
  exact List.le_of_lt h
theorem nless_leB {y z : ByteArray} (h : Op.bytesLess y.toList z.toList = false) : leB z y = true := by
  rw [bytesLess_dec, decide_eq_false_iff_not, ByteArray.toList_eq, ByteArray.toList_eq] at h
  unfold leB
  rw [decide_eq_true_iff]
  exact h
theorem own_cells {w : World} {B : Nat} {v : Value} {l : List ByteArray} (h : w.ownsRow B 9 1 v l.length (strs l)) (h0 : l ≠ []) : ∃ g c, v = .slice (some ⟨g, 0, none⟩) l.length c ∧ B ≤ g ∧ (∀ j (hj : j < l.length), w.cell? ⟨g, j, none⟩ = some (.string l[j])) ∧ ∀ j, w.frozen? ⟨g, j, none⟩ = false := by
  obtain ⟨g, cap, hv, -, hc, hf⟩ := OwnS.open (S := fun _ => True) (xs := strs l) ⟨own_base h (Nat.zero_le _), fun _ _ => trivial⟩ (List.length_pos_iff.2 h0)
  refine ⟨g, cap, hv, own_base_of h g (by rw [hv]; rfl), fun j hj => ?_, hf⟩
  rw [hc j (by rw [strs_length]; exact hj)]
  simp [strs]
/-- What an outer round of Kids holds. -/
structure KidsTo (T : Tre) (p : List ByteArray) (k : Nat) (L : List ByteArray) : Prop where
  ord : L.Pairwise (fun a b => leB a b = true)
  perm : L.Perm (kidsU (T.take k) p)
theorem KidsTo.len {T : Tre} {p : List ByteArray} {k : Nat} {L : List ByteArray} (h : KidsTo T p k L) : L.length ≤ k := by
  rw [h.perm.length_eq]
  refine Nat.le_trans (kids_len _ _) ?_
  rw [List.length_take]
  exact Nat.min_le_left _ _
theorem KidsTo.skip {T : Tre} {p : List ByteArray} {k : Nat} {L : List ByteArray} (h : KidsTo T p k L) (hk : k < T.length) (hn : T[k].names.dropLast ≠ p) : KidsTo T p (k + 1) L := ⟨h.ord, by rw [kidsU_take T p k hk, if_neg hn, List.append_nil]; exact h.perm⟩
theorem KidsTo.more {T : Tre} {p : List ByteArray} {k : Nat} {L A B : List ByteArray} {y : ByteArray} (h : KidsTo T p k L) (hk : k < T.length) (hn : T[k].names.dropLast = p) (hy : y = lastN T[k].names) (hs : Sinks L A B y) (hle : A = [] ∨ ∃ A' z, A = A' ++ [z] ∧ leB z y = true) : KidsTo T p (k + 1) (A ++ y :: B) := by
  obtain ⟨h1, h2⟩ := hs.done hle
  refine ⟨h1, h2.trans ?_⟩
  rw [kidsU_take T p k hk, if_pos hn, ← hy]
  exact h.perm.append_right _
theorem extract_whole (q : ByteArray) : q.extract 0 q.size = q := by
  apply bl_inj
  rw [bl_extract, List.drop_zero, List.take_of_length_le (by rw [bl_length]; omega)]
/-- The loop that lets a name sink, with what is behind it. -/
def SinkInv (w : World) (L : List ByteArray) (y : ByteArray) (v : Value) (kv : Value) (wr : World) : Prop := ∃ A B, kv = .int .i64 (A.length : Int) ∧ A.length ≤ 256 ∧ Sinks L A B y ∧ wr.ownsRow w.heap.size 9 1 v (A ++ y :: B).length (strs (A ++ y :: B)) ∧ Below w.heap.size w wr
end Go.Proofs.YtapijhhmjjplmaaGreatDoor
namespace Go.Proofs.YtapijhhmjjplmaaGreatDoor
open Go.RowKit
/-- What Kids leaves. -/
def KidsPost (w : World) (L : List ByteArray) (e : Ending) (w' : World) : Prop := ∃ v, e = .returned v ∧ w'.ownsRow w.heap.size 9 1 v L.length (strs L) ∧ Below w.heap.size w w'
set_option maxRecDepth 100000 in
set_option maxHeartbeats 4000000 in
theorem ref_kids (S : Nat → Prop) (tv : Value) (T : Tre) (p : List ByteArray) (w : World) (h : TreeR w S tv T) (hT : WFT T) (hp : Valid p) :
    Calls Tryz.prog 195 #[tv, .string (joinB p)] w fun e w' => KidsPost w (kidsT T p) e w' := by
  obtain ⟨s, hs⟩ : ∃ s, s = joinB p := ⟨_, rfl⟩
  rw [← hs]
  have HS : Hid (s = joinB p) := hs
  clear hs
  obtain ⟨i0, hi0, hz0, hz1, hz2⟩ := info_parts infoStr9
  by_cases h0 : 0 < T.length
  · obtain ⟨g, cap, rfl, hg, hgl, hc, -⟩ := h.open h0
    have HC : Hid (∀ k (hk : k < T.length), w.cell? ⟨g, k * 3, none⟩ = some (.string (joinB T[k].names)) ∧ w.cell? ⟨g, k * 3 + 1, none⟩ = some (.bool T[k].dir) ∧ w.cell? ⟨g, k * 3 + 2, none⟩ = some (.string T[k].data)) := hc
    have HT : Hid (WFT T) := hT
    have hn := hT.len
    obtain ⟨n, hnn⟩ : ∃ n, n = T.length := ⟨_, rfl⟩
    rw [← hnn] at hn ⊢
    have HN : Hid (n = T.length) := hnn
    clear h hT hc hnn h0 hg
    go_enter Tryz.func195, Tryz.ntmps195
    go_wp2
    go_loopw [5, 6] (fun v iv wr => ∃ (k : Nat) (L : List ByteArray), k ≤ n ∧ iv = .int .i64 (k : Int) ∧ Hid (KidsTo T p k L) ∧ Hid (wr.ownsRow w.heap.size 9 1 v L.length (strs L)) ∧ Hid (Below w.heap.size w wr)) (fun _ i _ => n - (intOf i).toNat)
    case atStart => exact ⟨0, [], by omega, rfl, ⟨List.Pairwise.nil, List.Perm.refl _⟩, World.ownsRow_nil _ _ _ _, Below.refl _ _⟩
    case round =>
      obtain ⟨k, L, hk, rfl, HK, HO, HB⟩ := hrel
      by_cases hlt : k < n
      · have hkt : k < T.length := by rw [← HN.out]; exact hlt
        obtain ⟨c0, -, -⟩ := HC.out k hkt
        obtain ⟨q, hq⟩ : ∃ q, q = joinB T[k].names := ⟨_, rfl⟩
        rw [← hq] at c0
        have c1 : wr.cell? ⟨g, k * 3, none⟩ = some (.string q) := by rw [HB.out.cell hgl]; exact c0
        obtain ⟨hx0, hx8, hxv⟩ := HT.out.val T[k] (List.getElem_mem _)
        have hqs : q.size ≤ 1000 := by
          have := joinB_size _ hxv
          rw [← hq] at this
          omega
        have HQ : Hid (∀ cut, LastS (bl q) q.size cut → (cut = -1 ∧ T[k].names.dropLast = [] ∧ q = lastN T[k].names) ∨ ∃ c : Nat, cut = (c : Int) ∧ c < q.size ∧ q.extract 0 c = joinB T[k].names.dropLast ∧ q.extract (c + 1) q.size = lastN T[k].names) := fun cut hcut => last_cut hxv hx0 hq hcut
        have HDV : Hid (Valid T[k].names.dropLast) := hxv.dropLast
        have hlen := HK.out.len
        clear c0 hq hx0 hx8 hxv
        obtain ⟨aol, cl, rfl⟩ := own_sh HO.out
        go_wp2
        clear c1
        go_loop [8, 9] (fun cv mv => ∃ (m : Nat) (cut : Int), m ≤ q.size ∧ mv = .int .i64 (m : Int) ∧ cv = .int .i64 cut ∧ Hid (LastS (bl q) m cut)) (fun _ i => q.size - (intOf i).toNat)
        case atStart => exact ⟨0, -1, by omega, rfl, rfl, LastS.start _⟩
        case round =>
          obtain ⟨m, cut, hm, rfl, rfl, HL⟩ := hrel
          by_cases hml : m < q.size
          · have hgm := bl_get q m hml
            by_cases hcm : q[m] = 47
            · have hb : ((q[m].toNat : Int) == 47) = true := by rw [hcm]; rfl
              have HL2 : Hid (LastS (bl q) (m + 1) m) := LastS.hit (by rw [hgm, hcm])
              clear hgm hcm HL
              go_wp2
              go_round
              case rel => exact ⟨m + 1, m, by omega, by go_num, rfl, HL2⟩
              case measure => (simp [intOf]; try omega)
            · have hb : ((q[m].toNat : Int) == 47) = false := by
                rw [beq_eq_false_iff_ne]
                intro e
                exact hcm (UInt8.toNat.inj (by have : q[m].toNat = 47 := by omega
                                               rw [this]; rfl))
              have HL2 : Hid (LastS (bl q) (m + 1) cut) := HL.out.miss (by rw [hgm]; exact fun e => hcm (Option.some.inj e))
              clear hgm hcm HL
              go_wp2
              go_round
              case rel => exact ⟨m + 1, cut, by omega, by go_num, rfl, HL2⟩
              case measure => (simp [intOf]; try omega)
          · have hmq : m = q.size := by omega
            subst hmq
            have hcase : ∃ (u y : ByteArray) (c : Nat), (cut = -1 ∧ c = 0 ∧ u = ⟨#[]⟩ ∨ cut + 1 = (c : Int) ∧ 0 ≤ cut ∧ cut ≤ 1000 ∧ q.extract 0 cut.toNat = u) ∧ c ≤ q.size ∧ q.extract c q.size = y ∧ u = joinB T[k].names.dropLast ∧ y = lastN T[k].names := by
              rcases HQ.out cut HL.out with ⟨rfl, h2, h3⟩ | ⟨c, rfl, h2, h3, h4⟩
              · exact ⟨⟨#[]⟩, lastN T[k].names, 0, .inl ⟨rfl, rfl, rfl⟩, Nat.zero_le _, by rw [extract_whole]; exact h3, by rw [h2]; rfl, rfl⟩
              · exact ⟨q.extract 0 c, q.extract (c + 1) q.size, c + 1, .inr ⟨by omega, by omega, by omega, rfl⟩, by omega, rfl, h3, h4⟩
            obtain ⟨u, y, c, hcut, hcq, hy, hu, hyl⟩ := hcase
            have HYL : Hid (y = lastN T[k].names) := hyl
            have hm : u = s ↔ T[k].names.dropLast = p := by
              rw [hu, HS.out]
              exact ⟨fun e => joinB_inj HDV.out hp e, fun e => by rw [e]⟩
            clear hyl hu HL HQ HDV
            by_cases hd : T[k].names.dropLast = p
            · have hus := hm.2 hd
              have HD : Hid (T[k].names.dropLast = p) := hd
              clear hm hd
              rcases hcut with ⟨rfl, rfl, rfl⟩ | ⟨hc1, hc0, hc2, rfl⟩
              · have he : s.toList.isEmpty = true := by rw [← hus, ByteArray.toList_eq]; rfl
                clear hus
                go_wp2_with (at_builtin; refine wpList_append_own_at _ rfl _ _ 35 rfl w.heap.size 9 i0 (.string ⟨#[]⟩) 1 16 Tryz.underlying35 hi0 hz0 hz1 hz2 rfl (by decide) _ _ _ rfl (World.ownsRow.alloc HO.out _) _ 1 1 [.string y] rfl rfl (cell_one_new _ _ _) (by intro u hu; rw [List.mem_singleton] at hu; subst hu; rfl) (by unfold maxLen; omega) (by omega) (by have := HB.out.size; simp; omega) ?_)
                intro v' w2 hown' hgrow _ _
                have HO2 : Hid (w2.ownsRow w.heap.size 9 1 v' (L.length + 1) (strs L ++ [.string y])) := hown'
                have HB2 : Hid (Below w.heap.size w w2) := (HB.out.alloc HB.out.size _).grown hgrow (by have := HB.out.size; simp; omega) (fun g hg => own_base_of HO.out g hg)
                clear hown' hgrow
                have HO3 := own_snoc HO2.out
                obtain ⟨g2, c2, rfl⟩ : ∃ g2 c2, v' = .slice (some ⟨g2, 0, none⟩) (L.length + 1) c2 := by
                  obtain ⟨g2, c2, hv2, -⟩ := own_cells HO3.out (by simp)
                  rw [List.length_append] at hv2
                  exact ⟨g2, c2, hv2⟩
                clear HO2
                go_wp2
                go_loopw [11] (fun kv wr' => SinkInv w L y (.slice (some ⟨g2, 0, none⟩) (L.length + 1) c2) kv wr') (fun kv _ => (intOf kv).toNat)
                case atStart => exact ⟨L, [], by go_num, by omega, Sinks.start HK.out.ord y, HO3.out, HB2.out⟩
                case round =>
                  clear HO3 HB2
                  obtain ⟨A, B, rfl, hA, hsk, hor, hbr⟩ := hrel
                  have HSK : Hid (Sinks L A B y) := hsk
                  have HOR : Hid (wr.ownsRow w.heap.size 9 1 (.slice (some ⟨g2, 0, none⟩) (L.length + 1) c2) (A ++ y :: B).length (strs (A ++ y :: B))) := hor
                  have HBR : Hid (Below w.heap.size w wr) := hbr
                  have hAB : A.length + B.length = L.length := by rw [← hsk.eq]; simp
                  clear hsk hor hbr
                  by_cases hA0 : A = []
                  · have HF : Hid (KidsTo T p (k + 1) (A ++ y :: B)) := HK.out.more hkt HD.out HYL.out HSK.out (.inl hA0)
                    subst hA0
                    go_wp2
                    go_quiet (fail)
                    go_wp2
                    go_roundw
                    case rel => exact ⟨k + 1, _, by omega, by go_num, HF, own_drewN HOR.out _, below_drewN' HBR.out _⟩
                    case measure => (simp [intOf]; try omega)
                  · obtain ⟨A', z, rfl⟩ : ∃ A' z, A = A' ++ [z] := ⟨A.dropLast, A.getLast hA0, (List.dropLast_concat_getLast hA0).symm⟩
                    obtain ⟨gg, cc, hvv, -, hcc, hff⟩ := own_cells HOR.out (by simp)
                    cases (show some g2 = some gg from congrArg Value.ownBlock hvv)
                    clear hvv
                    have e1 : (A' ++ [z] ++ y :: B)[A'.length + 1]'(by simp; try omega) = y := by simp
                    have e2 : (A' ++ [z] ++ y :: B)[A'.length]'(by simp; try omega) = z := by simp
                    have cy : wr.cell? ⟨g2, A'.length + 1, none⟩ = some (.string y) := by rw [hcc _ (by simp; try omega), e1]
                    have cz : wr.cell? ⟨g2, A'.length, none⟩ = some (.string z) := by rw [hcc _ (by simp; try omega), e2]
                    have fy := hff (A'.length + 1)
                    have fz := hff A'.length
                    rw [List.length_append, List.length_singleton] at hA hAB ⊢
                    clear hcc hff e1 e2 hA0
                    cases hl : Op.bytesLess y.toList z.toList
                    · have HF : Hid (KidsTo T p (k + 1) (A' ++ [z] ++ y :: B)) := HK.out.more hkt HD.out HYL.out HSK.out (.inr ⟨A', z, rfl, nless_leB hl⟩)
                      go_wp2
                      go_quiet (fail)
                      go_wp2
                      go_roundw
                      case rel => exact ⟨k + 1, _, by omega, by go_num, HF, own_drewN HOR.out _, below_drewN' HBR.out _⟩
                      case measure => (simp [intOf]; try omega)
                    · have HS2 : Hid (Sinks L A' (z :: B) y) := HSK.out.down (less_leB hl)
                      have hor2 := HOR.out
                      rw [show L.length + 1 = (A' ++ [z] ++ y :: B).length by simp; try omega] at hor2
                      have ho1 := own_set hor2 (A'.length + 1) z
                      clear hor2
                      have ho2 := own_set ho1 A'.length y
                      rw [set_mid] at ho2
                      have HO4 : Hid (((wr.setCell ⟨g2, A'.length + 1, none⟩ (.string z)).setCell ⟨g2, A'.length, none⟩ (.string y)).ownsRow w.heap.size 9 1 (.slice (some ⟨g2, 0, none⟩) (L.length + 1) c2) (A' ++ y :: z :: B).length (strs (A' ++ y :: z :: B))) := by
                        have e : (A' ++ y :: z :: B).length = L.length + 1 := by simp; try omega
                        rw [e] at ho2 ⊢
                        exact ho2
                      go_wp2
                      go_quiet (fail)
                      go_wp2
                      go_roundw
                      case rel => exact ⟨A', z :: B, by go_num, by omega, HS2.out, HO4.out, below_drewN' ((HBR.out.setCell (p := ⟨g2, A'.length + 1, none⟩) (own_base_of HOR.out g2 rfl) _).setCell (p := ⟨g2, A'.length, none⟩) (own_base_of HOR.out g2 rfl) _) _⟩
                      case measure => (simp [intOf]; try omega)
              · have hb : ((q.extract 0 cut.toNat).toList == s.toList) = true := by rw [str_beq, decide_eq_true_iff]; exact hus
                clear hus
                go_wp2_with (at_builtin; refine wpList_append_own_at _ rfl _ _ 35 rfl w.heap.size 9 i0 (.string ⟨#[]⟩) 1 16 Tryz.underlying35 hi0 hz0 hz1 hz2 rfl (by decide) _ _ _ rfl (World.ownsRow.alloc HO.out _) _ 1 1 [.string y] rfl rfl (cell_one_new _ _ _) (by intro u hu; rw [List.mem_singleton] at hu; subst hu; rfl) (by unfold maxLen; omega) (by omega) (by have := HB.out.size; simp; omega) ?_)
                intro v' w2 hown' hgrow _ _
                have HO2 : Hid (w2.ownsRow w.heap.size 9 1 v' (L.length + 1) (strs L ++ [.string y])) := hown'
                have HB2 : Hid (Below w.heap.size w w2) := (HB.out.alloc HB.out.size _).grown hgrow (by have := HB.out.size; simp; omega) (fun g hg => own_base_of HO.out g hg)
                clear hown' hgrow
                have HO3 := own_snoc HO2.out
                obtain ⟨g2, c2, rfl⟩ : ∃ g2 c2, v' = .slice (some ⟨g2, 0, none⟩) (L.length + 1) c2 := by
                  obtain ⟨g2, c2, hv2, -⟩ := own_cells HO3.out (by simp)
                  rw [List.length_append] at hv2
                  exact ⟨g2, c2, hv2⟩
                clear HO2
                go_wp2
                go_loopw [11] (fun kv wr' => SinkInv w L y (.slice (some ⟨g2, 0, none⟩) (L.length + 1) c2) kv wr') (fun kv _ => (intOf kv).toNat)
                case atStart => exact ⟨L, [], by go_num, by omega, Sinks.start HK.out.ord y, HO3.out, HB2.out⟩
                case round =>
                  clear HO3 HB2
                  obtain ⟨A, B, rfl, hA, hsk, hor, hbr⟩ := hrel
                  have HSK : Hid (Sinks L A B y) := hsk
                  have HOR : Hid (wr.ownsRow w.heap.size 9 1 (.slice (some ⟨g2, 0, none⟩) (L.length + 1) c2) (A ++ y :: B).length (strs (A ++ y :: B))) := hor
                  have HBR : Hid (Below w.heap.size w wr) := hbr
                  have hAB : A.length + B.length = L.length := by rw [← hsk.eq]; simp
                  clear hsk hor hbr
                  by_cases hA0 : A = []
                  · have HF : Hid (KidsTo T p (k + 1) (A ++ y :: B)) := HK.out.more hkt HD.out HYL.out HSK.out (.inl hA0)
                    subst hA0
                    go_wp2
                    go_quiet (fail)
                    go_wp2
                    go_roundw
                    case rel => exact ⟨k + 1, _, by omega, by go_num, HF, own_drewN HOR.out _, below_drewN' HBR.out _⟩
                    case measure => (simp [intOf]; try omega)
                  · obtain ⟨A', z, rfl⟩ : ∃ A' z, A = A' ++ [z] := ⟨A.dropLast, A.getLast hA0, (List.dropLast_concat_getLast hA0).symm⟩
                    obtain ⟨gg, cc, hvv, -, hcc, hff⟩ := own_cells HOR.out (by simp)
                    cases (show some g2 = some gg from congrArg Value.ownBlock hvv)
                    clear hvv
                    have e1 : (A' ++ [z] ++ y :: B)[A'.length + 1]'(by simp; try omega) = y := by simp
                    have e2 : (A' ++ [z] ++ y :: B)[A'.length]'(by simp; try omega) = z := by simp
                    have cy : wr.cell? ⟨g2, A'.length + 1, none⟩ = some (.string y) := by rw [hcc _ (by simp; try omega), e1]
                    have cz : wr.cell? ⟨g2, A'.length, none⟩ = some (.string z) := by rw [hcc _ (by simp; try omega), e2]
                    have fy := hff (A'.length + 1)
                    have fz := hff A'.length
                    rw [List.length_append, List.length_singleton] at hA hAB ⊢
                    clear hcc hff e1 e2 hA0
                    cases hl : Op.bytesLess y.toList z.toList
                    · have HF : Hid (KidsTo T p (k + 1) (A' ++ [z] ++ y :: B)) := HK.out.more hkt HD.out HYL.out HSK.out (.inr ⟨A', z, rfl, nless_leB hl⟩)
                      go_wp2
                      go_quiet (fail)
                      go_wp2
                      go_roundw
                      case rel => exact ⟨k + 1, _, by omega, by go_num, HF, own_drewN HOR.out _, below_drewN' HBR.out _⟩
                      case measure => (simp [intOf]; try omega)
                    · have HS2 : Hid (Sinks L A' (z :: B) y) := HSK.out.down (less_leB hl)
                      have hor2 := HOR.out
                      rw [show L.length + 1 = (A' ++ [z] ++ y :: B).length by simp; try omega] at hor2
                      have ho1 := own_set hor2 (A'.length + 1) z
                      clear hor2
                      have ho2 := own_set ho1 A'.length y
                      rw [set_mid] at ho2
                      have HO4 : Hid (((wr.setCell ⟨g2, A'.length + 1, none⟩ (.string z)).setCell ⟨g2, A'.length, none⟩ (.string y)).ownsRow w.heap.size 9 1 (.slice (some ⟨g2, 0, none⟩) (L.length + 1) c2) (A' ++ y :: z :: B).length (strs (A' ++ y :: z :: B))) := by
                        have e : (A' ++ y :: z :: B).length = L.length + 1 := by simp; try omega
                        rw [e] at ho2 ⊢
                        exact ho2
                      go_wp2
                      go_quiet (fail)
                      go_wp2
                      go_roundw
                      case rel => exact ⟨A', z :: B, by go_num, by omega, HS2.out, HO4.out, below_drewN' ((HBR.out.setCell (p := ⟨g2, A'.length + 1, none⟩) (own_base_of HOR.out g2 rfl) _).setCell (p := ⟨g2, A'.length, none⟩) (own_base_of HOR.out g2 rfl) _) _⟩
                      case measure => (simp [intOf]; try omega)
            · have hus : u ≠ s := fun e => hd (hm.1 e)
              have hb : (u.toList == s.toList) = false := by rw [str_beq, decide_eq_false_iff_not]; exact hus
              have HK2 : Hid (KidsTo T p (k + 1) L) := HK.out.skip hkt hd
              clear hm hd HK
              rcases hcut with ⟨rfl, rfl, rfl⟩ | ⟨hc1, hc0, hc2, rfl⟩
              · have he : s.toList.isEmpty = false := by
                  rw [ByteArray.toList_eq]
                  cases hp : s.data.toList with
                  | nil => exact absurd (bl_inj (by unfold bl; rw [hp])) hus
                  | cons _ _ => rfl
                clear hus
                go_wp2
                go_roundw
                case rel => exact ⟨k + 1, L, by omega, by go_num, HK2, HO, HB⟩
                case measure => (simp [intOf]; try omega)
              · clear hus
                go_wp2
                go_roundw
                case rel => exact ⟨k + 1, L, by omega, by go_num, HK2, HO, HB⟩
                case measure => (simp [intOf]; try omega)
      · have hkn : k = n := by omega
        subst hkn
        have hL : L = kidsT T p := by
          have := HK.out.perm
          rw [List.take_of_length_le (by rw [← HN.out]; exact Nat.le_refl _)] at this
          exact kidsT_eq this HK.out.ord
        have HLK : Hid (L = kidsT T p) := hL
        clear hL HK
        go_wp2
        go_ret
        rw [← HLK.out]
        exact ⟨_, rfl, HO.out, HB.out⟩
  · have hT0 : T = [] := List.eq_nil_of_length_eq_zero (by omega)
    subst hT0
    obtain ⟨ao, c, rfl⟩ := h.nil
    clear h hT h0
    go_enter Tryz.func195, Tryz.ntmps195
    go_wp2
    go_loop [5, 6] (fun v i => i = .int .i64 0 ∧ v = .slice none 0 0) (fun _ _ => 0)
    case atStart => exact ⟨rfl, rfl⟩
    case round =>
      obtain ⟨rfl, rfl⟩ := hrel
      go_wp2
      go_ret
      have e : kidsT [] p = [] := by simp [kidsT, kidsU]
      rw [e]
      exact ⟨_, rfl, World.ownsRow_nil _ _ _ _, Below.refl _ _⟩
end Go.Proofs.YtapijhhmjjplmaaGreatDoor
namespace Go.Proofs.YtapijhhmjjplmaaGreatDoor
open Go.RowKit
set_option maxRecDepth 100000 in
set_option maxHeartbeats 2000000 in
theorem ref_room (S : Nat → Prop) (tv : Value) (T : Tre) (s : ByteArray) (l : List ByteArray) (w : World) (h : TreeR w S tv T) (hT : WFT T) (hs : s.size ≤ 262144) (hl : pathOf s = some l) (h0 : l ≠ []) :
    Calls Tryz.prog 194 #[tv, .string s] w fun e w' => e = .returned (.bool (!fullT T l.dropLast)) ∧ Below w.heap.size w w' := by
  have HH : Hid (TreeR w S tv T) := h
  have HT : Hid (WFT T) := hT
  have HN : Hid (Calls Tryz.prog 191 #[.string s] w fun e w' => NamesPost w s e w') := ref_names s w hs
  obtain ⟨at0, cp, rfl⟩ := own_sh h.1
  have hTl := hT.len
  have hv := pathOf_valid hl
  clear h hT
  go_enter Tryz.func194, Tryz.ntmps194
  go_wp2_with fail
  refine HN.out.mono ?_
  rintro e w1 ⟨v, b, rfl, hb1, ⟨l', hl', rfl, hown⟩ | ⟨hl', rfl⟩⟩
  · rw [hl] at hl'
    cases hl'
    have HB1 : Hid (Below w.heap.size w w1) := hb1
    obtain ⟨g, c, rfl, hBg, hc, -⟩ := own_cells hown h0
    have HC : Hid (∀ j (hj : j < l.length), w1.cell? ⟨g, j, none⟩ = some (.string l[j])) := hc
    obtain ⟨n, hn⟩ : ∃ n, n + 1 = l.length := ⟨l.length - 1, by have := List.length_pos_iff.2 h0; omega⟩
    rw [← hn]
    have hn8 : n ≤ 8 := by omega
    have HV : Hid (Valid l ∧ n + 1 = l.length) := ⟨hv.1, hn⟩
    have HR1 : Hid (TreeR w1 S (.slice at0 T.length cp) T) := HH.out.on hb1
    have HFU : Hid (fullT T l.dropLast = (decide (16 ≤ (kidsT T l.dropLast).length) || decide (256 ≤ T.length))) := by
      show _ = _
      unfold fullT
      rw [(kidsT_perm T l.dropLast).length_eq]
    have hkl : (kidsT T l.dropLast).length ≤ 256 := by rw [(kidsT_perm T l.dropLast).length_eq]; exact Nat.le_trans (kids_len _ _) HT.out.len
    clear hown hb1 hc hl hv hn HH
    go_wp2
    go_loop [7, 8] (fun pv iv => ∃ k : Nat, k ≤ n ∧ iv = .int .i64 (k : Int) ∧ ∃ q, pv = .string q ∧ Hid (q = joinB (l.take k))) (fun _ i => n - (intOf i).toNat)
    case atStart => exact ⟨0, by omega, rfl, _, rfl, rfl⟩
    case round =>
      obtain ⟨k, hk, rfl, q, rfl, HQ⟩ := hrel
      by_cases hlt : k < n
      · have hkl2 : k < l.length := by have := HV.out.2; omega
        have ck := HC.out k hkl2
        obtain ⟨x, hx⟩ : ∃ x, x = l[k] := ⟨_, rfl⟩
        rw [← hx] at ck
        have hj : jn q x = joinB (l.take (k + 1)) := by rw [List.take_succ_eq_append_getElem hkl2, joinB_snoc, ← HQ.out, ← hx]
        have hqs : q.size + x.size ≤ 1000000 := by
          have h1 := joinB_size _ (HV.out.1.take k)
          have h2 := nmB_size (HV.out.1 l[k] (List.getElem_mem _))
          rw [← HQ.out, List.length_take] at h1
          rw [← hx] at h2
          omega
        have HJ : Hid (Calls Tryz.prog 197 #[.string q, .string x] w1 fun e w' => e = .returned (.string (joinB (l.take (k + 1)))) ∧ w1 = w') := by
          have := ref_join q x w1 hqs
          rw [hj] at this
          exact this
        obtain ⟨q', hq'⟩ : ∃ q', q' = joinB (l.take (k + 1)) := ⟨_, rfl⟩
        rw [← hq'] at HJ
        have HQ' : Hid (q' = joinB (l.take (k + 1))) := hq'
        clear hj hqs hx hq' hkl2
        go_wp2_with (go_at_call 197; refine HJ.out.mono ?_; rintro e w2 ⟨rfl, rfl⟩)
        go_round
        case rel => exact ⟨k + 1, by omega, by go_num, _, rfl, HQ'⟩
        case measure => (simp [intOf]; try omega)
      · have hkn : k = n := by omega
        subst hkn
        have hd : l.take k = l.dropLast := by rw [List.dropLast_eq_take]; congr 1; have := HV.out.2; omega
        have HK : Hid (Calls Tryz.prog 195 #[.slice at0 T.length cp, .string q] w1 fun e w' => KidsPost w1 (kidsT T l.dropLast) e w') := by
          have := ref_kids S (.slice at0 T.length cp) T l.dropLast w1 HR1.out HT.out HV.out.1.dropLast
          rw [← hd, ← HQ.out] at this
          rw [← hd]
          exact this
        obtain ⟨L, hL⟩ : ∃ L, L = kidsT T l.dropLast := ⟨_, rfl⟩
        rw [← hL] at HFU HK hkl
        obtain ⟨nT, hnT⟩ : ∃ nT, nT = T.length := ⟨_, rfl⟩
        rw [← hnT] at hTl HFU HK ⊢
        obtain ⟨nL, hnL⟩ : ∃ nL, nL = L.length := ⟨_, rfl⟩
        rw [← hnL] at hkl HFU
        have HNL : Hid (nL = L.length) := hnL
        clear hL hnT hnL hd HC HV HR1 HT HQ
        go_wp2_with fail
        refine HK.out.mono ?_
        rintro e w2 ⟨v2, rfl, hown2, hb2⟩
        obtain ⟨ao2, c2, rfl⟩ := own_sh hown2
        rw [← HNL.out]
        have HB2 : Hid (Below w.heap.size w w2) := HB1.out.trans (hb2.mono HB1.out.size)
        clear hown2 hb2 HK HNL
        by_cases h1 : nL < 16
        · by_cases h2 : nT < 256
          · have HR : Hid (fullT T l.dropLast = false) := by show _ = _; rw [HFU.out, decide_eq_false (by omega), decide_eq_false (by omega)]; rfl
            go_wp2
            go_ret
            refine ⟨?_, HB2.out⟩
            rw [HR.out]
            show Ending.returned (Value.bool (decide ((nT : Int) < 256))) = _
            rw [decide_eq_true (by omega)]
            rfl
          · have HR : Hid (fullT T l.dropLast = true) := by show _ = _; rw [HFU.out, decide_eq_false (by omega), decide_eq_true (by omega)]; rfl
            go_wp2
            go_ret
            refine ⟨?_, HB2.out⟩
            rw [HR.out]
            show Ending.returned (Value.bool (decide ((nT : Int) < 256))) = _
            rw [decide_eq_false (by omega)]
            rfl
        · have HR : Hid (fullT T l.dropLast = true) := by show _ = _; rw [HFU.out, decide_eq_true (by omega)]; rfl
          go_wp2
          go_ret
          refine ⟨?_, HB2.out⟩
          rw [HR.out]
          rfl
  · rw [hl] at hl'
    cases hl'
end Go.Proofs.YtapijhhmjjplmaaGreatDoor
namespace Go.Proofs.YtapijhhmjjplmaaGreatDoor
open Go.RowKit
def codeP (f : List ByteArray → Nat) (s : ByteArray) : Nat := match pathOf s with
  | none => 5
  | some [] => 5
  | some l => f l
def treeP (T : Tre) (f : List ByteArray → Tre) (s : ByteArray) : Tre := match pathOf s with
  | none => T
  | some [] => T
  | some l => f l
theorem codeP_none {f : List ByteArray → Nat} {s : ByteArray} (h : pathOf s = none) : codeP f s = 5 := by unfold codeP; rw [h]
theorem codeP_nil {f : List ByteArray → Nat} {s : ByteArray} (h : pathOf s = some []) : codeP f s = 5 := by unfold codeP; rw [h]
theorem codeP_some {f : List ByteArray → Nat} {s : ByteArray} {l : List ByteArray} (h : pathOf s = some l) (h0 : l ≠ []) : codeP f s = f l := by
  unfold codeP
  rw [h]
  cases l with
  | nil => exact absurd rfl h0
  | cons _ _ => rfl
theorem treeP_none {T : Tre} {f : List ByteArray → Tre} {s : ByteArray} (h : pathOf s = none) : treeP T f s = T := by unfold treeP; rw [h]
theorem treeP_nil {T : Tre} {f : List ByteArray → Tre} {s : ByteArray} (h : pathOf s = some []) : treeP T f s = T := by unfold treeP; rw [h]
theorem treeP_some {T : Tre} {f : List ByteArray → Tre} {s : ByteArray} {l : List ByteArray} (h : pathOf s = some l) (h0 : l ≠ []) : treeP T f s = f l := by
  unfold treeP
  rw [h]
  cases l with
  | nil => exact absurd rfl h0
  | cons _ _ => rfl
theorem spotR_eq (T : Tre) (s : ByteArray) : spotR T s = codeP (spotE T) s := rfl
theorem putE_big {T : Tre} {l : List ByteArray} {d : ByteArray} (hb : 1536 < d.size) : putE T l d = 11 ∧ putT T l d = T := by
  have e : putE T l d = 11 := by unfold putE; rw [if_pos hb]
  exact ⟨e, by unfold putT; rw [if_pos (by rw [e]; decide)]⟩
theorem putE_spot {T : Tre} {l : List ByteArray} {d : ByteArray} (hb : ¬ 1536 < d.size) (hs : spotE T l ≠ 0) : putE T l d = spotE T l ∧ putT T l d = T := by
  have e : putE T l d = spotE T l := by unfold putE; rw [if_neg hb, if_pos hs]
  exact ⟨e, by unfold putT; rw [if_pos (by rw [e]; exact hs)]⟩
theorem putE_some {T : Tre} {l : List ByteArray} {d : ByteArray} (hb : ¬ 1536 < d.size) (hs : spotE T l = 0) {x : Itm} (hx : lookT T l = some x) : putE T l d = (if x.dir then 7 else 0) ∧ putT T l d = (if x.dir then T else setD T l d) := by
  have e : putE T l d = (if x.dir then 7 else 0) := by unfold putE; rw [if_neg hb, if_neg (by rw [hs]; simp), hx]
  refine ⟨e, ?_⟩
  unfold putT
  rw [e, hx]
  cases x.dir <;> rfl
theorem putE_none {T : Tre} {l : List ByteArray} {d : ByteArray} (hb : ¬ 1536 < d.size) (hs : spotE T l = 0) (hx : lookT T l = none) : putE T l d = (if fullT T l.dropLast then 10 else 0) ∧ putT T l d = (if fullT T l.dropLast then T else T ++ [⟨l, false, d⟩]) := by
  have e : putE T l d = (if fullT T l.dropLast then 10 else 0) := by unfold putE; rw [if_neg hb, if_neg (by rw [hs]; simp), hx]
  refine ⟨e, ?_⟩
  unfold putT
  rw [e, hx]
  cases fullT T l.dropLast <;> rfl
theorem hid_two {a b c : Nat} {x y z : Tre} (h1 : a = b) (h2 : x = y) (e1 : b = c) (e2 : y = z) : Hid (a = c ∧ x = z) := ⟨h1.trans e1, h2.trans e2⟩
/-- What Put, Mkdir and Remove leave. -/
def TreePost (w : World) (S : Nat → Prop) (T : Tre) (code : Nat) (e : Ending) (w' : World) : Prop := ∃ v, e = .returned (.tuple #[v, .int .i64 (code : Int)]) ∧ TreeR w' (fun g => S g ∨ w.heap.size ≤ g) v T ∧ Same S w w'
theorem below_sameT {S : Nat → Prop} {w w' : World} (h : Below w.heap.size w w') : Same S w w' := ⟨h.os, h.tape, h.output, h.size, fun k hk _ => h.block k hk⟩
theorem TreeR.mono {w : World} {S S' : Nat → Prop} {tv : Value} {T : Tre} (h : TreeR w S tv T) (hd : ∀ g, S g → S' g) : TreeR w S' tv T := OwnS.mono h hd
theorem TreePost.refused {w w' : World} {S : Nat → Prop} {tv : Value} {T : Tre} {code : Nat} (h : TreeR w S tv T) (hb : Below w.heap.size w w') : TreePost w S T code (.returned (.tuple #[tv, .int .i64 (code : Int)])) w' := ⟨tv, rfl, (h.on hb).mono (fun _ h => .inl h), below_sameT hb⟩
theorem infoItem : (Tryz.prog.info? 316).map (fun i => (i.zero, i.size, i.bytes)) = some (some (.agg #[.string ⟨#[]⟩, .bool false, .string ⟨#[]⟩]), 3, 40) := by kernel_rfl
theorem cells_three (w : World) (x y z : Value) (t : TypeId) : ∀ j v, [x, y, z][j]? = some v → (w.alloc (.cells #[x, y, z] t)).cell? ((⟨w.heap.size, 0, none⟩ : Addr).add j) = some v := by
  intro j v hj
  have e1 : (⟨w.heap.size, 0, none⟩ : Addr).add j = ⟨w.heap.size, j, none⟩ := by unfold Addr.add; split <;> simp_all
  rw [e1, cell_of_row _ _ _ _ _ _ (heap_alloc_new w _)]
  simpa using hj
/-- An item more. -/
theorem TreePost.more {w w1 w3 : World} {S : Nat → Prop} {tv v' : Value} {T : Tre} {x : Itm} {O : Obj} {code : Nat} (h : TreeR w S tv T) (hb : Below w.heap.size w w1) (ho : w3.ownsRow 0 316 3 v' (T.length + 1) (itmsV T ++ itmV x)) (hg : (w1.alloc O).grownBy w3 tv.ownBlock)
    (hat : v'.ownBlock = tv.ownBlock ∨ v'.ownBlock = some (w1.heap.size + 1)) : TreePost w S (T ++ [x]) code (.returned (.tuple #[v', .int .i64 (code : Int)])) w3 := by
  have hs : Same S w w3 := by
    have h1 := hb.size
    refine ⟨by rw [hg.os]; exact hb.os, by rw [hg.tape]; exact hb.tape, by rw [hg.output]; exact hb.output, by have := hg.size; simp at this; omega, fun k hk hn => ?_⟩
    rw [hg.block k (by simp; omega) (fun e => hn (h.2 k e.symm)), Below.heap_alloc _ _ _ (by omega), hb.block k hk]
  refine ⟨v', rfl, ⟨?_, fun g hg' => ?_⟩, hs⟩
  · have e1 : (T ++ [x]).length = T.length + 1 := by simp
    have e2 : itmsV (T ++ [x]) = itmsV T ++ itmV x := by simp [itmsV]
    rw [e1, e2]
    exact ho
  · rcases hat with e | e
    · rw [e] at hg'
      exact .inl (h.2 g hg')
    · rw [e] at hg'
      cases hg'
      have := hb.size
      exact .inr (by omega)
theorem setD_set {T : Tre} (hd : (T.map (·.names)).Nodup) {l : List ByteArray} {x : Itm} (h : lookT T l = some x) (d : ByteArray) : itmsV (setD T l d) = (itmsV T).set (idxT T l * 3 + 2) (.string d) := by
  induction T with
  | nil => cases h
  | cons y r ih =>
    rw [List.map_cons, List.nodup_cons] at hd
    unfold lookT at h
    rw [List.find?_cons] at h
    by_cases e : y.names = l
    · have hi : idxT (y :: r) l = 0 := by unfold idxT; rw [List.findIdx_cons, decide_eq_true e]; rfl
      have hr : setD r l d = r := by
        unfold setD
        conv => rhs; rw [← List.map_id r]
        apply List.map_congr_left
        intro z hz
        rw [if_neg]
        · rfl
        · intro ez
          exact hd.1 (List.mem_map.2 ⟨z, hz, ez.trans e.symm⟩)
      have e1 : setD (y :: r) l d = { y with data := d } :: setD r l d := by
        unfold setD
        rw [List.map_cons, if_pos e]
      rw [hi, e1, hr]
      rfl
    · rw [decide_eq_false e] at h
      have hi : idxT (y :: r) l = idxT r l + 1 := by unfold idxT; rw [List.findIdx_cons, decide_eq_false e]; rfl
      have e1 : setD (y :: r) l d = y :: setD r l d := by
        unfold setD
        rw [List.map_cons, if_neg e]
      have e2 : ∀ r : Tre, itmsV (y :: r) = itmV y ++ itmsV r := fun _ => rfl
      have hl : (itmV y).length = 3 := rfl
      rw [hi, e1, e2, e2, ih hd.2 h, List.set_append_right _ _ (by rw [hl]; omega), hl]
      congr 2
      omega
theorem setD_length (T : Tre) (l : List ByteArray) (d : ByteArray) : (setD T l d).length = T.length := by unfold setD; rw [List.length_map]
/-- A file's bytes turn. -/
theorem TreePost.set {w w1 : World} {S : Nat → Prop} {g cap : Nat} {T : Tre} {l : List ByteArray} {x : Itm} {d : ByteArray} (h : TreeR w S (.slice (some ⟨g, 0, none⟩) T.length cap) T) (hT : WFT T) (hb : Below w.heap.size w w1) (hx : lookT T l = some x) :
    TreePost w S (setD T l d) 0 (.returned (.tuple #[.slice (some ⟨g, 0, none⟩) T.length cap, .int .i64 0])) (w1.setCell ⟨g, idxT T l * 3 + 2, none⟩ (.string d)) := by
  refine ⟨_, rfl, ?_, ?_⟩
  · have h1 := OwnS.set (h.on hb) (idxT T l * 3 + 2) (.string d)
    rw [← setD_set hT.dis hx d] at h1
    have h2 : OwnS (w1.setCell ⟨g, idxT T l * 3 + 2, none⟩ (.string d)) S 316 3 (.slice (some ⟨g, 0, none⟩) T.length cap) (setD T l d).length (itmsV (setD T l d)) := by rw [setD_length]; exact h1
    exact h2.mono (fun _ h => .inl h)
  · exact Same.setCell (below_sameT hb) ⟨g, idxT T l * 3 + 2, none⟩ (h.2 g rfl) _
set_option maxRecDepth 100000 in
set_option maxHeartbeats 4000000 in
theorem ref_put (S : Nat → Prop) (tv : Value) (T : Tre) (s d : ByteArray) (w : World) (h : TreeR w S tv T) (hT : WFT T) (hs : s.size ≤ 262144) (hd : d.size ≤ 262144) :
    Calls Tryz.prog 121 #[tv, .string s, .string d] w fun e w' => TreePost w S (treeP T (fun l => putT T l d) s) (codeP (fun l => putE T l d) s) e w' := by
  have hnot : ∀ (x : Bool) (w : World), (Op.unary .not (.bool x)).run Tryz.prog w = .ok (.bool (!x)) w := fun _ _ => rfl
  have HH : Hid (TreeR w S tv T) := h
  have HT : Hid (WFT T) := hT
  have HN : Hid (Calls Tryz.prog 191 #[.string s] w fun e w' => NamesPost w s e w') := ref_names s w hs
  obtain ⟨i0, hi0, hz0, hz1, hz2⟩ := info_parts infoItem
  obtain ⟨at0, cp, rfl⟩ := own_sh h.1
  have hTl := hT.len
  have hds : (d.size : Int) ≤ 262144 := by omega
  obtain ⟨cde, hcde⟩ : ∃ c, c = codeP (fun l => putE T l d) s := ⟨_, rfl⟩
  obtain ⟨T2, hT2⟩ : ∃ t, t = treeP T (fun l => putT T l d) s := ⟨_, rfl⟩
  rw [← hcde, ← hT2]
  have HX : Hid (cde = codeP (fun l => putE T l d) s ∧ T2 = treeP T (fun l => putT T l d) s) := ⟨hcde, hT2⟩
  clear h hT hcde hT2
  go_enter Tryz.func121, Tryz.ntmps121
  go_wp2_with fail
  refine HN.out.mono ?_
  rintro e w1 ⟨v, b, rfl, hb1, ⟨l, hl, rfl, hown⟩ | ⟨hl, rfl⟩⟩
  · have HB1 : Hid (Below w.heap.size w w1) := hb1
    obtain ⟨ao, c, rfl⟩ := own_sh hown
    by_cases h0 : l = []
    · subst h0
      have HZ : Hid (cde = 5 ∧ T2 = T) := ⟨HX.out.1.trans (codeP_nil hl), HX.out.2.trans (treeP_nil hl)⟩
      clear hb1 hl hown
      go_wp2
      refine bodyPost_ret (results_tmp2 rfl _ _ _) rfl ?_
      rw [HZ.out.1, HZ.out.2]
      exact TreePost.refused HH.out HB1.out
    · have HX1 : Hid (cde = putE T l d ∧ T2 = putT T l d) := ⟨HX.out.1.trans (codeP_some hl h0), HX.out.2.trans (treeP_some hl h0)⟩
      have hl8 := (pathOf_valid hl).2
      obtain ⟨n, hn⟩ : ∃ n, n + 1 = l.length := ⟨l.length - 1, by have := List.length_pos_iff.2 h0; omega⟩
      have hne : ((l.length : Int) == 0) = false := by rw [beq_eq_false_iff_ne]; omega
      have HL : Hid (pathOf s = some l ∧ l ≠ []) := ⟨hl, h0⟩
      clear hb1 hown
      by_cases hbig : 1536 < d.size
      · obtain ⟨e1, e2⟩ := putE_big (T := T) (l := l) hbig
        have HZ := hid_two HX1.out.1 HX1.out.2 e1 e2
        clear hl h0 e1 e2
        go_wp2
        refine bodyPost_ret (results_tmp2 rfl _ _ _) rfl ?_
        rw [HZ.out.1, HZ.out.2]
        exact TreePost.refused HH.out HB1.out
      · have HSP : Hid (Calls Tryz.prog 192 #[.slice at0 T.length cp, .string s] w1 fun e w' => e = .returned (.int .i64 (spotE T l : Nat)) ∧ Below w1.heap.size w1 w') := by
          have := ref_spot S (.slice at0 T.length cp) T s w1 (HH.out.on HB1.out) HT.out hs
          rw [spotR_eq, codeP_some hl h0] at this
          exact this
        have hsb : spotE T l ≤ 7 := by
          unfold spotE
          have := findE_cases T l.dropLast []
          split
          · omega
          · split <;> omega
        obtain ⟨sp, hsp⟩ : ∃ sp, sp = spotE T l := ⟨_, rfl⟩
        rw [← hsp] at HSP hsb
        have HSP0 : Hid (sp = spotE T l) := hsp
        clear hl h0 hsp
        by_cases hs0 : sp = 0
        · subst hs0
          clear hsb
          have HF : Hid (∀ w2, Below w.heap.size w w2 → Calls Tryz.prog 193 #[.slice at0 T.length cp, .string s] w2 fun e w' => e = .returned (.int .i64 (findR T l)) ∧ w2 = w') := fun w2 hb2 => by
            have := ref_find S (.slice at0 T.length cp) T l w2 (HH.out.on hb2) HT.out (pathOf_valid HL.out.1).1
            rw [joinB_path HL.out.1] at this
            exact this
          have HRM : Hid (∀ w2, Below w.heap.size w w2 → Calls Tryz.prog 194 #[.slice at0 T.length cp, .string s] w2 fun e w' => e = .returned (.bool (!fullT T l.dropLast)) ∧ Below w2.heap.size w2 w') := fun w2 hb2 =>
            ref_room S (.slice at0 T.length cp) T s l w2 (HH.out.on hb2) HT.out hs HL.out.1 HL.out.2
          cases hlk : lookT T l with
          | some x =>
            obtain ⟨hil, hix⟩ := idx_some hlk
            obtain ⟨g, cap, hv, hSg, hgl, hc, hf⟩ := HH.out.open (by omega)
            cases hv
            have hfr : findR T l = (idxT T l : Int) := by unfold findR; rw [hlk]; rfl
            rw [hfr] at HF
            obtain ⟨-, cd, cx⟩ := hc _ hil
            rw [hix] at cd cx
            have fx := hf (idxT T l * 3 + 2)
            have HI : Hid (lookT T l = some x) := hlk
            have HSET : Hid (∀ w2, Below w.heap.size w w2 → TreePost w S (setD T l d) 0 (.returned (.tuple #[.slice (some ⟨g, 0, none⟩) T.length cp, .int .i64 0])) (w2.setCell ⟨g, idxT T l * 3 + 2, none⟩ (.string d))) := fun w2 hb2 => TreePost.set HH.out HT.out hb2 HI.out
            obtain ⟨m, hm⟩ : ∃ m, m = idxT T l := ⟨_, rfl⟩
            rw [← hm] at cd cx fx hil HF HSET
            have HE2 : Hid (putE T l d = (if x.dir then 7 else 0) ∧ putT T l d = (if x.dir then T else setD T l d)) := putE_some hbig HSP0.out.symm hlk
            clear hlk hfr hix hm hc hf
            cases hdir : x.dir
            · rw [hdir] at cd HE2
              have e1 : putE T l d = 0 := HE2.out.1
              have e2 : putT T l d = setD T l d := HE2.out.2
              have HZ := hid_two HX1.out.1 HX1.out.2 e1 e2
              clear e1 e2 hdir
              go_wp2_with (go_at_call 192; refine HSP.out.mono ?_; rintro e w2 ⟨rfl, hb2⟩; have HB2 : Hid (Below w.heap.size w w2) := HB1.out.trans (hb2.mono HB1.out.size); have cd2 : w2.cell? ⟨g, m * 3 + 1, none⟩ = some (.bool false) := (by rw [HB2.out.cell hgl]; exact cd); have cx2 : w2.cell? ⟨g, m * 3 + 2, none⟩ = some (.string x.data) := (by rw [HB2.out.cell hgl]; exact cx); have fx2 : w2.frozen? ⟨g, m * 3 + 2, none⟩ = false := (by rw [HB2.out.frozen hgl]; exact fx); have HF2 := HF.out w2 HB2.out; have HFF : Hid (Calls Tryz.prog 193 #[.slice (some ⟨g, 0, none⟩) T.length cp, .string s] w2 fun e w' => e = .returned (.int .i64 (m : Int)) ∧ w2 = w') := HF2; clear hb2 HF2)
              go_wp2_with (go_at_call 193; refine HFF.out.mono ?_; rintro e w3 ⟨rfl, rfl⟩)
              refine bodyPost_ret (results_tmp2 rfl _ _ _) rfl ?_
              rw [HZ.out.1, HZ.out.2]
              exact HSET.out _ HB2.out
            · rw [hdir] at cd HE2
              have e1 : putE T l d = 7 := HE2.out.1
              have e2 : putT T l d = T := HE2.out.2
              have HZ := hid_two HX1.out.1 HX1.out.2 e1 e2
              clear e1 e2 hdir
              go_wp2_with (go_at_call 192; refine HSP.out.mono ?_; rintro e w2 ⟨rfl, hb2⟩; have HB2 : Hid (Below w.heap.size w w2) := HB1.out.trans (hb2.mono HB1.out.size); have cd2 : w2.cell? ⟨g, m * 3 + 1, none⟩ = some (.bool true) := (by rw [HB2.out.cell hgl]; exact cd); have HF2 := HF.out w2 HB2.out; have HFF : Hid (Calls Tryz.prog 193 #[.slice (some ⟨g, 0, none⟩) T.length cp, .string s] w2 fun e w' => e = .returned (.int .i64 (m : Int)) ∧ w2 = w') := HF2; clear hb2 HF2)
              go_wp2_with (go_at_call 193; refine HFF.out.mono ?_; rintro e w3 ⟨rfl, rfl⟩)
              refine bodyPost_ret (results_tmp2 rfl _ _ _) rfl ?_
              rw [HZ.out.1, HZ.out.2]
              exact TreePost.refused HH.out HB2.out
          | none =>
            have hfr : findR T l = -1 := by unfold findR; rw [hlk]; rfl
            rw [hfr] at HF
            have HE2 : Hid (putE T l d = (if fullT T l.dropLast then 10 else 0) ∧ putT T l d = (if fullT T l.dropLast then T else T ++ [⟨l, false, d⟩])) := putE_none hbig HSP0.out.symm hlk
            have HLK : Hid (lookT T l = none) := hlk
            have HSJ : Hid (joinB l = s) := joinB_path HL.out.1
            clear hlk hfr
            cases hfu : fullT T l.dropLast
            · rw [hfu] at HE2 HRM
              have e1 : putE T l d = 0 := HE2.out.1
              have e2 : putT T l d = T ++ [⟨l, false, d⟩] := HE2.out.2
              have HZ := hid_two HX1.out.1 HX1.out.2 e1 e2
              clear e1 e2 hfu
              go_wp2_with (go_at_call 192; refine HSP.out.mono ?_; rintro e w2 ⟨rfl, hb2⟩; have HB2 : Hid (Below w.heap.size w w2) := HB1.out.trans (hb2.mono HB1.out.size); have HF2 := HF.out w2 HB2.out; have HFF : Hid (Calls Tryz.prog 193 #[.slice at0 T.length cp, .string s] w2 fun e w' => e = .returned (.int .i64 (-1)) ∧ w2 = w') := HF2; have HR2 := HRM.out w2 HB2.out; have HRR : Hid (Calls Tryz.prog 194 #[.slice at0 T.length cp, .string s] w2 fun e w' => e = .returned (.bool true) ∧ Below w2.heap.size w2 w') := HR2; clear hb2 HF2 HR2)
              go_wp2_with (first | (go_at_call 193; refine HFF.out.mono ?_; rintro e w3 ⟨rfl, rfl⟩) | (go_at_call 194; refine HRR.out.mono ?_; rintro e w3 ⟨rfl, hb3⟩; have HB3 : Hid (Below w.heap.size w w3) := HB2.out.trans (hb3.mono HB2.out.size); have HO3 : Hid (TreeR w3 S (.slice at0 T.length cp) T) := HH.out.on HB3.out; clear hb3) | (at_builtin; refine wpList_append_own_at _ rfl _ _ 212 rfl 0 316 i0 (.agg #[.string ⟨#[]⟩, .bool false, .string ⟨#[]⟩]) 3 40 Tryz.underlying212 hi0 hz0 hz1 hz2 rfl (by decide) _ _ _ rfl (World.ownsRow.alloc HO3.out.1 _) _ 1 1 [.string s, .bool false, .string d] rfl rfl (cells_three _ _ _ _ _) (by intro u hu; simp at hu; rcases hu with rfl | rfl | rfl <;> rfl) (by unfold maxLen; omega) (by omega) (by omega) ?_))
              intro v' w4 hown' hgrow _ hat
              have HP : Hid (TreePost w S (T ++ [⟨l, false, d⟩]) 0 (.returned (.tuple #[v', .int .i64 0])) w4) := TreePost.more (x := ⟨l, false, d⟩) HH.out HB3.out (by show World.ownsRow _ _ _ _ _ _ (itmsV T ++ [.string (joinB l), .bool false, .string d]); rw [HSJ.out]; exact hown') hgrow (by simpa [Value.ownBlock] using hat)
              clear hown' hgrow hat
              go_wp2
              refine bodyPost_ret (results_tmp2 rfl _ _ _) rfl ?_
              rw [HZ.out.1, HZ.out.2]
              exact HP.out
            · rw [hfu] at HE2 HRM
              have e1 : putE T l d = 10 := HE2.out.1
              have e2 : putT T l d = T := HE2.out.2
              have HZ := hid_two HX1.out.1 HX1.out.2 e1 e2
              clear e1 e2 hfu
              go_wp2_with (go_at_call 192; refine HSP.out.mono ?_; rintro e w2 ⟨rfl, hb2⟩; have HB2 : Hid (Below w.heap.size w w2) := HB1.out.trans (hb2.mono HB1.out.size); have HF2 := HF.out w2 HB2.out; have HFF : Hid (Calls Tryz.prog 193 #[.slice at0 T.length cp, .string s] w2 fun e w' => e = .returned (.int .i64 (-1)) ∧ w2 = w') := HF2; have HR2 := HRM.out w2 HB2.out; have HRR : Hid (Calls Tryz.prog 194 #[.slice at0 T.length cp, .string s] w2 fun e w' => e = .returned (.bool false) ∧ Below w2.heap.size w2 w') := HR2; clear hb2 HF2 HR2)
              go_wp2_with (first | (go_at_call 193; refine HFF.out.mono ?_; rintro e w3 ⟨rfl, rfl⟩) | (go_at_call 194; refine HRR.out.mono ?_; rintro e w3 ⟨rfl, hb3⟩; have HB3 : Hid (Below w.heap.size w w3) := HB2.out.trans (hb3.mono HB2.out.size); clear hb3))
              refine bodyPost_ret (results_tmp2 rfl _ _ _) rfl ?_
              rw [HZ.out.1, HZ.out.2]
              exact TreePost.refused HH.out HB3.out
        · obtain ⟨e1, e2⟩ := putE_spot (T := T) (l := l) hbig (by rw [← HSP0.out]; exact hs0)
          rw [← HSP0.out] at e1
          have HZ := hid_two HX1.out.1 HX1.out.2 e1 e2
          have hsn : ((sp : Int) != 0) = true := by rw [bne_iff_ne]; omega
          clear e1 e2
          go_wp2_with (go_at_call 192; refine HSP.out.mono ?_; rintro e w2 ⟨rfl, hb2⟩; have HB2 : Hid (Below w.heap.size w w2) := HB1.out.trans (hb2.mono HB1.out.size); clear hb2)
          refine bodyPost_ret (results_tmp2 rfl _ _ _) rfl ?_
          rw [HZ.out.1, HZ.out.2]
          exact TreePost.refused HH.out HB2.out
  · have HB1 : Hid (Below w.heap.size w w1) := hb1
    have HZ : Hid (cde = 5 ∧ T2 = T) := ⟨HX.out.1.trans (codeP_none hl), HX.out.2.trans (treeP_none hl)⟩
    clear hb1 hl
    go_wp2
    refine bodyPost_ret (results_tmp2 rfl _ _ _) rfl ?_
    rw [HZ.out.1, HZ.out.2]
    exact TreePost.refused HH.out HB1.out
end Go.Proofs.YtapijhhmjjplmaaGreatDoor
namespace Go.Proofs.YtapijhhmjjplmaaGreatDoor
open Go.RowKit
theorem codeP_zero {f : List ByteArray → Nat} {s : ByteArray} (h : codeP f s = 0) : ∃ l, pathOf s = some l ∧ l ≠ [] ∧ f l = 0 := by
  unfold codeP at h
  split at h
  · cases h
  · cases h
  · rename_i l hne hl
    exact ⟨l, hl, hne, h⟩
theorem mkdir_spot {T : Tre} {s : ByteArray} (h : codeP (spotE T) s ≠ 0) : codeP (mkdirE T) s = codeP (spotE T) s ∧ treeP T (mkdirT T) s = T := by
  cases hp : pathOf s with
  | none => exact ⟨by rw [codeP_none hp, codeP_none hp], treeP_none hp⟩
  | some l =>
    by_cases h0 : l = []
    · subst h0
      exact ⟨by rw [codeP_nil hp, codeP_nil hp], treeP_nil hp⟩
    · rw [codeP_some hp h0] at h ⊢
      rw [codeP_some hp h0, treeP_some hp h0]
      have e : mkdirE T l = spotE T l := by unfold mkdirE; rw [if_pos h]
      exact ⟨e, by unfold mkdirT; rw [if_pos (by rw [e]; exact h)]⟩
theorem mkdir_ok {T : Tre} {s : ByteArray} {l : List ByteArray} (hp : pathOf s = some l) (h0 : l ≠ []) (hs : spotE T l = 0) :
    ((lookT T l).isSome → codeP (mkdirE T) s = 8 ∧ treeP T (mkdirT T) s = T) ∧ (lookT T l = none → codeP (mkdirE T) s = (if fullT T l.dropLast then 10 else 0) ∧ treeP T (mkdirT T) s = (if fullT T l.dropLast then T else T ++ [⟨l, true, ⟨#[]⟩⟩])) := by
  rw [codeP_some hp h0, treeP_some hp h0]
  refine ⟨fun h => ?_, fun h => ?_⟩
  · have e : mkdirE T l = 8 := by unfold mkdirE; rw [if_neg (by rw [hs]; simp), if_pos h]
    exact ⟨e, by unfold mkdirT; rw [if_pos (by rw [e]; decide)]⟩
  · have e : mkdirE T l = (if fullT T l.dropLast then 10 else 0) := by unfold mkdirE; rw [if_neg (by rw [hs]; simp), if_neg (by rw [h]; simp)]
    refine ⟨e, ?_⟩
    unfold mkdirT
    rw [e]
    cases fullT T l.dropLast <;> rfl
theorem remove_spot {T : Tre} {s : ByteArray} (h : codeP (spotE T) s ≠ 0) : codeP (removeE T) s = codeP (spotE T) s ∧ treeP T (removeT T) s = T := by
  cases hp : pathOf s with
  | none => exact ⟨by rw [codeP_none hp, codeP_none hp], treeP_none hp⟩
  | some l =>
    by_cases h0 : l = []
    · subst h0
      exact ⟨by rw [codeP_nil hp, codeP_nil hp], treeP_nil hp⟩
    · rw [codeP_some hp h0] at h ⊢
      rw [codeP_some hp h0, treeP_some hp h0]
      have e : removeE T l = spotE T l := by unfold removeE; rw [if_pos h]
      exact ⟨e, by unfold removeT; rw [if_pos (by rw [e]; exact h)]⟩
theorem remove_ok {T : Tre} {s : ByteArray} {l : List ByteArray} (hp : pathOf s = some l) (h0 : l ≠ []) (hs : spotE T l = 0) :
    (lookT T l = none → codeP (removeE T) s = 6 ∧ treeP T (removeT T) s = T) ∧ (∀ x, lookT T l = some x → (kidsU T l ≠ [] → codeP (removeE T) s = 9 ∧ treeP T (removeT T) s = T) ∧ (kidsU T l = [] → codeP (removeE T) s = 0 ∧ treeP T (removeT T) s = dropT T l)) := by
  rw [codeP_some hp h0, treeP_some hp h0]
  refine ⟨fun h => ?_, fun x h => ⟨fun hk => ?_, fun hk => ?_⟩⟩
  · have e : removeE T l = 6 := by unfold removeE; rw [if_neg (by rw [hs]; simp), if_pos (by rw [h]; rfl)]
    exact ⟨e, by unfold removeT; rw [if_pos (by rw [e]; decide)]⟩
  · have e : removeE T l = 9 := by unfold removeE; rw [if_neg (by rw [hs]; simp), if_neg (by rw [h]; simp), if_pos hk]
    exact ⟨e, by unfold removeT; rw [if_pos (by rw [e]; decide)]⟩
  · have e : removeE T l = 0 := by unfold removeE; rw [if_neg (by rw [hs]; simp), if_neg (by rw [h]; simp), if_neg (by rw [hk]; simp)]
    exact ⟨e, by unfold removeT; rw [if_neg (by rw [e]; simp)]⟩
theorem spotR_le (T : Tre) (s : ByteArray) : codeP (spotE T) s ≤ 7 := by
  unfold codeP
  split
  · decide
  · decide
  · rename_i l _ _
    unfold spotE
    have := findE_cases T l.dropLast []
    split
    · omega
    · split <;> omega
set_option maxRecDepth 100000 in
set_option maxHeartbeats 4000000 in
theorem ref_mkdir (S : Nat → Prop) (tv : Value) (T : Tre) (s : ByteArray) (w : World) (h : TreeR w S tv T) (hT : WFT T) (hs : s.size ≤ 262144) :
    Calls Tryz.prog 122 #[tv, .string s] w fun e w' => TreePost w S (treeP T (mkdirT T) s) (codeP (mkdirE T) s) e w' := by
  have hnot : ∀ (x : Bool) (w : World), (Op.unary .not (.bool x)).run Tryz.prog w = .ok (.bool (!x)) w := fun _ _ => rfl
  have HH : Hid (TreeR w S tv T) := h
  have HT : Hid (WFT T) := hT
  have hS := ref_spot S tv T s w h hT hs
  rw [spotR_eq] at hS
  have hle := spotR_le T s
  obtain ⟨sp, hsp⟩ : ∃ sp, sp = codeP (spotE T) s := ⟨_, rfl⟩
  rw [← hsp] at hS hle
  have HSP0 : Hid (sp = codeP (spotE T) s) := hsp
  have HSP : Hid (Calls Tryz.prog 192 #[tv, .string s] w fun e w' => e = .returned (.int .i64 (sp : Nat)) ∧ Below w.heap.size w w') := hS
  obtain ⟨i0, hi0, hz0, hz1, hz2⟩ := info_parts infoItem
  obtain ⟨at0, cp, rfl⟩ := own_sh h.1
  have hTl := hT.len
  obtain ⟨cde, hcde⟩ : ∃ c, c = codeP (mkdirE T) s := ⟨_, rfl⟩
  obtain ⟨T2, hT2⟩ : ∃ t, t = treeP T (mkdirT T) s := ⟨_, rfl⟩
  rw [← hcde, ← hT2]
  have HX : Hid (cde = codeP (mkdirE T) s ∧ T2 = treeP T (mkdirT T) s) := ⟨hcde, hT2⟩
  clear h hT hcde hT2 hS hsp
  by_cases hs0 : sp = 0
  · subst hs0
    obtain ⟨l, hl, h0, hsl⟩ := codeP_zero HSP0.out.symm
    obtain ⟨ok1, ok2⟩ := mkdir_ok hl h0 hsl
    have HF : Hid (∀ w2, Below w.heap.size w w2 → Calls Tryz.prog 193 #[.slice at0 T.length cp, .string s] w2 fun e w' => e = .returned (.int .i64 (findR T l)) ∧ w2 = w') := fun w2 hb2 => by
      have := ref_find S (.slice at0 T.length cp) T l w2 (HH.out.on hb2) HT.out (pathOf_valid hl).1
      rw [joinB_path hl] at this
      exact this
    have HRM : Hid (∀ w2, Below w.heap.size w w2 → Calls Tryz.prog 194 #[.slice at0 T.length cp, .string s] w2 fun e w' => e = .returned (.bool (!fullT T l.dropLast)) ∧ Below w2.heap.size w2 w') := fun w2 hb2 =>
      ref_room S (.slice at0 T.length cp) T s l w2 (HH.out.on hb2) HT.out hs hl h0
    have HSJ : Hid (joinB l = s) := joinB_path hl
    clear hl h0 hsl
    cases hlk : lookT T l with
    | some x =>
      obtain ⟨e1, e2⟩ := ok1 (by rw [hlk]; rfl)
      have HZ := hid_two HX.out.1 HX.out.2 e1 e2
      have hil := (idx_some hlk).1
      have hfr : findR T l = (idxT T l : Int) := by unfold findR; rw [hlk]; rfl
      rw [hfr] at HF
      obtain ⟨m, hm⟩ : ∃ m, m = idxT T l := ⟨_, rfl⟩
      rw [← hm] at hil HF
      clear ok1 ok2 e1 e2 hlk hfr hm
      go_enter Tryz.func122, Tryz.ntmps122
      go_wp2_with (go_at_call 192; refine HSP.out.mono ?_; rintro e w2 ⟨rfl, hb2⟩; have HB2 : Hid (Below w.heap.size w w2) := hb2; have HF2 := HF.out w2 hb2; have HFF : Hid (Calls Tryz.prog 193 #[.slice at0 T.length cp, .string s] w2 fun e w' => e = .returned (.int .i64 (m : Int)) ∧ w2 = w') := HF2; clear hb2 HF2)
      go_wp2_with (go_at_call 193; refine HFF.out.mono ?_; rintro e w3 ⟨rfl, rfl⟩)
      refine bodyPost_ret (results_tmp2 rfl _ _ _) rfl ?_
      rw [HZ.out.1, HZ.out.2]
      exact TreePost.refused HH.out HB2.out
    | none =>
      obtain ⟨e1, e2⟩ := ok2 hlk
      have hfr : findR T l = -1 := by unfold findR; rw [hlk]; rfl
      rw [hfr] at HF
      have HZ := hid_two HX.out.1 HX.out.2 e1 e2
      clear ok1 ok2 e1 e2 hlk hfr
      cases hfu : fullT T l.dropLast
      · rw [hfu] at HRM HZ
        clear hfu
        go_enter Tryz.func122, Tryz.ntmps122
        go_wp2_with (go_at_call 192; refine HSP.out.mono ?_; rintro e w2 ⟨rfl, hb2⟩; have HB2 : Hid (Below w.heap.size w w2) := hb2; have HF2 := HF.out w2 hb2; have HFF : Hid (Calls Tryz.prog 193 #[.slice at0 T.length cp, .string s] w2 fun e w' => e = .returned (.int .i64 (-1)) ∧ w2 = w') := HF2; have HR2 := HRM.out w2 hb2; have HRR : Hid (Calls Tryz.prog 194 #[.slice at0 T.length cp, .string s] w2 fun e w' => e = .returned (.bool true) ∧ Below w2.heap.size w2 w') := HR2; clear hb2 HF2 HR2)
        go_wp2_with (first | (go_at_call 193; refine HFF.out.mono ?_; rintro e w3 ⟨rfl, rfl⟩) | (go_at_call 194; refine HRR.out.mono ?_; rintro e w3 ⟨rfl, hb3⟩; have HB3 : Hid (Below w.heap.size w w3) := HB2.out.trans (hb3.mono HB2.out.size); have HO3 : Hid (TreeR w3 S (.slice at0 T.length cp) T) := HH.out.on HB3.out; clear hb3) | (at_builtin; refine wpList_append_own_at _ rfl _ _ 212 rfl 0 316 i0 (.agg #[.string ⟨#[]⟩, .bool false, .string ⟨#[]⟩]) 3 40 Tryz.underlying212 hi0 hz0 hz1 hz2 rfl (by decide) _ _ _ rfl (World.ownsRow.alloc HO3.out.1 _) _ 1 1 [.string s, .bool true, .string ⟨#[]⟩] rfl rfl (cells_three _ _ _ _ _) (by intro u hu; simp at hu; rcases hu with rfl | rfl | rfl <;> rfl) (by unfold maxLen; omega) (by omega) (by omega) ?_))
        intro v' w4 hown' hgrow _ hat
        have HP : Hid (TreePost w S (T ++ [⟨l, true, ⟨#[]⟩⟩]) 0 (.returned (.tuple #[v', .int .i64 0])) w4) := TreePost.more (x := ⟨l, true, ⟨#[]⟩⟩) HH.out HB3.out (by show World.ownsRow _ _ _ _ _ _ (itmsV T ++ [.string (joinB l), .bool true, .string ⟨#[]⟩]); rw [HSJ.out]; exact hown') hgrow (by simpa [Value.ownBlock] using hat)
        clear hown' hgrow hat
        go_wp2
        refine bodyPost_ret (results_tmp2 rfl _ _ _) rfl ?_
        rw [HZ.out.1, HZ.out.2]
        exact HP.out
      · rw [hfu] at HRM HZ
        clear hfu
        go_enter Tryz.func122, Tryz.ntmps122
        go_wp2_with (go_at_call 192; refine HSP.out.mono ?_; rintro e w2 ⟨rfl, hb2⟩; have HB2 : Hid (Below w.heap.size w w2) := hb2; have HF2 := HF.out w2 hb2; have HFF : Hid (Calls Tryz.prog 193 #[.slice at0 T.length cp, .string s] w2 fun e w' => e = .returned (.int .i64 (-1)) ∧ w2 = w') := HF2; have HR2 := HRM.out w2 hb2; have HRR : Hid (Calls Tryz.prog 194 #[.slice at0 T.length cp, .string s] w2 fun e w' => e = .returned (.bool false) ∧ Below w2.heap.size w2 w') := HR2; clear hb2 HF2 HR2)
        go_wp2_with (first | (go_at_call 193; refine HFF.out.mono ?_; rintro e w3 ⟨rfl, rfl⟩) | (go_at_call 194; refine HRR.out.mono ?_; rintro e w3 ⟨rfl, hb3⟩; have HB3 : Hid (Below w.heap.size w w3) := HB2.out.trans (hb3.mono HB2.out.size); clear hb3))
        refine bodyPost_ret (results_tmp2 rfl _ _ _) rfl ?_
        rw [HZ.out.1, HZ.out.2]
        exact TreePost.refused HH.out HB3.out
  · obtain ⟨e1, e2⟩ := mkdir_spot (T := T) (s := s) (by rw [← HSP0.out]; exact hs0)
    rw [← HSP0.out] at e1
    have HZ := hid_two HX.out.1 HX.out.2 e1 e2
    have hsn : ((sp : Int) != 0) = true := by rw [bne_iff_ne]; omega
    clear e1 e2
    go_enter Tryz.func122, Tryz.ntmps122
    go_wp2_with (go_at_call 192; refine HSP.out.mono ?_; rintro e w2 ⟨rfl, hb2⟩; have HB2 : Hid (Below w.heap.size w w2) := hb2; clear hb2)
    refine bodyPost_ret (results_tmp2 rfl _ _ _) rfl ?_
    rw [HZ.out.1, HZ.out.2]
    exact TreePost.refused HH.out HB2.out
end Go.Proofs.YtapijhhmjjplmaaGreatDoor
namespace Go.Proofs.YtapijhhmjjplmaaGreatDoor
open Go.RowKit
theorem dropT_take {T : Tre} (hd : (T.map (·.names)).Nodup) {l : List ByteArray} {x : Itm} (hx : lookT T l = some x) {k : Nat} (hk : k < T.length) : dropT (T.take (k + 1)) l = if k = idxT T l then dropT (T.take k) l else dropT (T.take k) l ++ [T[k]] := by
  unfold dropT
  rw [List.take_succ_eq_append_getElem hk, List.filter_append, List.filter_cons]
  by_cases e : k = idxT T l
  · obtain ⟨h1, h2⟩ := idx_some hx
    have hn := (look_some hx).2
    subst e
    rw [if_pos rfl, if_neg (by rw [h2]; simpa using hn)]
    simp
  · have hne : T[k].names ≠ l := fun hn => by
      have h1 := look_mem hd (List.getElem_mem hk)
      rw [hn, hx] at h1
      cases h1
      obtain ⟨h3, h4⟩ := idx_some hx
      have h5 : (T.map (·.names))[k]'(by simpa using hk) = (T.map (·.names))[idxT T l]'(by simpa using h3) := by simp [h4]
      exact e ((List.getElem_inj hd).1 h5)
    rw [if_neg e, if_pos (by simpa using hne)]
    simp
theorem own_itm {w : World} {B : Nat} {v : Value} {R : Tre} {x : Itm} (h : w.ownsRow B 316 3 v (R.length + 1) (itmsV R ++ itmV x)) : Hid (w.ownsRow B 316 3 v (R ++ [x]).length (itmsV (R ++ [x]))) := by
  have e1 : (R ++ [x]).length = R.length + 1 := by simp
  have e2 : itmsV (R ++ [x]) = itmsV R ++ itmV x := by simp [itmsV]
  show World.ownsRow _ _ _ _ _ _ _
  rw [e1, e2]
  exact h
set_option maxRecDepth 100000 in
set_option maxHeartbeats 4000000 in
theorem ref_remove (S : Nat → Prop) (tv : Value) (T : Tre) (s : ByteArray) (w : World) (h : TreeR w S tv T) (hT : WFT T) (hs : s.size ≤ 262144) :
    Calls Tryz.prog 123 #[tv, .string s] w fun e w' => TreePost w S (treeP T (removeT T) s) (codeP (removeE T) s) e w' := by
  have HH : Hid (TreeR w S tv T) := h
  have HT : Hid (WFT T) := hT
  have hS := ref_spot S tv T s w h hT hs
  rw [spotR_eq] at hS
  have hle := spotR_le T s
  obtain ⟨sp, hsp⟩ : ∃ sp, sp = codeP (spotE T) s := ⟨_, rfl⟩
  rw [← hsp] at hS hle
  have HSP0 : Hid (sp = codeP (spotE T) s) := hsp
  have HSP : Hid (Calls Tryz.prog 192 #[tv, .string s] w fun e w' => e = .returned (.int .i64 (sp : Nat)) ∧ Below w.heap.size w w') := hS
  obtain ⟨i0, hi0, hz0, hz1, hz2⟩ := info_parts infoItem
  obtain ⟨at0, cp, rfl⟩ := own_sh h.1
  have hTl := hT.len
  obtain ⟨cde, hcde⟩ : ∃ c, c = codeP (removeE T) s := ⟨_, rfl⟩
  obtain ⟨T2, hT2⟩ : ∃ t, t = treeP T (removeT T) s := ⟨_, rfl⟩
  rw [← hcde, ← hT2]
  have HX : Hid (cde = codeP (removeE T) s ∧ T2 = treeP T (removeT T) s) := ⟨hcde, hT2⟩
  clear h hT hcde hT2 hS hsp
  by_cases hs0 : sp = 0
  · subst hs0
    obtain ⟨l, hl, h0, hsl⟩ := codeP_zero HSP0.out.symm
    obtain ⟨ok1, ok2⟩ := remove_ok hl h0 hsl
    have HF : Hid (∀ w2, Below w.heap.size w w2 → Calls Tryz.prog 193 #[.slice at0 T.length cp, .string s] w2 fun e w' => e = .returned (.int .i64 (findR T l)) ∧ w2 = w') := fun w2 hb2 => by
      have := ref_find S (.slice at0 T.length cp) T l w2 (HH.out.on hb2) HT.out (pathOf_valid hl).1
      rw [joinB_path hl] at this
      exact this
    have HKD : Hid (∀ w2, Below w.heap.size w w2 → Calls Tryz.prog 195 #[.slice at0 T.length cp, .string s] w2 fun e w' => KidsPost w2 (kidsT T l) e w') := fun w2 hb2 => by
      have := ref_kids S (.slice at0 T.length cp) T l w2 (HH.out.on hb2) HT.out (pathOf_valid hl).1
      rw [joinB_path hl] at this
      exact this
    clear hl h0 hsl
    cases hlk : lookT T l with
    | none =>
      obtain ⟨e1, e2⟩ := ok1 hlk
      have HZ := hid_two HX.out.1 HX.out.2 e1 e2
      have hfr : findR T l = -1 := by unfold findR; rw [hlk]; rfl
      rw [hfr] at HF
      clear ok1 ok2 e1 e2 hlk hfr HKD
      go_enter Tryz.func123, Tryz.ntmps123
      go_wp2_with (go_at_call 192; refine HSP.out.mono ?_; rintro e w2 ⟨rfl, hb2⟩; have HB2 : Hid (Below w.heap.size w w2) := hb2; have HF2 := HF.out w2 hb2; have HFF : Hid (Calls Tryz.prog 193 #[.slice at0 T.length cp, .string s] w2 fun e w' => e = .returned (.int .i64 (-1)) ∧ w2 = w') := HF2; clear hb2 HF2)
      go_wp2_with (go_at_call 193; refine HFF.out.mono ?_; rintro e w3 ⟨rfl, rfl⟩)
      refine bodyPost_ret (results_tmp2 rfl _ _ _) rfl ?_
      rw [HZ.out.1, HZ.out.2]
      exact TreePost.refused HH.out HB2.out
    | some x =>
      obtain ⟨k1, k2⟩ := ok2 x hlk
      have HLK : Hid (lookT T l = some x) := hlk
      have hil := (idx_some hlk).1
      have hfr : findR T l = (idxT T l : Int) := by unfold findR; rw [hlk]; rfl
      rw [hfr] at HF
      obtain ⟨m, hm⟩ : ∃ m, m = idxT T l := ⟨_, rfl⟩
      rw [← hm] at hil HF
      have HM : Hid (m = idxT T l) := hm
      have hpl := (kidsT_perm T l).length_eq
      have hkb : (kidsT T l).length ≤ 256 := by rw [hpl]; exact Nat.le_trans (kids_len _ _) HT.out.len
      obtain ⟨L, hL⟩ : ∃ L, L = kidsT T l := ⟨_, rfl⟩
      rw [← hL] at HKD hpl hkb
      clear ok1 ok2 hlk hfr hm hL
      by_cases hk : kidsU T l = []
      · obtain ⟨e1, e2⟩ := k2 hk
        have HZ := hid_two HX.out.1 HX.out.2 e1 e2
        have hL0 : L = [] := List.eq_nil_of_length_eq_zero (by rw [hpl, hk]; rfl)
        subst hL0
        obtain ⟨g, cap, hv, hSg, hgl, hc, -⟩ := HH.out.open (by omega)
        cases hv
        have HC : Hid (∀ k (hk : k < T.length), w.cell? ⟨g, k * 3, none⟩ = some (.string (joinB T[k].names)) ∧ w.cell? ⟨g, k * 3 + 1, none⟩ = some (.bool T[k].dir) ∧ w.cell? ⟨g, k * 3 + 2, none⟩ = some (.string T[k].data)) := hc
        obtain ⟨n, hn⟩ : ∃ n, n = T.length := ⟨_, rfl⟩
        have HN : Hid (n = T.length) := hn
        rw [← hn] at hTl hil HKD HF HSP ⊢
        clear k1 k2 e1 e2 hk hpl hkb hc hn
        go_enter Tryz.func123, Tryz.ntmps123
        go_wp2_with (go_at_call 192; refine HSP.out.mono ?_; rintro e w2 ⟨rfl, hb2⟩; have HB2 : Hid (Below w.heap.size w w2) := hb2; have HF2 := HF.out w2 hb2; have HFF : Hid (Calls Tryz.prog 193 #[.slice (some ⟨g, 0, none⟩) n cp, .string s] w2 fun e w' => e = .returned (.int .i64 (m : Int)) ∧ w2 = w') := HF2; have HK2 := HKD.out w2 hb2; have HKK : Hid (Calls Tryz.prog 195 #[.slice (some ⟨g, 0, none⟩) n cp, .string s] w2 fun e w' => KidsPost w2 [] e w') := HK2; clear hb2 HF2 HK2)
        go_wp2_with (first | (go_at_call 193; refine HFF.out.mono ?_; rintro e w3 ⟨rfl, rfl⟩) | (go_at_call 195; refine HKK.out.mono ?_; rintro e w3 ⟨v3, rfl, hown3, hb3⟩; obtain ⟨ao3, c3, rfl⟩ := own_sh hown3; have HB3 : Hid (Below w.heap.size w w3) := HB2.out.trans (hb3.mono HB2.out.size); clear hb3 hown3))
        go_loopw [9, 10] (fun v iv wr => ∃ k : Nat, k ≤ n ∧ iv = .int .i64 (k : Int) ∧ Hid (wr.ownsRow w.heap.size 316 3 v (dropT (T.take k) l).length (itmsV (dropT (T.take k) l))) ∧ Hid (Below w.heap.size w wr)) (fun _ i _ => n - (intOf i).toNat)
        case atStart => exact ⟨0, by omega, rfl, World.ownsRow_nil _ _ _ _, HB3⟩
        case round =>
          clear HB3
          obtain ⟨k, hk, rfl, HO, HB⟩ := hrel
          by_cases hlt : k < n
          · have hkt : k < T.length := by rw [← HN.out]; exact hlt
            have hst := dropT_take HT.out.dis HLK.out hkt
            rw [← HM.out] at hst
            have hRl : (dropT (T.take k) l).length ≤ 256 := by
              unfold dropT
              refine Nat.le_trans (List.length_filter_le _ _) ?_
              rw [List.length_take]; omega
            obtain ⟨R, hR⟩ : ∃ R, R = dropT (T.take k) l := ⟨_, rfl⟩
            rw [← hR] at HO hst hRl
            by_cases hkm : k = m
            · have hb : ((k : Int) != (m : Int)) = false := by rw [bne_eq_false_iff_eq]; omega
              rw [if_pos hkm] at hst
              have HST : Hid (dropT (T.take (k + 1)) l = R) := hst
              clear hst hkm hR
              go_wp2
              go_roundw
              case rel => exact ⟨k + 1, by omega, by go_num, by rw [HST.out]; exact HO, HB⟩
              case measure => (simp [intOf]; try omega)
            · have hb : ((k : Int) != (m : Int)) = true := by rw [bne_iff_ne]; omega
              rw [if_neg hkm] at hst
              have HST : Hid (dropT (T.take (k + 1)) l = R ++ [T[k]]) := hst
              obtain ⟨c0, c1, c2⟩ := HC.out k hkt
              obtain ⟨y, hy⟩ : ∃ y, y = T[k] := ⟨_, rfl⟩
              rw [← hy] at HST c0 c1 c2
              have d0 : wr.cell? ⟨g, k * 3, none⟩ = some (.string (joinB y.names)) := by rw [HB.out.cell hgl]; exact c0
              have d1 : wr.cell? ⟨g, k * 3 + 1, none⟩ = some (.bool y.dir) := by rw [HB.out.cell hgl]; exact c1
              have d2 : wr.cell? ⟨g, k * 3 + 2, none⟩ = some (.string y.data) := by rw [HB.out.cell hgl]; exact c2
              clear hst hkm hR hy c0 c1 c2
              go_wp2_with (at_builtin; refine wpList_append_own_at _ rfl _ _ 212 rfl w.heap.size 316 i0 (.agg #[.string ⟨#[]⟩, .bool false, .string ⟨#[]⟩]) 3 40 Tryz.underlying212 hi0 hz0 hz1 hz2 rfl (by decide) _ _ _ rfl (World.ownsRow.alloc HO.out _) _ 1 1 [.string (joinB y.names), .bool y.dir, .string y.data] rfl rfl (cells_three _ _ _ _ _) (by intro u hu; simp at hu; rcases hu with rfl | rfl | rfl <;> rfl) (by unfold maxLen; omega) (by omega) (by have := HB.out.size; simp; omega) ?_)
              intro v' w4 hown' hgrow _ hat
              have HO2 := own_itm (x := y) hown'
              have HB4 : Hid (Below w.heap.size w w4) := (HB.out.alloc HB.out.size _).grown hgrow (by have := HB.out.size; simp; omega) (fun g hg => own_base_of HO.out g hg)
              clear hown' hgrow hat
              go_wp2
              go_roundw
              case rel => exact ⟨k + 1, by omega, by go_num, by rw [HST.out]; exact HO2, HB4⟩
              case measure => (simp [intOf]; try omega)
          · have hkn : k = n := by omega
            subst hkn
            rw [List.take_of_length_le (by rw [← HN.out]; exact Nat.le_refl _)] at HO
            go_wp2
            refine bodyPost_ret (results_tmp2 rfl _ _ _) rfl ?_
            rw [HZ.out.1, HZ.out.2]
            exact ⟨_, rfl, ⟨own_base HO.out (Nat.zero_le _), fun g hg => .inr (own_base_of HO.out g hg)⟩, below_sameT HB.out⟩
      · obtain ⟨e1, e2⟩ := k1 hk
        have HZ := hid_two HX.out.1 HX.out.2 e1 e2
        have hL0 : 0 < L.length := by rw [hpl]; exact List.length_pos_iff.2 hk
        clear k1 k2 e1 e2 hk hpl
        go_enter Tryz.func123, Tryz.ntmps123
        go_wp2_with (go_at_call 192; refine HSP.out.mono ?_; rintro e w2 ⟨rfl, hb2⟩; have HB2 : Hid (Below w.heap.size w w2) := hb2; have HF2 := HF.out w2 hb2; have HFF : Hid (Calls Tryz.prog 193 #[.slice at0 T.length cp, .string s] w2 fun e w' => e = .returned (.int .i64 (m : Int)) ∧ w2 = w') := HF2; have HK2 := HKD.out w2 hb2; have HKK : Hid (Calls Tryz.prog 195 #[.slice at0 T.length cp, .string s] w2 fun e w' => KidsPost w2 L e w') := HK2; clear hb2 HF2 HK2)
        go_wp2_with (first | (go_at_call 193; refine HFF.out.mono ?_; rintro e w3 ⟨rfl, rfl⟩) | (go_at_call 195; refine HKK.out.mono ?_; rintro e w3 ⟨v3, rfl, hown3, hb3⟩; obtain ⟨ao3, c3, rfl⟩ := own_sh hown3; have HB3 : Hid (Below w.heap.size w w3) := HB2.out.trans (hb3.mono HB2.out.size); clear hb3 hown3))
        refine bodyPost_ret (results_tmp2 rfl _ _ _) rfl ?_
        rw [HZ.out.1, HZ.out.2]
        exact TreePost.refused HH.out HB3.out
  · obtain ⟨e1, e2⟩ := remove_spot (T := T) (s := s) (by rw [← HSP0.out]; exact hs0)
    rw [← HSP0.out] at e1
    have HZ := hid_two HX.out.1 HX.out.2 e1 e2
    have hsn : ((sp : Int) != 0) = true := by rw [bne_iff_ne]; omega
    clear e1 e2
    go_enter Tryz.func123, Tryz.ntmps123
    go_wp2_with (go_at_call 192; refine HSP.out.mono ?_; rintro e w2 ⟨rfl, hb2⟩; have HB2 : Hid (Below w.heap.size w w2) := hb2; clear hb2)
    refine bodyPost_ret (results_tmp2 rfl _ _ _) rfl ?_
    rw [HZ.out.1, HZ.out.2]
    exact TreePost.refused HH.out HB2.out
end Go.Proofs.YtapijhhmjjplmaaGreatDoor
namespace Go.Proofs.YtapijhhmjjplmaaGreatDoor
open Go.RowKit
/-- What Read tells of the tree. -/
def getE (T : Tre) (l : List ByteArray) : Nat := if findE T [] l ≠ 0 then findE T [] l else match lookT T l with
  | some x => if x.dir then 7 else 0
  | none => 7
def getC (T : Tre) (s : ByteArray) : Nat := match pathOf s with
  | none => 5
  | some l => getE T l
def getD (T : Tre) (s : ByteArray) : ByteArray := if getC T s ≠ 0 then ⟨#[]⟩ else match pathOf s with
  | none => ⟨#[]⟩
  | some l => match lookT T l with
    | some x => x.data
    | none => ⟨#[]⟩
theorem get_none {T : Tre} {s : ByteArray} (h : pathOf s = none) : getC T s = 5 ∧ getD T s = ⟨#[]⟩ := by
  have e : getC T s = 5 := by unfold getC; rw [h]
  exact ⟨e, by unfold getD; rw [if_pos (by rw [e]; decide)]⟩
theorem get_bad {T : Tre} {s : ByteArray} {l : List ByteArray} (h : pathOf s = some l) (hz : findE T [] l ≠ 0) : getC T s = findE T [] l ∧ getD T s = ⟨#[]⟩ := by
  have e : getC T s = findE T [] l := by unfold getC; rw [h]; show getE T l = _; unfold getE; rw [if_pos hz]
  exact ⟨e, by unfold getD; rw [if_pos (by rw [e]; exact hz)]⟩
theorem get_root {T : Tre} {s : ByteArray} (hT : WFT T) (h : pathOf s = some []) : getC T s = 7 ∧ getD T s = ⟨#[]⟩ := by
  have e : getC T s = 7 := by
    unfold getC; rw [h]; show getE T [] = _; unfold getE
    rw [if_neg (by show ¬ (0 : Nat) ≠ 0; simp), look_root hT]
  exact ⟨e, by unfold getD; rw [if_pos (by rw [e]; decide)]⟩
theorem get_some {T : Tre} {s : ByteArray} {l : List ByteArray} {x : Itm} (h : pathOf s = some l) (hz : findE T [] l = 0) (hx : lookT T l = some x) : getC T s = (if x.dir then 7 else 0) ∧ getD T s = (if x.dir then ⟨#[]⟩ else x.data) := by
  have e : getC T s = (if x.dir then 7 else 0) := by unfold getC; rw [h]; show getE T l = _; unfold getE; rw [if_neg (by rw [hz]; simp), hx]
  refine ⟨e, ?_⟩
  unfold getD
  rw [e, h]
  show (if _ then _ else match lookT T l with | some x => x.data | none => ⟨#[]⟩) = _
  rw [hx]
  cases x.dir <;> rfl
set_option maxRecDepth 100000 in
set_option maxHeartbeats 4000000 in
theorem ref_get (ba : Nat) (S : Nat → Prop) (tv : Value) (T : Tre) (s : ByteArray) (w : World) (hA : w.cell? ⟨ba, 7, none⟩ = some tv) (h : TreeR w S tv T) (hT : WFT T) (hs : s.size ≤ 262144) :
    Calls Tryz.prog 129 #[.pointer (some ⟨ba, 0, none⟩), .int .i64 0, .string s] w fun e w' => e = .returned (.tuple #[.string (getD T s), .int .i64 (getC T s : Nat), .int .i64 (-1)]) ∧ Below w.heap.size w w' := by
  have hnot : ∀ (x : Bool) (w : World), (Op.unary .not (.bool x)).run Tryz.prog w = .ok (.bool (!x)) w := fun _ _ => rfl
  have HH : Hid (TreeR w S tv T) := h
  have HT : Hid (WFT T) := hT
  have HN : Hid (Calls Tryz.prog 191 #[.string s] w fun e w' => NamesPost w s e w') := ref_names s w hs
  have hAl := block_lt_of_cell hA
  obtain ⟨at0, cp, rfl⟩ := own_sh h.1
  have hTl := hT.len
  obtain ⟨cc, hcc⟩ : ∃ c, c = getC T s := ⟨_, rfl⟩
  obtain ⟨dd, hdd⟩ : ∃ c, c = getD T s := ⟨_, rfl⟩
  rw [← hcc, ← hdd]
  have HX : Hid (cc = getC T s ∧ dd = getD T s) := ⟨hcc, hdd⟩
  clear h hT hcc hdd
  go_enter Tryz.func129, Tryz.ntmps129
  go_wp2_with fail
  refine HN.out.mono ?_
  rintro e w1 ⟨v, b, rfl, hb1, ⟨l, hl, rfl, hown⟩ | ⟨hl, rfl⟩⟩
  · have HB1 : Hid (Below w.heap.size w w1) := hb1
    have hsa := StrsAt.of_own hown
    have hv := pathOf_valid hl
    have hA1 : w1.cell? ⟨ba, 7, none⟩ = some (.slice at0 T.length cp) := by rw [hb1.cell hAl]; exact hA
    have HFI : Hid (Calls Tryz.prog 200 #[.slice at0 T.length cp, v] w1 fun e w' => e = .returned (.tuple #[.int .i64 (findAt T l), .int .i64 (findE T [] l : Nat)]) ∧ w1 = w') := ref_Find S _ v T l w1 (HH.out.on hb1) HT.out hv.1 hv.2 hsa
    have HR1 : Hid (TreeR w1 S (.slice at0 T.length cp) T) := HH.out.on hb1
    have HL : Hid (pathOf s = some l) := hl
    clear hb1 hl hown hsa hv
    rcases findE_cases T l [] with hz | hz | hz
    · rw [hz] at HFI
      by_cases h0 : l = []
      · subst h0
        obtain ⟨e1, e2⟩ := get_root HT.out HL.out
        have HZ : Hid (cc = 7 ∧ dd = ⟨#[]⟩) := ⟨HX.out.1.trans e1, HX.out.2.trans e2⟩
        have ha : findAt T [] = -1 := rfl
        rw [ha] at HFI
        clear e1 e2 ha hz
        go_wp2_with (go_at_call 200; refine HFI.out.mono ?_; rintro e w2 ⟨rfl, rfl⟩)
        refine bodyPost_ret (results_tmp3 rfl _ _ _) rfl ?_
        rw [HZ.out.1, HZ.out.2]
        exact ⟨rfl, HB1.out⟩
      · have hs := findE_ok hz h0
        rw [List.nil_append] at hs
        obtain ⟨y, hy⟩ := Option.isSome_iff_exists.1 hs
        obtain ⟨hil, hiy⟩ := idx_some hy
        obtain ⟨gi, ci, hvi, -, -, hci, -⟩ := HR1.out.open (by omega)
        cases hvi
        obtain ⟨-, c1, c2⟩ := hci _ hil
        rw [hiy] at c1 c2
        have ha : findAt T l = (idxT T l : Int) := by unfold findAt; rw [hz, if_neg (by simp), if_neg h0]
        rw [ha] at HFI
        obtain ⟨e1, e2⟩ := get_some HL.out hz hy
        have HZ : Hid (cc = (if y.dir then 7 else 0) ∧ dd = (if y.dir then ⟨#[]⟩ else y.data)) := ⟨HX.out.1.trans e1, HX.out.2.trans e2⟩
        obtain ⟨m, hm⟩ : ∃ m, m = idxT T l := ⟨_, rfl⟩
        rw [← hm] at c1 c2 hil HFI
        clear e1 e2 ha hz hs hy hm hiy hci
        cases hd : y.dir
        · rw [hd] at HZ c1
          clear hd
          go_wp2_with (go_at_call 200; refine HFI.out.mono ?_; rintro e w2 ⟨rfl, rfl⟩)
          refine bodyPost_ret (results_tmp3 rfl _ _ _) rfl ?_
          rw [HZ.out.1, HZ.out.2]
          exact ⟨rfl, HB1.out⟩
        · rw [hd] at HZ c1
          clear hd
          go_wp2_with (go_at_call 200; refine HFI.out.mono ?_; rintro e w2 ⟨rfl, rfl⟩)
          refine bodyPost_ret (results_tmp3 rfl _ _ _) rfl ?_
          rw [HZ.out.1, HZ.out.2]
          exact ⟨rfl, HB1.out⟩
    all_goals
      obtain ⟨e1, e2⟩ := get_bad HL.out (by rw [hz]; decide)
      rw [hz] at HFI e1
      have HZ : Hid (cc = _ ∧ dd = ⟨#[]⟩) := ⟨HX.out.1.trans e1, HX.out.2.trans e2⟩
      obtain ⟨a, ha⟩ : ∃ a, a = findAt T l := ⟨_, rfl⟩
      rw [← ha] at HFI
      clear e1 e2 ha hz
      go_wp2_with (go_at_call 200; refine HFI.out.mono ?_; rintro e w2 ⟨rfl, rfl⟩)
      refine bodyPost_ret (results_tmp3 rfl _ _ _) rfl ?_
      rw [HZ.out.1, HZ.out.2]
      exact ⟨rfl, HB1.out⟩
  · have HB1 : Hid (Below w.heap.size w w1) := hb1
    obtain ⟨e1, e2⟩ := get_none (T := T) hl
    have HZ : Hid (cc = 5 ∧ dd = ⟨#[]⟩) := ⟨HX.out.1.trans e1, HX.out.2.trans e2⟩
    clear hb1 hl e1 e2
    go_wp2
    refine bodyPost_ret (results_tmp3 rfl _ _ _) rfl ?_
    rw [HZ.out.1, HZ.out.2]
    exact ⟨rfl, HB1.out⟩
end Go.Proofs.YtapijhhmjjplmaaGreatDoor
namespace Go.Proofs.YtapijhhmjjplmaaGreatDoor
open Go.RowKit Go.Maps
theorem rv_neq (p : Addr) : ∀ w, (binOp BinOp.neq 92 (rv p) .nilIface).run Tryz.prog w = .ok (.bool true) w := fun w => by kernel_rfl
/-- What the tree's calls need of the program's variables. -/
structure Vars (w : World) (a : Nat → Addr) (m : Int) : Prop where
  sent : Sent w a
  max : w.cell? ⟨15, 0, none⟩ = some (.int .i64 m)
theorem Vars.on {w w' : World} {a : Nat → Addr} {m : Int} (h : Vars w a m) (hb : Below w.heap.size w w') : Vars w' a m := ⟨h.sent.on hb, by rw [hb.cell (block_lt_of_cell h.max)]; exact h.max⟩
/-- What place leaves. -/
def PPlace (w : World) (a : Nat → Addr) (T : Tre) (nb : List ByteArray → Nat) (s : ByteArray) (e : Ending) (w' : World) : Prop := ∃ dv nm, e = .returned (.tuple #[dv, .string nm, errV a (codeP (spotE T) s)]) ∧ Below w.heap.size w w' ∧ ((codeP (spotE T) s ≠ 0 ∧ dv = .pointer none ∧ nm = ⟨#[]⟩) ∨ ∃ l, pathOf s = some l ∧ l ≠ [] ∧ spotE T l = 0 ∧ dv = ptrV (nb l.dropLast) ∧ nm = lastN l)
theorem PPlace.bad {w w' : World} {a : Nat → Addr} {T : Tre} {nb : List ByteArray → Nat} {s : ByteArray} {c : Nat} (hb : Below w.heap.size w w') (hc : codeP (spotE T) s = c) (h0 : c ≠ 0) : PPlace w a T nb s (.returned (.tuple #[.pointer none, .string ⟨#[]⟩, rv (a (c - 1))])) w' :=
  ⟨_, _, by rw [hc]; unfold errV; rw [if_neg h0], hb, .inl ⟨by rw [hc]; exact h0, rfl, rfl⟩⟩
theorem spot_node {T : Tre} {l : List ByteArray} (h : spotE T l = 0) : isNode T l.dropLast ∧ isF T l.dropLast = false ∧ findE T [] l.dropLast = 0 := by
  unfold spotE at h
  split at h
  · rename_i h1; exact absurd h h1
  · rename_i h1
    have h2 : findE T [] l.dropLast = 0 := Decidable.not_not.1 h1
    split at h
    · cases h
    · rename_i h3
      refine ⟨?_, by simpa using h3, h2⟩
      by_cases h0 : l.dropLast = []
      · exact .inl h0
      · have := findE_ok h2 h0
        exact .inr this
theorem NamesV.init {w : World} {g c : Nat} {l : List ByteArray} (h : NamesV w (.slice (some ⟨g, 0, none⟩) l.length c) l) (h0 : l ≠ []) (n : Nat) (hn : n + 1 = l.length) : StrsAt w (.slice (some ⟨g, 0, none⟩) n c) l.dropLast := h.at.init h0 n hn
set_option maxRecDepth 100000 in
set_option maxHeartbeats 2000000 in
theorem prog_place (ba : Nat) (S : Nat → Prop) (rb : Nat) (T : Tre) (nb mb : List ByteArray → Nat) (a : Nat → Addr) (m : Int) (s : ByteArray) (w : World) (h : TreeM w S rb T nb mb) (hT : WFT T) (hr : w.cell? ⟨ba, 1, none⟩ = some (ptrV rb)) (hV : Vars w a m) (hs : s.size ≤ 262144) :
    Calls Tryz.prog 153 #[.pointer (some ⟨ba, 1, none⟩), .string s] w fun e w' => PPlace w a T nb s e w' := by
  have hnot : ∀ (x : Bool) (w : World), (Op.unary .not (.bool x)).run Tryz.prog w = .ok (.bool (!x)) w := fun _ _ => rfl
  have HH : Hid (TreeM w S rb T nb mb) := h
  have HT : Hid (WFT T) := hT
  have HVV : Hid (Vars w a m) := hV
  have HR : Hid (w.cell? ⟨ba, 1, none⟩ = some (ptrV rb)) := hr
  have HN : Hid (Calls Tryz.prog 89 #[.string s] w fun e w' => PNames w a s e w') := prog_names s w a m hV.sent.v4 hV.max hs
  have HON : Hid (∀ w', Below w.heap.size w w' → Vars w' a m ∧ TreeM w' S rb T nb mb ∧ w'.cell? ⟨ba, 1, none⟩ = some (ptrV rb)) := fun w' hb => ⟨hV.on hb, h.on (U := fun _ => False) (below_sameT hb) (fun _ _ h => h), by rw [hb.cell (block_lt_of_cell hr)]; exact hr⟩
  clear h hT hV hr
  go_enter Tryz.func153, Tryz.ntmps153
  go_wp2_with fail
  refine HN.out.mono ?_
  rintro e w1 ⟨v, c, rfl, hb1, ⟨l, hl, rfl, hnv⟩ | ⟨hl, rfl⟩⟩
  · have HB1 : Hid (Below w.heap.size w w1) := hb1
    obtain ⟨hV1, hM1, hr1⟩ := HON.out w1 hb1
    have he0 : errV a 0 = .nilIface := rfl
    rw [he0]
    by_cases h0 : l = []
    · subst h0
      obtain ⟨ao, c, rfl⟩ : ∃ ao c, v = .slice ao 0 c := by
        rcases hnv with ⟨-, h⟩ | ⟨g, c, h, -⟩
        · exact h
        · exact ⟨_, _, h⟩
      have hE := hV1.sent.v4
      obtain ⟨ev, hev⟩ : ∃ ev, ev = rv (a 4) := ⟨_, rfl⟩
      rw [← hev] at hE
      have HEV : Hid (ev = rv (a 4)) := hev
      have HP : Hid (codeP (spotE T) s = 5) := codeP_nil hl
      clear hb1 hl hnv hV1 hM1 hr1 he0 hev
      go_wp2
      go_quiet (fail)
      go_wp2
      refine bodyPost_ret (results_tmp3 rfl _ _ _) rfl ?_
      rw [HEV.out]
      exact PPlace.bad (below_drewN' HB1.out _) HP.out (by decide)
    · obtain ⟨n, hn⟩ : ∃ n, n + 1 = l.length := ⟨l.length - 1, by have := List.length_pos_iff.2 h0; omega⟩
      obtain ⟨g, cc, rfl, hlc, hgl, hcl⟩ : ∃ g c, v = .slice (some ⟨g, 0, none⟩) l.length c ∧ l.length ≤ c ∧ g < w1.heap.size ∧ ∀ j (hj : j < l.length), w1.cell? ⟨g, j, none⟩ = some (.string l[j]) := by
        rcases hnv with ⟨h, -⟩ | h
        · exact absurd h h0
        · exact h
      have hv := pathOf_valid hl
      have hF := prog_find ba S rb T nb mb a (.slice (some ⟨g, 0, none⟩) n cc) l.dropLast w1 hM1 HT.out hv.1.dropLast (by rw [List.length_dropLast]; omega) (hnv.init h0 n hn) hr1 hV1.sent.v5 hV1.sent.v6
      have hsp : codeP (spotE T) s = spotE T l := codeP_some hl h0
      have hcn : w1.cell? ⟨g, n, none⟩ = some (.string (lastN l)) := by
        rw [hcl n (by omega)]
        unfold lastN
        rw [List.getLast?_eq_some_getLast h0, List.getLast_eq_getElem]
        simp [← hn]
      have hn8 : n ≤ 8 := by omega
      have hnc : n + 1 ≤ cc := by omega
      rw [← hn]
      have HL : Hid (pathOf s = some l ∧ l ≠ []) := ⟨hl, h0⟩
      obtain ⟨q, hq⟩ : ∃ q, q = l.dropLast := ⟨_, rfl⟩
      have HQ : Hid (q = l.dropLast) := hq
      rw [← hq] at hF
      have HSPE : Hid (codeP (spotE T) s = if findE T [] q ≠ 0 then findE T [] q else if isF T q then 7 else 0) := by
        show _ = _
        rw [hsp, hq]
        rfl
      have HFI : Hid (Calls Tryz.prog 225 #[.pointer (some ⟨ba, 1, none⟩), .slice (some ⟨g, 0, none⟩) n cc] w1 fun e w' => e = .returned (.tuple #[foundV T nb q, errV a (findE T [] q)]) ∧ Below w1.heap.size w1 w') := hF
      obtain ⟨nm, hnm⟩ : ∃ nm, nm = lastN l := ⟨_, rfl⟩
      rw [← hnm] at hcn
      have HNM : Hid (nm = lastN l) := hnm
      clear hF hsp hl h0 hnv hv hlc hcl hq hn hnm hV1 hM1 hr1 hb1 he0
      rcases findE_cases T q [] with hz | hz | hz
      · have hfv : foundV T nb q = .pointer (some ⟨nb q, 0, none⟩) := by unfold foundV; rw [if_pos hz]; rfl
        rw [hz, if_neg (by simp)] at HSPE
        rw [hz, hfv, show errV a 0 = .nilIface from rfl] at HFI
        have hnd : isNode T q := by
          by_cases h0 : q = []
          · exact .inl h0
          · have := findE_ok hz h0
            exact .inr this
        have HIS : Hid (∀ w2, Below w.heap.size w w2 → Calls Tryz.prog 226 #[.pointer (some ⟨nb q, 0, none⟩)] w2 fun e w' => e = .returned (.bool (!isF T q)) ∧ w2 = w') := fun w2 hb2 => (HON.out w2 hb2).2.1.isDir q hnd
        obtain ⟨bq, hbq⟩ : ∃ bq, bq = nb q := ⟨_, rfl⟩
        rw [← hbq] at HFI HIS
        have HBQ : Hid (bq = nb q) := hbq
        clear hfv hz hbq hnd
        cases hf : isF T q
        · rw [hf] at HIS HSPE
          have HFIN : Hid (spotE T l = 0) := by
            have := HSPE.out
            rw [codeP_some HL.out.1 HL.out.2] at this
            exact this
          clear hf
          go_wp2_with (go_at_call 225; refine HFI.out.mono ?_; rintro e w2 ⟨rfl, hb2⟩; have HB2 : Hid (Below w.heap.size w w2) := HB1.out.trans (hb2.mono HB1.out.size); have hi2 := HIS.out w2 HB2.out; have HI2 : Hid (Calls Tryz.prog 226 #[.pointer (some ⟨bq, 0, none⟩)] w2 fun e w' => e = .returned (.bool true) ∧ w2 = w') := hi2; have hc2 : w2.cell? ⟨g, n, none⟩ = some (.string nm) := (by rw [hb2.cell hgl]; exact hcn); clear hb2 hi2)
          go_wp2_with (go_at_call 226; refine HI2.out.mono ?_; rintro e w3 ⟨rfl, rfl⟩)
          go_quiet (fail)
          go_wp2
          refine bodyPost_ret (results_tmp3 rfl _ _ _) rfl ?_
          refine ⟨ptrV bq, nm, ?_, below_drewN' HB2.out _, .inr ⟨l, HL.out.1, HL.out.2, HFIN.out, ?_, HNM.out⟩⟩
          · rw [HSPE.out]; rfl
          · rw [← HQ.out, ← HBQ.out]
        · rw [hf] at HIS HSPE
          have HP : Hid (codeP (spotE T) s = 7) := HSPE.out
          clear hf HSPE
          go_wp2_with (go_at_call 225; refine HFI.out.mono ?_; rintro e w2 ⟨rfl, hb2⟩; have HB2 : Hid (Below w.heap.size w w2) := HB1.out.trans (hb2.mono HB1.out.size); have hi2 := HIS.out w2 HB2.out; have HI2 : Hid (Calls Tryz.prog 226 #[.pointer (some ⟨bq, 0, none⟩)] w2 fun e w' => e = .returned (.bool false) ∧ w2 = w') := hi2; clear hb2 hi2)
          have hE := (HON.out w2 HB2.out).1.sent.v6
          obtain ⟨ev, hev⟩ : ∃ ev, ev = rv (a 6) := ⟨_, rfl⟩
          rw [← hev] at hE
          have HEV : Hid (ev = rv (a 6)) := hev
          clear hev
          go_wp2_with (go_at_call 226; refine HI2.out.mono ?_; rintro e w3 ⟨rfl, rfl⟩)
          go_quiet (fail)
          go_wp2
          refine bodyPost_ret (results_tmp3 rfl _ _ _) rfl ?_
          rw [HEV.out]
          exact PPlace.bad (below_drewN' HB2.out _) HP.out (by decide)
      all_goals
        have hfv : foundV T nb q = .pointer none := by unfold foundV; rw [if_neg (by rw [hz]; decide)]
        rw [hz, if_pos (by decide)] at HSPE
        obtain ⟨ad, had⟩ : ∃ ad, ad = a (findE T [] q - 1) := ⟨_, rfl⟩
        have hev : errV a (findE T [] q) = rv ad := by rw [had, hz]; rfl
        rw [hfv, hev] at HFI
        rw [hz] at had
        have HEV : Hid (ad = a _) := had
        clear hfv hz hev had
        go_wp2_with (go_at_call 225; refine HFI.out.mono ?_; rintro e w2 ⟨rfl, hb2⟩; have HB2 : Hid (Below w.heap.size w w2) := HB1.out.trans (hb2.mono HB1.out.size); clear hb2)
        refine bodyPost_ret (results_tmp3 rfl _ _ _) rfl ?_
        rw [HEV.out]
        exact PPlace.bad HB2.out HSPE.out (by decide)
  · have HB1 : Hid (Below w.heap.size w w1) := hb1
    have HP : Hid (codeP (spotE T) s = 5) := codeP_none hl
    obtain ⟨ad, had⟩ : ∃ ad, ad = a 4 := ⟨_, rfl⟩
    have hev : errV a 5 = rv ad := by rw [had]; rfl
    rw [hev]
    have HEV : Hid (ad = a 4) := had
    clear hb1 hl hev had
    go_wp2
    refine bodyPost_ret (results_tmp3 rfl _ _ _) rfl ?_
    rw [HEV.out]
    exact PPlace.bad HB1.out HP.out (by decide)
end Go.Proofs.YtapijhhmjjplmaaGreatDoor
