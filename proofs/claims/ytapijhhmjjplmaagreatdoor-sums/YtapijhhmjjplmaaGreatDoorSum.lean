/- OWN TEXT: the program's SHA-256. -/
import Derived.Test.YtapijhhmjjplmaaGreatDoorInBytes
import Derived.Test.YtapijhhmjjplmaaGreatDoorPad
import Derived.Test.YtapijhhmjjplmaaGreatDoorBytes
namespace Go.Proofs.YtapijhhmjjplmaaGreatDoor
open Go.RowKit

theorem bcells_bv (l : List UInt8) : bcells l = (l.map UInt8.toNat).map fun x : Nat => Value.int .u8 (x : Int) := by simp [bcells]
/-- What of a text is copied from place a on into a block of 64. -/
theorem cs_of (s : ByteArray) (a n : Nat) : (((bytesN s).drop a).take n).map (fun x : Nat => Value.int .u8 (x : Int)) = bcells ((s.extract a s.size).data.toList.take n) := by
  rw [bcells_bv]
  congr 1
  have e : List.take (s.size - a) (List.drop a s.data.toList) = List.drop a s.data.toList := List.take_of_length_le (by rw [List.length_drop, Array.length_toList]; exact Nat.le_refl _)
  rw [ByteArray.data_extract, Array.toList_extract, List.extract_eq_take_drop, e, List.map_take, List.map_drop]
  rfl

/-- mix at arrays that lie in memory, and what the walk wants of its answer. -/
theorem mix_at (st q ks : List Nat) (ST R : Array Value) (w1 : World) (hST : ST = u32s st) (hR : R = u8s q) (hl : st.length = 8) (hw : ∀ d ∈ st, d < w32) (hql : q.length = 64) (hqb : ∀ d ∈ q, d < 256) (hkw : ∀ d ∈ ks, d < w32)
    (hK : ∀ i, i < 64 → w1.cell? ⟨14, i, none⟩ = some (.int .u32 (ks.getD i 0 : Int))) :
    Calls Tryz.prog 182 #[.agg ST, .agg R] w1 fun e w2 => ∃ S2 : Array Value, e = .returned (.agg S2) ∧ Hid (S2 = u32s (mixN ks st q)) ∧ Hid ((Tryz.prog.info? 302).map (·.size) = some S2.size) ∧ Hid (ST.size = S2.size) ∧ Hid (S2.all (·.oneCell') = true) ∧ Hid (Below w1.heap.size w1 w2) := by
  rw [hST, hR]
  refine (mix_any st q ks hl hw hql hqb hkw w1 hK).mono ?_
  rintro e w2 ⟨rfl, hb⟩
  have hs : (u32s (mixN ks st q)).size = 8 := by simp [u32s, mixN_length]
  have hs' : (u32s st).size = 8 := by simp [u32s, hl]
  refine ⟨_, rfl, rfl, ?_, ?_, u32s_one _, hb⟩
  · show _ = _
    rw [hs]
    kernel_rfl
  · show _ = _
    rw [hs, hs']

theorem inBytes_at (st : List Nat) (S : Array Value) (w1 : World) (hS : S = u32s st) (hl : st.length = 8) (hw : ∀ d ∈ st, d < w32) :
    Calls Tryz.prog 183 #[.agg S] w1 fun e w2 => ∃ A : Array Value, e = .returned (.agg A) ∧ Hid (A = u8s (outK st 32)) ∧ Hid ((Tryz.prog.info? 131).map (·.size) = some A.size) ∧ Hid ((u8s zeros32).size = A.size) ∧ Hid (A.all (·.oneCell') = true) ∧ Hid (Below w1.heap.size w1 w2) := by
  rw [hS]
  refine (inBytes_any st hl hw w1).mono ?_
  rintro e w2 ⟨rfl, hb⟩
  have hs : (u8s (outK st 32)).size = 32 := by simp [u8s, outK_length]
  refine ⟨_, rfl, rfl, ?_, ?_, u8s_one _, hb⟩
  · show _ = _
    rw [hs]
    kernel_rfl
  · show _ = _
    rw [hs]
    rfl
theorem lens_all (b : List Nat) (N : Nat) (hb : b.length = 64) (hN : N < 16777216) :
    (((((((b.set 63 (N % 256)).set 62 (N / 256 % 256)).set 61 (N / 65536)).set 60 (N / 16777216)).set 59 (N / 4294967296)).set 58 (N / 1099511627776)).set 57 (N / 281474976710656)).set 56 (N / 72057594037927936) = lensIn b N 8 := by
  have h0 := lensIn_set b N 0 hb (by omega)
  have h1 := lensIn_set b N 1 hb (by omega)
  have h2 := lensIn_set b N 2 hb (by omega)
  have h3 := lensIn_set b N 3 hb (by omega)
  have h4 := lensIn_set b N 4 hb (by omega)
  have h5 := lensIn_set b N 5 hb (by omega)
  have h6 := lensIn_set b N 6 hb (by omega)
  have h7 := lensIn_set b N 7 hb (by omega)
  simp only [Nat.reduceMul, Nat.reducePow, Nat.reduceSub, Nat.reduceAdd, Nat.div_one] at h0 h1 h2 h3 h4 h5 h6 h7
  rw [lensIn_zero b N hb] at h0
  have e2 : N / 65536 % 256 = N / 65536 := by omega
  have e3 : N / 16777216 % 256 = N / 16777216 := by omega
  have e4 : N / 4294967296 % 256 = N / 4294967296 := by omega
  have e5 : N / 1099511627776 % 256 = N / 1099511627776 := by omega
  have e6 : N / 281474976710656 % 256 = N / 281474976710656 := by omega
  have e7 : N / 72057594037927936 % 256 = N / 72057594037927936 := by omega
  rw [e2] at h2
  rw [e3] at h3
  rw [e4] at h4
  rw [e5] at h5
  rw [e6] at h6
  rw [e7] at h7
  rw [h0, h1, h2, h3, h4, h5, h6, h7]

set_option maxRecDepth 100000 in
set_option maxHeartbeats 2000000 in
theorem sha_any (s : ByteArray) (ks hs : List Nat) (tg : TypeId) (fr : Nat × Nat) (w : World) (hsz : s.size ≤ 300000) (hhl : hs.length = 8) (hhw : ∀ d ∈ hs, d < w32) (hkw : ∀ d ∈ ks, d < w32)
    (hS : w.heap[13]? = some (.cells (u32s hs) tg fr))
    (hK : ∀ i, i < 64 → w.cell? ⟨14, i, none⟩ = some (.int .u32 (ks.getD i 0 : Int))) :
    Calls Tryz.prog 107 #[.string s] w fun e w' =>
      e = .returned (.agg (u8s (outK (mixTo ks hs (padN (bytesN s)) ((padN (bytesN s)).length / 64)) 32))) ∧ Below w.heap.size w w' := by
  have hsi : (s.size : Int) ≤ 300000 := by omega
  obtain ⟨l, hl⟩ : ∃ l, l = bytesN s := ⟨_, rfl⟩
  have hll : l.length = s.size := by rw [hl]; exact bytesN_length s
  rw [← hl]
  obtain ⟨H0, hH0⟩ : ∃ c, c = u32s hs := ⟨_, rfl⟩
  rw [← hH0] at hS
  have hHs : H0.size = 8 := by rw [hH0]; simp [u32s, hhl]
  have HIA : Hid ((Tryz.prog.info? 302).map (·.size) = some H0.size) := by show _ = _; rw [hHs]; kernel_rfl
  have HOA : Hid (H0.all (·.oneCell') = true) := by show _ = _; rw [hH0]; exact u32s_one _
  have HS : Hid (w.heap[13]? = some (.cells H0 tg fr)) := hS
  have hG : 13 < w.heap.size := (Array.getElem?_eq_some_iff.1 hS).1
  have HS1 : Hid (∀ Z, (w.alloc Z).heap[13]? = some (.cells H0 tg fr)) := fun Z => by
    rw [Below.heap_alloc _ _ _ (by omega)]
    exact HS.out
  have HS2 : Hid (∀ Z Y, ((w.alloc Z).alloc Y).heap[w.heap.size + 1]? = some Y) := fun Z Y => heap_alloc2_new w Z Y
  have HSZ : Hid (∀ Z : Array Value, Z.size = 8 → Z.size = H0.size) := fun Z h => h.trans hHs.symm
  have HH0 : Hid (H0 = u32s hs) := hH0
  have HL : Hid (l = bytesN s) := hl
  have HLL : Hid (l.length = s.size) := hll
  have HK : Hid (∀ i, i < 64 → w.cell? ⟨14, i, none⟩ = some (.int .u32 (ks.getD i 0 : Int))) := hK
  have HHL : Hid (hs.length = 8) := hhl
  have HHW : Hid (∀ d ∈ hs, d < w32) := hhw
  have HKW : Hid (∀ d ∈ ks, d < w32) := hkw
  clear hHs hS hH0 hl hll hK hhl hhw hkw
  go_enter Tryz.func107, Tryz.ntmps107
  go_wp2_with (first | refine wpList_load_row rfl 302 _ rfl 13 rfl tg H0 fr _ (HS1.out _) Tryz.underlying302 rfl HIA.out ?_ | refine wpList_store_row rfl 302 _ _ rfl (w.heap.size + 1) H0 rfl rfl 302 _ (HS2.out _ _) HIA.out (HSZ.out _ rfl) HOA.out ?_)
  go_loopw [15] (fun iv_ wr => ∃ i : Nat, i ≤ s.size / 64 ∧ iv_ = .int .i64 (i : Int) ∧ Hid (BRow wr w.heap.size 131 zeros32) ∧ Hid (URow wr (w.heap.size + 1) 302 (mixTo ks hs (padN l) i)) ∧ Hid (∃ p, p.length = 64 ∧ BRow wr (w.heap.size + 1 + 1) 192 p) ∧ Hid (Below w.heap.size w wr)) (fun iv_ _ => s.size / 64 - (intOf iv_).toNat)
  case atStart =>
    refine ⟨0, by omega, rfl, ?_, ?_, ?_, ?_⟩
    · show BRow _ _ _ _
      unfold BRow
      rw [Below.heap_alloc _ _ _ (by simp; omega), setRow_other _ _ _ _ (by omega)]
      exact heap_alloc2_old w _ _
    · show URow _ _ _ _
      unfold URow
      rw [Below.heap_alloc _ _ _ (by simp)]
      have e : mixTo ks hs (padN l) 0 = hs := rfl
      rw [e, ← HH0.out]
      exact setRow_heap _ _ _ _ _ _ (HS2.out _ _)
    · refine ⟨zeros64, rfl, ?_⟩
      have h := fun Y Z => heap_alloc_new (((w.alloc Y).alloc Z).setRow (w.heap.size + 1) H0) (.cells (u8s zeros64) 192)
      have e : ∀ Y Z, (((w.alloc Y).alloc Z).setRow (w.heap.size + 1) H0).heap.size = w.heap.size + 1 + 1 := fun Y Z => by simp
      simp only [e] at h
      exact h _ _
    · exact (below_setRow (((Below.refl _ _).alloc (Nat.le_refl _) _).alloc (by simp) _) (by omega) _).alloc (by simp; omega) _
  case round =>
    obtain ⟨i, hi, rfl, HR, HU, HP, HB⟩ := hrel
    have hw3 : w.heap.size + 1 + 1 < wr.heap.size := by obtain ⟨p, _, hp⟩ := HP.out; exact hp.lt
    by_cases hlt : i < s.size / 64
    · obtain ⟨p, hp64, hprow⟩ := HP.out
      obtain ⟨PA, hPA⟩ : ∃ c, c = u8s p := ⟨_, rfl⟩
      obtain ⟨q, hq⟩ : ∃ q, q = (l.drop (64 * i)).take 64 := ⟨_, rfl⟩
      have hq64 : q.length = 64 := by rw [hq, List.length_take, List.length_drop, HLL.out]; omega
      obtain ⟨CS, hCS⟩ : ∃ c, c = q.map fun x : Nat => Value.int .u8 (x : Int) := ⟨_, rfl⟩
      obtain ⟨R, hR⟩ : ∃ R, R = u8s q := ⟨_, rfl⟩
      have HPA : Hid (wr.heap[w.heap.size + 1 + 1]? = some (.cells PA 192 (0, 0))) := by rw [hPA]; exact hprow
      have HCS : Hid (CS = bcells ((s.extract (64 * i) s.size).data.toList.take 64)) := by
        show _ = _
        rw [hCS, hq, HL.out]
        exact cs_of s (64 * i) 64
      have hpas : PA.toList.length = 64 := by rw [hPA]; simp [u8s, hp64]
      have hcsl : CS.length = 64 := by rw [hCS]; simp [hq64]
      have HFIT : Hid (0 + CS.length ≤ PA.size) := by show _ ≤ _; rw [hcsl, ← Array.length_toList, hpas]; omega
      have HRR : Hid ((PA.toList.take 0 ++ CS ++ PA.toList.drop (0 + CS.length)).toArray = R) := by
        show _ = _
        rw [hcsl, List.take_zero, List.nil_append, List.drop_eq_nil_of_le (by omega), List.append_nil, hR, hCS]
        rfl
      have HNN : Hid ((CS.length : Int) = 64) := by show _ = _; rw [hcsl]; rfl
      have HIU : Hid ((Tryz.prog.info? 5).map (·.size) = some 1) := by show _ = _; kernel_rfl
      have HRE : Hid (R = u8s q) := hR
      have HQ : Hid (q = (l.drop (64 * i)).take 64) := hq
      have HQ64 : Hid (q.length = 64) := hq64
      clear hprow hp64 hPA hq hCS hR hpas hcsl hq64 HP
      obtain ⟨a, ha⟩ : ∃ a, a = 64 * i := ⟨_, rfl⟩
      rw [← ha] at HCS
      have hmul : IntKind.i64.wrap ((i : Int) * 64) = (a : Int) := by rw [ha]; simp [IntKind.wrap, IntKind.bits, IntKind.signed]; omega
      have hmul2 : wrap64 ((i : Int) * 64) = (a : Int) := by rw [ha, Go.IntWalk.wrap64_in _ (by omega)]; omega
      have hale : a ≤ s.size := by omega
      have halei : (a : Int) ≤ (s.size : Int) := by omega
      have HA : Hid (a = 64 * i) := ha
      clear ha
      go_wp2
      go_region_law (refine step_copy_str rfl (.tmp 18) (.tmp 22) 134 9 rfl 5 Tryz.underlying134 HIU.out (w.heap.size + 1 + 1) 0 64 64 (s.extract a s.size) (by simp [Act.eval, Act.put]) (by simp [Act.eval, Act.put]) PA 192 HPA.out CS HCS.out HFIT.out R HRR.out 64 HNN.out ?_)
      obtain ⟨w1, hw1⟩ : ∃ w1, w1 = wr.drew.setRow (w.heap.size + 1 + 1) R := ⟨_, rfl⟩
      rw [← hw1]
      obtain ⟨st, hst⟩ : ∃ st, st = mixTo ks hs (padN l) i := ⟨_, rfl⟩
      obtain ⟨ST, hST⟩ : ∃ ST, ST = u32s st := ⟨_, rfl⟩
      have hstl : st.length = 8 := by rw [hst]; exact mixTo_length _ _ _ HHL.out i
      have hstw : ∀ d ∈ st, d < w32 := by rw [hst]; exact mixTo_lt _ _ _ HHW.out i
      have HU1 : Hid (w1.heap[w.heap.size + 1]? = some (.cells ST 302 (0, 0))) := by
        show _ = _
        rw [hw1, setRow_other _ _ _ _ (by omega), hST, hst]
        exact HU.out
      have HR1 : Hid (w1.heap[w.heap.size + 1 + 1]? = some (.cells R 192 (0, 0))) := by
        show _ = _
        rw [hw1]
        exact setRow_heap _ _ _ _ _ _ HPA.out
      have HZ1 : Hid (BRow w1 w.heap.size 131 zeros32) := by
        show BRow _ _ _ _
        unfold BRow
        rw [hw1, setRow_other _ _ _ _ (by omega)]
        exact HR.out
      have HB1 : Hid (Below w.heap.size w w1) := by rw [hw1]; exact below_setRow HB.out.drew (by omega) _
      have hs1 : w.heap.size + 1 + 1 < w1.heap.size := BRow.lt (l := q) (t := 192) (by have h := HR1.out; rw [HRE.out] at h; exact h)
      have HI8 : Hid ((Tryz.prog.info? 302).map (·.size) = some ST.size) := by
        show _ = _
        rw [hST]
        simp only [u32s, List.size_toArray, List.length_map, hstl]
        kernel_rfl
      have HI64 : Hid ((Tryz.prog.info? 192).map (·.size) = some R.size) := by
        show _ = _
        rw [HRE.out]
        simp only [u8s, List.size_toArray, List.length_map, HQ64.out]
        kernel_rfl
      have HM : Hid (Calls Tryz.prog 182 #[.agg ST, .agg R] w1 fun e w2 => ∃ S2 : Array Value, e = .returned (.agg S2) ∧ Hid (S2 = u32s (mixN ks st q)) ∧ Hid ((Tryz.prog.info? 302).map (·.size) = some S2.size) ∧ Hid (ST.size = S2.size) ∧ Hid (S2.all (·.oneCell') = true) ∧ Hid (Below w1.heap.size w1 w2)) :=
        mix_at st q ks ST R w1 hST HRE.out hstl hstw HQ64.out (by rw [HQ.out, HL.out]; exact fun d hd => bytesN_lt s d (List.mem_of_mem_drop (List.mem_of_mem_take hd))) HKW.out (fun j hj => by rw [HB1.out.cell (by show 14 < _; exact block_lt_of_cell (HK.out 0 (by omega)))]; exact HK.out j hj)
      have HST : Hid (st = mixTo ks hs (padN l) i) := hst
      have HBL : Hid (blk (padN l) i = q) := by
        show _ = _
        rw [padN_blk l i (by rw [HLL.out]; exact hlt), HQ.out]
      clear hw1 hST hst hstl hstw HR HU HPA HB HCS HFIT HRR HNN
      go_wp2_with (first | refine wpList_load_row rfl 302 _ rfl (w.heap.size + 1) rfl 302 ST (0, 0) _ HU1.out Tryz.underlying302 rfl HI8.out ?_ | refine wpList_load_row rfl 192 _ rfl (w.heap.size + 1 + 1) rfl 192 R (0, 0) _ HR1.out Tryz.underlying192 rfl HI64.out ?_)
      refine HM.out.mono ?_
      rintro e w2 ⟨S2, rfl, HS2', HI2, HZ2, HO2, HB2⟩
      have HU2 : Hid (w2.heap[w.heap.size + 1]? = some (.cells ST 302 (0, 0))) := by
        show _ = _
        rw [HB2.out.block _ (by omega)]
        exact HU1.out
      go_wp2_with (refine wpList_store_row rfl 302 _ _ rfl (w.heap.size + 1) S2 rfl rfl 302 ST HU2.out HI2.out HZ2.out HO2.out ?_)
      go_roundw
      case rel =>
        refine ⟨i + 1, by omega, by go_num, ?_, ?_, ?_, ?_⟩
        · show BRow _ _ _ _
          unfold BRow
          rw [setRow_other _ _ _ _ (by omega), HB2.out.block _ (by omega)]
          exact HZ1.out
        · show URow _ _ _ _
          have h1 := setRow_heap _ _ _ S2 _ _ HU2.out
          unfold URow
          have e : mixTo ks hs (padN l) (i + 1) = mixN ks st q := by
            show mixN ks (mixTo ks hs (padN l) i) (blk (padN l) i) = _
            rw [HBL.out, HST.out]
          rw [e, ← HS2'.out]
          exact h1
        · refine ⟨q, HQ64.out, ?_⟩
          unfold BRow
          rw [setRow_other _ _ _ _ (by omega), HB2.out.block _ hs1, ← HRE.out]
          exact HR1.out
        · exact below_setRow (HB1.out.trans (HB2.out.mono HB1.out.size)) (by omega) _
      case measure => (simp [intOf]; try omega)
    · have hiw : i = s.size / 64 := by omega
      obtain ⟨i1, hi1⟩ : ∃ i1, i1 = i := ⟨_, rfl⟩
      subst hi1
      obtain ⟨p, hp64, hprow⟩ := HP.out
      obtain ⟨PA, hPA⟩ : ∃ c, c = u8s p := ⟨_, rfl⟩
      obtain ⟨Z, hZ⟩ : ∃ c, c = u8s zeros64 := ⟨_, rfl⟩
      obtain ⟨n, hn⟩ : ∃ n, n = s.size % 64 := ⟨_, rfl⟩
      obtain ⟨a, ha⟩ : ∃ a, a = 64 * (s.size / 64) := ⟨_, rfl⟩
      have hn64 : n < 64 := by omega
      obtain ⟨q, hq⟩ : ∃ q, q = l.drop a ++ List.replicate (64 - n) 0 := ⟨_, rfl⟩
      have hdl : (l.drop a).length = n := by rw [List.length_drop, HLL.out]; omega
      have hq64 : q.length = 64 := by rw [hq, List.length_append, hdl, List.length_replicate]; omega
      obtain ⟨CS, hCS⟩ : ∃ c, c = (l.drop a).map fun x : Nat => Value.int .u8 (x : Int) := ⟨_, rfl⟩
      obtain ⟨R, hR⟩ : ∃ R, R = u8s q := ⟨_, rfl⟩
      have HPA : Hid (wr.heap[w.heap.size + 1 + 1]? = some (.cells PA 192 (0, 0))) := by rw [hPA]; exact hprow
      have HPS : Hid (PA.size = 64) := by rw [hPA]; show _ = _; simp [u8s, hp64]
      have HZR : Hid ((List.replicate 64 (Value.int .u8 0)).toArray = Z) := by rw [hZ]; exact (show _ = _ by unfold u8s zeros64; rw [List.map_replicate]; rfl)
      have HZZ : Hid (∀ w, (zeroValue 5).run Tryz.prog w = .ok (.int .u8 0) w) := fun _ => by kernel_rfl
      have HZC : Hid ((wr.setRow (w.heap.size + 1 + 1) Z).heap[w.heap.size + 1 + 1]? = some (.cells Z 192 (0, 0))) := setRow_heap _ _ _ _ _ _ HPA.out
      have HCS : Hid (CS = bcells ((s.extract a s.size).data.toList.take 64)) := by
        show _ = _
        rw [← cs_of s a 64, ← HL.out, List.take_of_length_le (by omega)]
        exact hCS
      have hcsl : CS.length = n := by rw [hCS, List.length_map]; exact hdl
      have hZs : Z.toList = List.replicate 64 (Value.int .u8 0) := by rw [← HZR.out]
      have HFIT : Hid (0 + CS.length ≤ Z.size) := by show _ ≤ _; rw [hcsl, ← Array.length_toList, hZs, List.length_replicate]; omega
      have HRR : Hid ((Z.toList.take 0 ++ CS ++ Z.toList.drop (0 + CS.length)).toArray = R) := by
        show _ = _
        rw [hcsl, List.take_zero, List.nil_append, hZs, List.drop_replicate, hR, hCS, hq, Nat.zero_add]
        unfold u8s
        rw [List.map_append, List.map_replicate]
        rfl
      have HNN : Hid ((CS.length : Int) = (n : Int)) := by show _ = _; rw [hcsl]
      have HIU : Hid ((Tryz.prog.info? 5).map (·.size) = some 1) := by show _ = _; kernel_rfl
      have HRE : Hid (R = u8s q) := hR
      have HQ : Hid (q.set n 128 = tailB l) := by
        show _ = _
        have e : 64 - n = (63 - n) + 1 := by omega
        rw [hq, List.set_append_right _ _ (by omega), hdl, Nat.sub_self, e, List.replicate_succ, List.set_cons_zero]
        unfold tailB
        rw [HLL.out, ← ha, ← hn, List.append_assoc]
        rfl
      have hmul : IntKind.i64.wrap ((s.size : Int) / 64 * 64) = (a : Int) := by rw [ha]; simp [IntKind.wrap, IntKind.bits, IntKind.signed]; omega
      have hale : a ≤ s.size := by omega
      have halei : (a : Int) ≤ (s.size : Int) := by omega
      have HN : Hid (n = s.size % 64) := hn
      have HQ64 : Hid (q.length = 64) := hq64
      clear hprow hp64 hPA hZ hq hCS hR hcsl hZs hdl hq64 HP ha hn
      go_wp2_with (refine wpList_clear_row rfl (.tmp 28) 134 rfl 5 Tryz.underlying134 (.int .u8 0) HZZ.out rfl rfl (w.heap.size + 1 + 1) 64 64 (by omega) rfl PA 192 HPA.out HPS.out Z HZR.out ?_)
      go_region_law (refine step_copy_str rfl (.tmp 29) (.tmp 33) 134 9 rfl 5 Tryz.underlying134 HIU.out (w.heap.size + 1 + 1) 0 64 64 (s.extract a s.size) (by simp [Act.eval, Act.put]) (by simp [Act.eval, Act.put]) Z 192 HZC.out CS HCS.out HFIT.out R HRR.out (n : Int) HNN.out ?_)
      obtain ⟨w1, hw1⟩ : ∃ w1, w1 = (wr.setRow (w.heap.size + 1 + 1) Z).drew.setRow (w.heap.size + 1 + 1) R := ⟨_, rfl⟩
      rw [← hw1]
      obtain ⟨st, hst⟩ : ∃ st, st = mixTo ks hs (padN l) (s.size / 64) := ⟨_, rfl⟩
      have hstl : st.length = 8 := by rw [hst]; exact mixTo_length _ _ _ HHL.out _
      have hstw : ∀ d ∈ st, d < w32 := by rw [hst]; exact mixTo_lt _ _ _ HHW.out _
      have HU1 : Hid (URow w1 (w.heap.size + 1) 302 st) := by
        show _ = _
        rw [hw1, setRow_other _ _ _ _ (by omega)]
        show (wr.setRow _ _).heap[_]? = _
        rw [setRow_other _ _ _ _ (by omega), hst, ← hiw]
        exact HU.out
      have HR1 : Hid (BRow w1 (w.heap.size + 1 + 1) 192 q) := by
        show _ = _
        rw [hw1, ← HRE.out]
        exact setRow_heap _ _ _ _ _ _ HZC.out
      have HZ1 : Hid (BRow w1 w.heap.size 131 zeros32) := by
        show _ = _
        rw [hw1, setRow_other _ _ _ _ (by omega)]
        show (wr.setRow _ _).heap[_]? = _
        rw [setRow_other _ _ _ _ (by omega)]
        exact HR.out
      have HB1 : Hid (Below w.heap.size w w1) := by rw [hw1]; exact below_setRow (below_setRow HB.out (by omega) _).drew (by omega) _
      obtain ⟨z, cz⟩ : ∃ z : Int, w1.cell? ⟨w.heap.size + 1 + 1, n, none⟩ = some (.int .u8 z) := ⟨_, HR1.out.cell n (by rw [HQ64.out]; exact hn64)⟩
      have fz := HR1.out.frozen n
      have HR2 : Hid (BRow (w1.setCell ⟨w.heap.size + 1 + 1, n, none⟩ (.int .u8 128)) (w.heap.size + 1 + 1) 192 (tailB l)) := by
        have h := HR1.out.set n 128
        rw [HQ.out] at h
        exact h
      have HU2 : Hid (URow (w1.setCell ⟨w.heap.size + 1 + 1, n, none⟩ (.int .u8 128)) (w.heap.size + 1) 302 st) := HU1.out.other _ (by show w.heap.size + 1 ≠ w.heap.size + 1 + 1; omega) _
      have HZ2 : Hid (BRow (w1.setCell ⟨w.heap.size + 1 + 1, n, none⟩ (.int .u8 128)) w.heap.size 131 zeros32) := HZ1.out.other _ (by show w.heap.size ≠ w.heap.size + 1 + 1; omega) _
      have HB2 : Hid (Below w.heap.size w (w1.setCell ⟨w.heap.size + 1 + 1, n, none⟩ (.int .u8 128))) := HB1.out.setCell (by show w.heap.size ≤ w.heap.size + 1 + 1; omega) _
      have HSTL : Hid (st.length = 8) := hstl
      have HSTW : Hid (∀ d ∈ st, d < w32) := hstw
      have HST : Hid (st = mixTo ks hs (padN l) (l.length / 64)) := by rw [HLL.out]; exact hst
      clear hw1 hst hstl hstw HR HU HB HPA HPS HZC HCS HFIT HRR HNN HU1 HR1 HZ1 HB1 hiw
      by_cases h56 : 56 ≤ n
      obtain ⟨w2, hw2⟩ : ∃ w2, w2 = w1.setCell ⟨w.heap.size + 1 + 1, n, none⟩ (.int .u8 128) := ⟨_, rfl⟩
      obtain ⟨ST, hST⟩ : ∃ ST, ST = u32s st := ⟨_, rfl⟩
      obtain ⟨T, hT⟩ : ∃ T, T = u8s (tailB l) := ⟨_, rfl⟩
      rw [← hw2] at HR2 HU2 HZ2 HB2
      have HU3 : Hid ((w1.setCell ⟨w.heap.size + 1 + 1, n, none⟩ (.int .u8 128)).heap[w.heap.size + 1]? = some (.cells ST 302 (0, 0))) := by rw [← hw2, hST]; exact HU2
      have HR3 : Hid ((w1.setCell ⟨w.heap.size + 1 + 1, n, none⟩ (.int .u8 128)).heap[w.heap.size + 1 + 1]? = some (.cells T 192 (0, 0))) := by rw [← hw2, hT]; exact HR2
      have hs2 : w.heap.size + 1 + 1 < w2.heap.size := HR2.out.lt
      have HI8 : Hid ((Tryz.prog.info? 302).map (·.size) = some ST.size) := by
        show _ = _
        rw [hST]
        simp only [u32s, List.size_toArray, List.length_map, HSTL.out]
        kernel_rfl
      have HTS : Hid (T.size = 64) := by
        show _ = _
        rw [hT]
        simp only [u8s, List.size_toArray, List.length_map, tailB_length]
      have HI64 : Hid ((Tryz.prog.info? 192).map (·.size) = some T.size) := by
        show _ = _
        rw [HTS.out]
        kernel_rfl
      have HM : Hid (Calls Tryz.prog 182 #[.agg ST, .agg T] (w1.setCell ⟨w.heap.size + 1 + 1, n, none⟩ (.int .u8 128)) fun e w3 => ∃ S2 : Array Value, e = .returned (.agg S2) ∧ Hid (S2 = u32s (mixN ks st (tailB l))) ∧ Hid ((Tryz.prog.info? 302).map (·.size) = some S2.size) ∧ Hid (ST.size = S2.size) ∧ Hid (S2.all (·.oneCell') = true) ∧ Hid (Below w2.heap.size w2 w3)) := by
        rw [← hw2]
        exact mix_at st (tailB l) ks ST T w2 hST hT HSTL.out HSTW.out (tailB_length l) (tailB_lt l (by rw [HL.out]; exact bytesN_lt s)) HKW.out (fun j hj => by rw [HB2.out.cell (by show 14 < _; exact block_lt_of_cell (HK.out 0 (by omega)))]; exact HK.out j hj)
      have HST3 : Hid (w2.heap[w.heap.size + 1]? = some (.cells ST 302 (0, 0))) := by rw [hw2]; exact HU3
      have HT3 : Hid (w2.heap[w.heap.size + 1 + 1]? = some (.cells T 192 (0, 0))) := by rw [hw2]; exact HR3
      clear hST hT hw2
      go_wp2_with (first | refine wpList_load_row rfl 302 _ rfl (w.heap.size + 1) rfl 302 ST (0, 0) _ HU3.out Tryz.underlying302 rfl HI8.out ?_ | refine wpList_load_row rfl 192 _ rfl (w.heap.size + 1 + 1) rfl 192 T (0, 0) _ HR3.out Tryz.underlying192 rfl HI64.out ?_)
      refine HM.out.mono ?_
      rintro e w3 ⟨S2, rfl, HS2', HI2, HZ3, HO2, HB3⟩
      have HU4 : Hid (w3.heap[w.heap.size + 1]? = some (.cells ST 302 (0, 0))) := by
        show _ = _
        rw [HB3.out.block _ (by omega)]
        exact HST3.out
      have HR4 : Hid ((w3.setRow (w.heap.size + 1) S2).heap[w.heap.size + 1 + 1]? = some (.cells T 192 (0, 0))) := by
        show _ = _
        rw [setRow_other _ _ _ _ (by omega), HB3.out.block _ hs2]
        exact HT3.out
      go_wp2_with (first | refine wpList_store_row rfl 302 _ _ rfl (w.heap.size + 1) S2 rfl rfl 302 ST HU4.out HI2.out HZ3.out HO2.out ?_ | refine wpList_clear_row rfl (.tmp 42) 134 rfl 5 Tryz.underlying134 (.int .u8 0) HZZ.out rfl rfl (w.heap.size + 1 + 1) 64 64 (by omega) rfl T 192 HR4.out HTS.out Z HZR.out ?_)
      obtain ⟨w5, hw5⟩ : ∃ w5, w5 = (w3.setRow (w.heap.size + 1) S2).setRow (w.heap.size + 1 + 1) Z := ⟨_, rfl⟩
      rw [← hw5]
      obtain ⟨st5, hst5⟩ : ∃ x, x = mixN ks st (tailB l) := ⟨_, rfl⟩
      obtain ⟨base, hbase⟩ : ∃ x, x = zeros64 := ⟨_, rfl⟩
      have hZe : Z = u8s zeros64 := by rw [← HZR.out]; unfold u8s zeros64; rw [List.map_replicate]; rfl
      have HU5 : Hid (URow w5 (w.heap.size + 1) 302 st5) := by
        show _ = _
        rw [hw5, setRow_other _ _ _ _ (by omega), hst5, ← HS2'.out]
        exact setRow_heap _ _ _ S2 _ _ HU4.out
      have HR5 : Hid (BRow w5 (w.heap.size + 1 + 1) 192 base) := by
        show _ = _
        rw [hw5, hbase, ← hZe]
        exact setRow_heap _ _ _ _ _ _ HR4.out
      have HZ5 : Hid (BRow w5 w.heap.size 131 zeros32) := by
        show _ = _
        rw [hw5, setRow_other _ _ _ _ (by omega), setRow_other _ _ _ _ (by omega), HB3.out.block _ (by omega)]
        exact HZ2.out
      have HB5 : Hid (Below w.heap.size w w5) := by
        rw [hw5]
        exact below_setRow (below_setRow (HB2.out.trans (HB3.out.mono HB2.out.size)) (by omega) _) (by omega) _
      have HL5 : Hid (st5.length = 8) := by rw [hst5]; exact mixN_length _ _ _
      have HW5 : Hid (∀ d ∈ st5, d < w32) := by rw [hst5]; exact mixN_lt _ _ _
      have HBL : Hid (base.length = 64) := by rw [hbase]; rfl
      have HBB : Hid (∀ d ∈ base, d < 256) := by rw [hbase]; exact fun d hd => by rw [List.eq_of_mem_replicate hd]; omega
      have HFIN : Hid (mixN ks st5 (lensIn base (8 * l.length) 8) = mixTo ks hs (padN l) ((padN l).length / 64)) := by
        show _ = _
        rw [shaB_two ks hs l (by rw [HLL.out, ← HN.out]; exact h56), hst5, hbase, ← HST.out]
        rfl
      clear hw5 hst5 hbase hZe HU4 HR4 HM HB3 HS2' HI2 HZ3 HO2 HST3 HT3 HU3 HR3 HI8 HI64 HTS HR2 HU2 HZ2 HB2 h56 cz fz HST HSTL HSTW hs2
      rotate_left
      go_wp2
      obtain ⟨w5, hw5⟩ : ∃ w5, w5 = w1.setCell ⟨w.heap.size + 1 + 1, n, none⟩ (.int .u8 128) := ⟨_, rfl⟩
      rw [← hw5]
      obtain ⟨st5, hst5⟩ : ∃ x, x = st := ⟨_, rfl⟩
      obtain ⟨base, hbase⟩ : ∃ x, x = tailB l := ⟨_, rfl⟩
      have HU5 : Hid (URow w5 (w.heap.size + 1) 302 st5) := by rw [hw5, hst5]; exact HU2
      have HR5 : Hid (BRow w5 (w.heap.size + 1 + 1) 192 base) := by rw [hw5, hbase]; exact HR2
      have HZ5 : Hid (BRow w5 w.heap.size 131 zeros32) := by rw [hw5]; exact HZ2
      have HB5 : Hid (Below w.heap.size w w5) := by rw [hw5]; exact HB2
      have HL5 : Hid (st5.length = 8) := by rw [hst5]; exact HSTL
      have HW5 : Hid (∀ d ∈ st5, d < w32) := by rw [hst5]; exact HSTW
      have HBL : Hid (base.length = 64) := by rw [hbase]; exact tailB_length l
      have HBB : Hid (∀ d ∈ base, d < 256) := by rw [hbase]; exact tailB_lt l (by rw [HL.out]; exact bytesN_lt s)
      have HFIN : Hid (mixN ks st5 (lensIn base (8 * l.length) 8) = mixTo ks hs (padN l) ((padN l).length / 64)) := by
        show _ = _
        rw [shaB_one ks hs l (by rw [HLL.out, ← HN.out]; omega), hst5, hbase, ← HST.out]
      clear hw5 hst5 hbase HR2 HU2 HZ2 HB2 h56 cz fz HST HSTL HSTW
      all_goals
        have k56 : ∃ z : Int, w5.cell? ⟨w.heap.size + 1 + 1, 56, none⟩ = some (.int .u8 z) := ⟨_, HR5.out.cell 56 (by rw [HBL.out]; omega)⟩
        have k57 : ∃ z : Int, w5.cell? ⟨w.heap.size + 1 + 1, 57, none⟩ = some (.int .u8 z) := ⟨_, HR5.out.cell 57 (by rw [HBL.out]; omega)⟩
        have k58 : ∃ z : Int, w5.cell? ⟨w.heap.size + 1 + 1, 58, none⟩ = some (.int .u8 z) := ⟨_, HR5.out.cell 58 (by rw [HBL.out]; omega)⟩
        have k59 : ∃ z : Int, w5.cell? ⟨w.heap.size + 1 + 1, 59, none⟩ = some (.int .u8 z) := ⟨_, HR5.out.cell 59 (by rw [HBL.out]; omega)⟩
        have k60 : ∃ z : Int, w5.cell? ⟨w.heap.size + 1 + 1, 60, none⟩ = some (.int .u8 z) := ⟨_, HR5.out.cell 60 (by rw [HBL.out]; omega)⟩
        have k61 : ∃ z : Int, w5.cell? ⟨w.heap.size + 1 + 1, 61, none⟩ = some (.int .u8 z) := ⟨_, HR5.out.cell 61 (by rw [HBL.out]; omega)⟩
        have k62 : ∃ z : Int, w5.cell? ⟨w.heap.size + 1 + 1, 62, none⟩ = some (.int .u8 z) := ⟨_, HR5.out.cell 62 (by rw [HBL.out]; omega)⟩
        have k63 : ∃ z : Int, w5.cell? ⟨w.heap.size + 1 + 1, 63, none⟩ = some (.int .u8 z) := ⟨_, HR5.out.cell 63 (by rw [HBL.out]; omega)⟩
        obtain ⟨z56, c56⟩ := k56
        obtain ⟨z57, c57⟩ := k57
        obtain ⟨z58, c58⟩ := k58
        obtain ⟨z59, c59⟩ := k59
        obtain ⟨z60, c60⟩ := k60
        obtain ⟨z61, c61⟩ := k61
        obtain ⟨z62, c62⟩ := k62
        obtain ⟨z63, c63⟩ := k63
        have f56 := HR5.out.frozen 56
        have f57 := HR5.out.frozen 57
        have f58 := HR5.out.frozen 58
        have f59 := HR5.out.frozen 59
        have f60 := HR5.out.frozen 60
        have f61 := HR5.out.frozen 61
        have f62 := HR5.out.frozen 62
        have f63 := HR5.out.frozen 63
        refine wp_loop_rounds 9 ?_
        rw [rounds_succ]
        go_wp2
        rw [rounds_succ]
        go_wp2
        rw [rounds_succ]
        go_wp2
        rw [rounds_succ]
        go_wp2
        rw [rounds_succ]
        go_wp2
        rw [rounds_succ]
        go_wp2
        rw [rounds_succ]
        go_wp2
        rw [rounds_succ]
        go_wp2
        obtain ⟨w8, hw8⟩ : ∃ w8, w8 = ((((((((w5.setCell ⟨w.heap.size + 1 + 1, 63, none⟩ (.int .u8 ((s.size : Int) * 8 % 256))).setCell ⟨w.heap.size + 1 + 1, 62, none⟩ (.int .u8 ((s.size : Int) * 8 / 256 % 256))).setCell ⟨w.heap.size + 1 + 1, 61, none⟩ (.int .u8 ((s.size : Int) * 8 / 65536))).setCell ⟨w.heap.size + 1 + 1, 60, none⟩ (.int .u8 ((s.size : Int) * 8 / 16777216))).setCell ⟨w.heap.size + 1 + 1, 59, none⟩ (.int .u8 ((s.size : Int) * 8 / 4294967296))).setCell ⟨w.heap.size + 1 + 1, 58, none⟩ (.int .u8 ((s.size : Int) * 8 / 1099511627776))).setCell ⟨w.heap.size + 1 + 1, 57, none⟩ (.int .u8 ((s.size : Int) * 8 / 281474976710656))).setCell ⟨w.heap.size + 1 + 1, 56, none⟩ (.int .u8 ((s.size : Int) * 8 / 72057594037927936))) := ⟨_, rfl⟩
        rw [← hw8]
        obtain ⟨fin, hfin⟩ : ∃ x, x = lensIn base (8 * l.length) 8 := ⟨_, rfl⟩
        obtain ⟨RB, hRB⟩ : ∃ x, x = u8s fin := ⟨_, rfl⟩
        obtain ⟨ST5, hST5⟩ : ∃ x, x = u32s st5 := ⟨_, rfl⟩
        have hne : ∀ k, (⟨w.heap.size + 1 + 1, k, none⟩ : Addr).block = w.heap.size + 1 + 1 := fun _ => rfl
        have hN : 8 * l.length = s.size * 8 := by rw [HLL.out]; omega
        have HR8 : Hid (w8.heap[w.heap.size + 1 + 1]? = some (.cells RB 192 (0, 0))) := by
          have h := (((((((HR5.out.set 63 (s.size * 8 % 256)).set 62 (s.size * 8 / 256 % 256)).set 61 (s.size * 8 / 65536)).set 60 (s.size * 8 / 16777216)).set 59 (s.size * 8 / 4294967296)).set 58 (s.size * 8 / 1099511627776)).set 57 (s.size * 8 / 281474976710656)).set 56 (s.size * 8 / 72057594037927936)
          have hfin2 : lensIn base (s.size * 8) 8 = fin := by rw [hfin, hN]
          rw [lens_all base (s.size * 8) HBL.out (by omega), hfin2] at h
          rw [hw8, hRB]
          exact h
        have HU8 : Hid (w8.heap[w.heap.size + 1]? = some (.cells ST5 302 (0, 0))) := by
          rw [hw8, hST5]
          have o : ∀ k, w.heap.size + 1 ≠ (⟨w.heap.size + 1 + 1, k, none⟩ : Addr).block := fun k => by show w.heap.size + 1 ≠ w.heap.size + 1 + 1; omega
          exact (((((((HU5.out.other _ (o _) _).other _ (o _) _).other _ (o _) _).other _ (o _) _).other _ (o _) _).other _ (o _) _).other _ (o _) _).other _ (o _) _
        have HZ8 : Hid (w8.heap[w.heap.size]? = some (.cells (u8s zeros32) 131 (0, 0))) := by
          rw [hw8]
          have o : ∀ k, w.heap.size ≠ (⟨w.heap.size + 1 + 1, k, none⟩ : Addr).block := fun k => by show w.heap.size ≠ w.heap.size + 1 + 1; omega
          exact (((((((HZ5.out.other _ (o _) _).other _ (o _) _).other _ (o _) _).other _ (o _) _).other _ (o _) _).other _ (o _) _).other _ (o _) _).other _ (o _) _
        have HB8 : Hid (Below w.heap.size w w8) := by
          rw [hw8]
          have o : ∀ k, w.heap.size ≤ (⟨w.heap.size + 1 + 1, k, none⟩ : Addr).block := fun k => by show w.heap.size ≤ w.heap.size + 1 + 1; omega
          exact (((((((HB5.out.setCell (o _) _).setCell (o _) _).setCell (o _) _).setCell (o _) _).setCell (o _) _).setCell (o _) _).setCell (o _) _).setCell (o _) _
        have hfl : fin.length = 64 := by rw [hfin]; exact lensIn_length _ _ _ HBL.out (by omega)
        have hfb : ∀ d ∈ fin, d < 256 := by rw [hfin]; exact lensIn_lt _ _ _ HBB.out
        have hs8 : w.heap.size + 1 + 1 < w8.heap.size := (Array.getElem?_eq_some_iff.1 HR8.out).1
        have HI8' : Hid ((Tryz.prog.info? 302).map (·.size) = some ST5.size) := by
          show _ = _
          rw [hST5]
          simp only [u32s, List.size_toArray, List.length_map, HL5.out]
          kernel_rfl
        have HI64' : Hid ((Tryz.prog.info? 192).map (·.size) = some RB.size) := by
          show _ = _
          rw [hRB]
          simp only [u8s, List.size_toArray, List.length_map, hfl]
          kernel_rfl
        have HM8 : Hid (Calls Tryz.prog 182 #[.agg ST5, .agg RB] w8 fun e w9 => ∃ S2 : Array Value, e = .returned (.agg S2) ∧ Hid (S2 = u32s (mixN ks st5 fin)) ∧ Hid ((Tryz.prog.info? 302).map (·.size) = some S2.size) ∧ Hid (ST5.size = S2.size) ∧ Hid (S2.all (·.oneCell') = true) ∧ Hid (Below w8.heap.size w8 w9)) :=
          mix_at st5 fin ks ST5 RB w8 hST5 hRB HL5.out HW5.out hfl hfb HKW.out (fun j hj => by rw [HB8.out.cell (by show 14 < _; exact block_lt_of_cell (HK.out 0 (by omega)))]; exact HK.out j hj)
        have HF2 : Hid (mixN ks st5 fin = mixTo ks hs (padN l) ((padN l).length / 64)) := by rw [hfin]; exact HFIN
        clear hw8 hfin hRB hST5 hne hN hfl hfb HU5 HR5 HZ5 HB5 HFIN c56 c57 c58 c59 c60 c61 c62 c63 f56 f57 f58 f59 f60 f61 f62 f63
        rw [rounds_succ]
        go_wp2_with (first | refine wpList_load_row rfl 302 _ rfl (w.heap.size + 1) rfl 302 ST5 (0, 0) _ HU8.out Tryz.underlying302 rfl HI8'.out ?_ | refine wpList_load_row rfl 192 _ rfl (w.heap.size + 1 + 1) rfl 192 RB (0, 0) _ HR8.out Tryz.underlying192 rfl HI64'.out ?_)
        refine HM8.out.mono ?_
        rintro e w9 ⟨S9, rfl, HS9, HI9, HZ9, HO9, HB9⟩
        have HIB := inBytes_at (mixN ks st5 fin) S9 w9 HS9.out (mixN_length _ _ _) (mixN_lt _ _ _)
        have HIB' : Hid (Calls Tryz.prog 183 #[.agg S9] w9 fun e w2 => ∃ A : Array Value, e = .returned (.agg A) ∧ Hid (A = u8s (outK (mixN ks st5 fin) 32)) ∧ Hid ((Tryz.prog.info? 131).map (·.size) = some A.size) ∧ Hid ((u8s zeros32).size = A.size) ∧ Hid (A.all (·.oneCell') = true) ∧ Hid (Below w9.heap.size w9 w2)) := HIB
        clear HIB HS9 HI9 HZ9 HO9
        go_wp2_with fail
        refine HIB'.out.mono ?_
        rintro e w10 ⟨A, rfl, HA, HIA', HZA, HOA', HB10⟩
        obtain ⟨Z32, hZ32⟩ : ∃ x, x = u8s zeros32 := ⟨_, rfl⟩
        have HZ10 : Hid (w10.heap[w.heap.size]? = some (.cells Z32 131 (0, 0))) := by
          show _ = _
          have hs9 := HB9.out.size
          rw [HB10.out.block _ (by omega), HB9.out.block _ (by omega), hZ32]
          exact HZ8.out
        have HZA2 : Hid (Z32.size = A.size) := by rw [hZ32]; exact HZA
        have HB11 : Hid (Below w.heap.size w w10) := HB8.out.trans ((HB9.out.mono HB8.out.size).trans (HB10.out.mono (Nat.le_trans HB8.out.size HB9.out.size)))
        clear hZ32 HZA HIB' HM8
        go_wp2_with (refine wpList_store_row rfl 131 _ _ rfl w.heap.size A rfl rfl 131 Z32 HZ10.out HIA'.out HZA2.out HOA'.out ?_)
        refine bodyPost_ret (v := .agg (u8s (outK (mixTo ks hs (padN l) ((padN l).length / 64)) 32))) ?_ rfl ⟨rfl, ?_⟩
        · rw [← HF2.out, ← HA.out]
          exact results_cell_row (p := 2) (ty := 131) rfl _ _ w.heap.size 131 A (0, 0) _ rfl (setRow_heap w10 w.heap.size Z32 A 131 _ HZ10.out) Tryz.underlying131 rfl HIA'.out
        · exact below_setRow HB11.out (Nat.le_refl _) _
end Go.Proofs.YtapijhhmjjplmaaGreatDoor
