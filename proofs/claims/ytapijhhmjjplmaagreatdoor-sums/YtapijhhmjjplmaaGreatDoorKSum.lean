/- OWN TEXT: keepsake.Sum. -/
import Derived.Test.YtapijhhmjjplmaaGreatDoorSum
namespace Go.Proofs.YtapijhhmjjplmaaGreatDoor
open Go.RowKit

theorem sha_at (s : ByteArray) (ks hs : List Nat) (tg : TypeId) (fr : Nat × Nat) (w : World) (hsz : s.size ≤ 300000) (hhl : hs.length = 8) (hhw : ∀ d ∈ hs, d < w32) (hkw : ∀ d ∈ ks, d < w32)
    (hS : w.heap[13]? = some (.cells (u32s hs) tg fr))
    (hK : ∀ i, i < 64 → w.cell? ⟨14, i, none⟩ = some (.int .u32 (ks.getD i 0 : Int))) :
    Calls Tryz.prog 107 #[.string s] w fun e w2 => ∃ A : Array Value, e = .returned (.agg A) ∧ Hid (A = u8s (outK (mixTo ks hs (padN (bytesN s)) ((padN (bytesN s)).length / 64)) 32)) ∧ Hid ((Tryz.prog.info? 131).map (·.size) = some A.size) ∧ Hid (∀ Z : Array Value, Z.size = 32 → Z.size = A.size) ∧ Hid (A.all (·.oneCell') = true) ∧ Hid (Below w.heap.size w w2) := by
  refine (sha_any s ks hs tg fr w hsz hhl hhw hkw hS hK).mono ?_
  rintro e w2 ⟨rfl, hb⟩
  have hz : ∀ st, (u8s (outK st 32)).size = 32 := fun st => by simp [u8s, outK_length]
  refine ⟨_, rfl, rfl, ?_, fun Z h => by rw [hz, h], u8s_one _, hb⟩
  show _ = _
  rw [hz]
  kernel_rfl

set_option maxRecDepth 100000 in
set_option maxHeartbeats 1000000 in
theorem keepSum (s : ByteArray) (ks hs : List Nat) (tg : TypeId) (fr : Nat × Nat) (w : World) (hsz : s.size ≤ 300000) (hhl : hs.length = 8) (hhw : ∀ d ∈ hs, d < w32) (hkw : ∀ d ∈ ks, d < w32)
    (hS : w.heap[13]? = some (.cells (u32s hs) tg fr))
    (hK : ∀ i, i < 64 → w.cell? ⟨14, i, none⟩ = some (.int .u32 (ks.getD i 0 : Int))) :
    Calls Tryz.prog 65 #[.string s] w fun e w' => e = .returned (.string ⟨(shaB ks hs (bytesN s)).toArray⟩) ∧ Below w.heap.size w w' := by
  have HD := sha_at s ks hs tg fr w hsz hhl hhw hkw hS hK
  obtain ⟨l, hl⟩ : ∃ l, l = shaB ks hs (bytesN s) := ⟨_, rfl⟩
  have hout : (outK (mixTo ks hs (padN (bytesN s)) ((padN (bytesN s)).length / 64)) 32).map UInt8.ofNat = l := by
    rw [hl]
    exact outK_all _ (mixTo_length _ _ _ hhl _)
  rw [← hl]
  obtain ⟨o, ho⟩ : ∃ o, o = outK (mixTo ks hs (padN (bytesN s)) ((padN (bytesN s)).length / 64)) 32 := ⟨_, rfl⟩
  have hol : o.length = 32 := by rw [ho]; exact outK_length _ _
  have hob : ∀ d ∈ o, d < 256 := by rw [ho]; exact outK_lt _ _
  rw [← ho] at HD hout
  have HD' := HD
  have HOUT : Hid (o.map UInt8.ofNat = l) := hout
  have HOL : Hid (o.length = 32) := hol
  have HOB : Hid (∀ d ∈ o, d < 256) := hob
  clear HD hl ho hout hS hK hhl hhw hkw hol hob
  have HDD : Hid (Calls Tryz.prog 107 #[.string s] w fun e w2 => ∃ A : Array Value, e = .returned (.agg A) ∧ Hid (A = u8s o) ∧ Hid ((Tryz.prog.info? 131).map (·.size) = some A.size) ∧ Hid (∀ Z : Array Value, Z.size = 32 → Z.size = A.size) ∧ Hid (A.all (·.oneCell') = true) ∧ Hid (Below w.heap.size w w2)) := HD'
  clear HD'
  go_enter Tryz.func65, Tryz.ntmps65
  go_wp2_with fail
  refine HDD.out.mono ?_
  rintro e w1 ⟨A, rfl, HA, HI, HZ, HO, HB⟩
  have hcv : ∀ Z : Array Value, (convert 134 9 (.slice (some ⟨w1.heap.size, 0, none⟩) 32 32)).run Tryz.prog ((w1.alloc (.cells Z 131)).setRow w1.heap.size A) = .ok (.string ⟨l.toArray⟩) ((w1.alloc (.cells Z 131)).setRow w1.heap.size A) := fun Z => by
    have hl32 : l.length = 32 := by rw [← HOUT.out, List.length_map]; exact HOL.out
    have h := run_convert_bytes_back (P := Tryz.prog) ((w1.alloc (.cells Z 131)).setRow w1.heap.size A) 134 9 5 ⟨w1.heap.size, 0, none⟩ 32 l Tryz.underlying134 Tryz.underlying5 Tryz.underlying9 ?_
    · rw [hl32] at h
      exact h
    · intro j hj
      have hr := setRow_heap _ _ _ A _ _ (heap_alloc_new w1 (.cells Z 131))
      have hjo : j < o.length := by rw [HOL.out]; omega
      have hrow : BRow ((w1.alloc (.cells Z 131)).setRow w1.heap.size A) w1.heap.size 131 o := by
        unfold BRow
        rw [← HA.out]
        exact hr
      have hc := hrow.cell j hjo
      have e1 : (⟨w1.heap.size, 0, none⟩ : Addr).add j = ⟨w1.heap.size, j, none⟩ := by unfold Addr.add; split <;> simp_all
      have e2 : l[j].toNat = o[j] := by
        have hlt := HOB.out o[j] (List.getElem_mem _)
        have e3 : l[j] = UInt8.ofNat o[j] := by
          have : l = o.map UInt8.ofNat := HOUT.out.symm
          subst this
          rw [List.getElem_map]
        rw [e3, UInt8.toNat_ofNat']
        omega
      rw [e1, e2]
      exact hc
  go_wp2_with (refine wpList_store_row rfl 131 _ _ rfl w1.heap.size A rfl rfl 131 _ (heap_alloc_new w1 _) HI.out (HZ.out _ rfl) HO.out ?_)
  go_ret
  exact ⟨rfl, below_setRow (HB.out.alloc HB.out.size _) HB.out.size _⟩
end Go.Proofs.YtapijhhmjjplmaaGreatDoor
