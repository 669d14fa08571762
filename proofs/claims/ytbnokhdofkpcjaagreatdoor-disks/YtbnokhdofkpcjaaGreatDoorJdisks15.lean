/- OWN TEXT: joined of: DisksCard. -/
import Derived.Test.YtbnokhdofkpcjaaGreatDoorCards
import Derived.Test.YtbnokhdofkpcjaaGreatDoorTie
import Derived.Carry
import Derived.Stop.Joined
import Derived.SevenTiedAt
import Derived.Test.YtbnokhdofkpcjaaGreatDoorJdisks14
namespace Go.Proofs.YtbnokhdofkpcjaaGreatDoor
open Go.ChangeShapes Go.WideShapes Go.ChangeAt Go.WideMaps Go.WideElems Go.RowKit

theorem laid_parts : (laidL.filter fun x => x.2.handleName?.isNone) = [("unicode/utf8.acceptRanges", Rows.laid_unicode_utf8_acceptRanges), ("keepsake/sums.startWords", Rows.laid_keepsake_sums_startWords), ("keepsake/sums.roundWords", Rows.laid_keepsake_sums_roundWords)] ++ (named12.map sentD ++ [("unicode/utf8.first", Rows.laid_unicode_utf8_first)]) := rfl
theorem sent_of_laid {W : World} (h : laidMetH Tryz.prog laidL W) : ∃ a, Sent W a := by
  have hp := plain_of_laidH h
  rw [laid_parts] at hp
  have hh : handlesMet Tryz.prog [("errors.errorType", .iface "internal/reflectlite.rtype" (.agg [.ptr (.lit (.string [101, 114, 114, 111, 114]))]))] W := by
    unfold laidMetH at h
    split at h
    · rename_i hf
      exact absurd hf (by intro e; cases e)
    · rename_i hd tl heq
      have h2 := h.2
      rw [← heq] at h2
      exact h2
  refine sent_of (fun j => j + 3) (fun j hj => ⟨by simp; omega, ?_⟩) (fun i j hij => by show i + 3 < j + 3; omega) hp (handle_of hh (List.mem_singleton.2 rfl))
  rw [List.getElem_append_right (by simp), List.getElem_append_left (by simpa using hj)]
  simp

set_option maxRecDepth 100000 in
theorem lifted (os : Os) (started : os.Started) (H : Type) (enc : TypeId × Value → H) :
    ReturnsInHanded {} Tryz.checked os 4 .any (fun w args => (Rows.disksSpec.pre enc Tryz.prog Tryz.f4 [] false w args ∧ laidMetH Tryz.prog laidL w) ∧ sizedMet enc Tryz.prog Tryz.f4 (OpenSpec.ofChange Rows.disksSpec) false w args)
      (Rows.disksSpec.post enc Tryz.prog Tryz.f4 false true false false) := by
  refine returnsInHanded_of_change_and (C := Tryz.checked) (X := fun w _ => laidMetH Tryz.prog laidL w) (fun _ _ _ hh h => h.of_heap hh) own started (by kernel_rfl) Tryz.func4
    (ChangeSpec.witness_shaped (enc := enc) (C := Tryz.checked) (os := os) (X := fun w _ => laidMetH Tryz.prog laidL w) false ((World.doorLaid Tryz.prog 264 os).layVars Tryz.prog bigL) #[.slice none 0 0] 8 (World.layVars_os _ _ _) (World.shaped_of_ZipB (by kernel_rfl) (by kernel_rfl)) (by kernel_rfl) (by kernel_rfl) (by kernel_rfl) (wit_met os _)) ?_
  intro W base args ds gs before hval0 hW _ hsz hL _
  have hW' := hW
  obtain ⟨p, q, hA0, hV, rfl, hfz, hnd⟩ := hW
  have hval : ∀ (j : Nat) t v, Tryz.f4.params[j]? = some t → args[j]? = some v → Value.okWide Tryz.prog W .any base t v := hval0
  have hA : DataW.TrodAll enc Tryz.prog W 0 (fun _ => true) true Tryz.f4.params.toList args.toList ds p := hA0
  have hsz' : (DataW.weightsEach Tryz.prog (Tryz.f4.params.toList ++ []) (ds ++ gs)).all (· ≤ reachBytes) = true := hsz
  rw [Tryz.params4] at hA hval hsz'
  obtain ⟨v0, d0, rfl, rfl, h0⟩ := trodAll_one hA
  obtain ⟨rfl, rfl⟩ := trodVars_none hV
  have hv := okWide_slice Tryz.underlying22 (hval 0 22 v0 rfl rfl)
  have hw : (d0.weights Tryz.prog 22).all (· ≤ reachBytes) = true := List.all_eq_true.2 fun n hn => List.all_eq_true.1 hsz' n (DataW.weights_mem_each (j := 0) (t := 22) (d := d0) rfl rfl n hn)
  obtain ⟨fuel, h1⟩ := h0
  obtain ⟨l, hl⟩ := open_script h1 hv hw
  obtain ⟨sa, S0⟩ := sent_of_laid hL
  refine (disks_any v0 l W hl sa S0).mono fun e W' ⟨he, hb⟩ => ?_
  subst he
  have e1 : Rows.disksSpec.fn H ([d0] ++ []) = { results := [.lit (.bool true)], args := [d0] } := rfl
  have ha : DataW.Trod enc Tryz.prog W' 0 (fun b => decide (b < W.heap.size)) true 22 v0 d0 p := hb.trod s_laidOut (by kernel_rfl) (of_decide_eq_true (by kernel_rfl)) ⟨fuel, h1⟩ (fun x hx => hW'.lt x (List.mem_append_left _ hx))
  refine ⟨_, rfl, _, _, _, [], p, [], hW', ?_, ?_, ?_, hb.frame _, fun h => by cases h⟩
  · rw [e1]; exact trodAll_mk1 (shut_bool Tryz.underlying4 true)
  · rw [e1]; exact trodAll_mk1 ha
  · rw [e1]; rfl

theorem d_inst : Tryz.f4.isInstance Tryz.prog Rows.disksRow.origin Rows.disksRow.targs := of_decide_eq_true (by kernel_rfl)
theorem d_wrap : Tryz.f4.isWrapper Tryz.prog Rows.disksRow.wrapper Rows.disksRow.mainSum := by unfold Func.isWrapper; first | (rw [if_pos (by decide +kernel)]; kernel_rfl) | (rw [if_neg (by decide +kernel)]; exact ⟨rfl, rfl⟩)

theorem disks_holds : Rows.DisksSaid :=
  OpenClaim.holds_of_wide 4 Tryz.f4 rfl rfl rfl rfl rfl rfl rfl ⟨rfl, rfl, rfl, rfl, rfl⟩ rfl rfl rfl rfl rfl d_funcNamed Tryz.func4 d_joined d_inst d_wrap
    (fun os started H enc _ => lifted os started H enc)

theorem disks_card_holds : Rows.DisksCardSaid :=
  Claim7.holds_tied_plain_at .later [] [.data, .handle, .data, .data, .sentinel, .sentinel, .sentinel, .sentinel, .sentinel, .sentinel, .sentinel, .sentinel, .sentinel, .sentinel, .sentinel, .sentinel, .pinned] true (true, "a5bdd69e9582746949c8e84eed0d6134fc226438f06422e11e389a3d5ab4b345") true
    disks_holds (fun _ h => by cases h) k_disks_wf (fun _ h => by cases h) disks_row_tie rfl ⟨rfl, rfl⟩ k_main rfl
    (fun f fn hf hfn => by
      obtain rfl : f = 4 := Option.some.inj (d_funcNamed.symm.trans hf) |>.symm
      obtain rfl : fn = Tryz.f4 := (Option.some.inj (Tryz.func4.symm.trans hfn)).symm
      exact ⟨k_looks, fun j t ht => by
        rw [Tryz.params4] at ht
        have hm : t ∈ [22] := by simpa using Array.mem_of_getElem? ht
        have hall := k_stand
        exact (show Tryz.prog.wantsStandIn t = false by simpa using List.all_eq_true.1 hall t hm)⟩)
    k_disks_goes
#print axioms disks_card_holds
end Go.Proofs.YtbnokhdofkpcjaaGreatDoor
