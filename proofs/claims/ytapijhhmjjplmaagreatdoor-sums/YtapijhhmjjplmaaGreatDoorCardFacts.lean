/- OWN TEXT: closed facts that every card of this program asks, one by one. -/
import Derived.Test.YtapijhhmjjplmaaGreatDoorRows
import Derived.SevenTiedAt
namespace Go.Proofs.YtapijhhmjjplmaaGreatDoor

theorem k_main : Tryz.pinned.checked.prog.mainIs = some (true, ("a5bdd69e9582746949c8e84eed0d6134fc226438f06422e11e389a3d5ab4b345" : String).toList) := by kernel_rfl
theorem k_looks : true = Tryz.pinned.checked.prog.looks [] := by kernel_rfl
theorem k_stand : ([22].all fun u => !Tryz.prog.wantsStandIn u) = true := by kernel_rfl
theorem k_sums_wf : Rows.sumsRow.wfByText (OpenSpec.ofChange Rows.sumsSpec) = true := by kernel_rfl
theorem k_sums_goes : false = Rows.sumsRow.goesBy Tryz.pinned.checked.prog := by kernel_rfl
theorem k_disks_wf : Rows.disksRow.wfByText (OpenSpec.ofChange Rows.disksSpec) = true := by kernel_rfl
theorem k_disks_goes : false = Rows.disksRow.goesBy Tryz.pinned.checked.prog := by kernel_rfl
theorem k_trees_wf : Rows.treesRow.wfByText (OpenSpec.ofChange Rows.treesSpec) = true := by kernel_rfl
theorem k_trees_goes : false = Rows.treesRow.goesBy Tryz.pinned.checked.prog := by kernel_rfl
end Go.Proofs.YtapijhhmjjplmaaGreatDoor
