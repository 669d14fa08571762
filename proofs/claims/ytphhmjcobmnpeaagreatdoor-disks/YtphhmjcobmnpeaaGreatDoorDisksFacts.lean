/- OWN TEXT: the closed facts of the row of Disks, one by one (in one declaration they outgrow the kernel's memory). -/
import Derived.Test.YtphhmjcobmnpeaaGreatDoorSumsFacts
import Derived.JoinedOf
namespace Go.Proofs.YtphhmjcobmnpeaaGreatDoor

theorem d_wf : Rows.disksRow.wf (OpenSpec.ofChange Rows.disksSpec) = true := by kernel_rfl
theorem d_inPlace : (Rows.disksRow.inPlace == Tryz.prog.inPlace 4) = true := by kernel_rfl
theorem d_unfollowed : (Rows.disksRow.unfollowed == Tryz.prog.unfollowed 4) = true := by kernel_rfl
theorem d_recurses : (Rows.disksRow.recurses == Tryz.prog.recurses 4) = true := by kernel_rfl
theorem d_named : (Rows.disksRow.named == Tryz.prog.varsNamed 4) = true := by kernel_rfl
theorem d_namedTie : namedTie Tryz.prog Rows.disksRow.named Rows.disksSpec.vars = true := by kernel_rfl
theorem d_funcNamed : Tryz.prog.funcNamed "keepsake/keepsakelaw.Disks" = some 4 := by kernel_rfl
theorem d_joined : joinedFacts Tryz.prog 4 Tryz.f4 Rows.disksSpec Rows.disksRow = true := by
  unfold joinedFacts
  rw [d_wf, s_laidOut, s_mapsRowed, d_namedTie, d_inPlace, d_unfollowed, d_recurses, d_named]
  kernel_rfl
end Go.Proofs.YtphhmjcobmnpeaaGreatDoor
