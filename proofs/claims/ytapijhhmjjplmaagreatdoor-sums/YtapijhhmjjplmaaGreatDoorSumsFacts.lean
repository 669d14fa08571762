/- OWN TEXT: the closed facts of the row of Sums, one by one (in one declaration they outgrow the kernel's memory). -/
import Derived.Test.YtapijhhmjjplmaaGreatDoorRows
import Derived.JoinedOf
namespace Go.Proofs.YtapijhhmjjplmaaGreatDoor

theorem s_laidOut : laidOutB Tryz.prog = true := by kernel_rfl
theorem s_mapsRowed : mapsRowed Tryz.prog = true := by kernel_rfl
theorem s_wf : Rows.sumsRow.wf (OpenSpec.ofChange Rows.sumsSpec) = true := by kernel_rfl
theorem s_inPlace : (Rows.sumsRow.inPlace == Tryz.prog.inPlace 3) = true := by kernel_rfl
theorem s_unfollowed : (Rows.sumsRow.unfollowed == Tryz.prog.unfollowed 3) = true := by kernel_rfl
theorem s_recurses : (Rows.sumsRow.recurses == Tryz.prog.recurses 3) = true := by kernel_rfl
theorem s_named : (Rows.sumsRow.named == Tryz.prog.varsNamed 3) = true := by kernel_rfl
theorem s_namedTie : namedTie Tryz.prog Rows.sumsRow.named Rows.sumsSpec.vars = true := by kernel_rfl
theorem s_funcNamed : Tryz.prog.funcNamed "keepsake/keepsakelaw.Sums" = some 3 := by kernel_rfl
theorem s_joined : joinedFacts Tryz.prog 3 Tryz.f3 Rows.sumsSpec Rows.sumsRow = true := by
  unfold joinedFacts
  rw [s_wf, s_laidOut, s_mapsRowed, s_namedTie, s_inPlace, s_unfollowed, s_recurses, s_named]
  kernel_rfl
end Go.Proofs.YtapijhhmjjplmaaGreatDoor
