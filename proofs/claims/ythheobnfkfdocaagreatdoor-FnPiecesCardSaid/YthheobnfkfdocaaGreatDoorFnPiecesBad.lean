/- What is no tree is told as none by both. -/
import Derived.Test.YthheobnfkfdocaaGreatDoorFnPiecesFn
import Derived.KernelRfl
namespace Go.AI.T
open Go Go.RowKit Go.AI
set_option linter.unusedVariables false
set_option linter.unusedSimpArgs false
set_option maxRecDepth 100000
noncomputable section
theorem bad_FnPieces (B : Blk) (N g : Nat) {l : List Nat} {n : Nat} (hn : lenL l = n) (hm : n ≤ 1048576) (ht : isTree l = false) : tells (c_laws_FnPieces_r8 (N + 5) g (.str l n) (hCode B)) = true := by
  delta c_impl_countsIn c_impl_CutPieces c_spec_CutPieces c_impl_leastNodes c_impl_MiddleCentre c_impl_nodeIn c_impl_MiddleAt c_impl_TreeSorted c_impl_MiddleFree c_impl_CutTops c_laws_FnPieces_r8
  repeat (first | rw [zaod hn ht] | rw [zanl hn hm ht] | rw [bindR_some'] | rw [zaub] | rw [zatc] | rw [aNot_b] | rw [bnot_f] | rw [bnot_t] | rw [zaai] | rw [bc_true] | rw [zaah])
  kernel_rfl
/-- One tree's trial. -/
def ok_FnPieces (B : Blk) (l : List Nat) : Bool := bc (Nat.ble (lenL l) 16) (tells (c_laws_FnPieces_r8 2097152 20 (.str l (lenL l)) (hCode B))) true
end
end Go.AI.T
