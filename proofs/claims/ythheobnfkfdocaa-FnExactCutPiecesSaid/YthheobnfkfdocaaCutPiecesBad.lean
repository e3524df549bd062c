/- What is no tree is told as none by both. -/
import Derived.Test.YthheobnfkfdocaaCutPiecesFn
import Derived.KernelRfl
namespace Go.AI.T
open Go Go.RowKit Go.AI
set_option linter.unusedVariables false
set_option linter.unusedSimpArgs false
set_option maxRecDepth 100000
noncomputable section
theorem gB_ff (y n : Option R) : guardB true (.bool false) y n = n := rfl
theorem bad_spec_CutPieces (F g : Nat) {l : List Nat} {n : Nat} (hn : lenL l = n) (hm : n ≤ 1048576) (ht : isTree l = false) (h : H) : c_spec_CutPieces F g (.str l n) h = some ((.one .tup (.cons (.int 3 (.ofNat 0)) (.cons (.bool false) (.leaf .nil)))), h) := by
  delta c_spec_CutPieces
  repeat (first | rw [gB_ff] | rw [spec_bad hn ht] | rw [read_bad hn hm ht] | rw [counts_bad38 hn hm ht] | rw [counts_bad47 hn hm ht] | rw [counts_bad52 hn hm ht] | rw [bindR_some'] | rw [aExtract_0] | rw [aExtract_1] | rw [aNot_b] | rw [bnot_f] | rw [bnot_t] | rw [withBool_bool] | rw [bc_true] | rw [bc_false])
  try rfl
theorem bad_impl_CutPieces (F g : Nat) {l : List Nat} {n : Nat} (hn : lenL l = n) (hm : n ≤ 1048576) (ht : isTree l = false) (h : H) : c_impl_CutPieces F g (.str l n) h = some ((.one .tup (.cons (.int 3 (.ofNat 0)) (.cons (.bool false) (.leaf .nil)))), h.fz) := by
  delta c_impl_CutPieces
  repeat (first | rw [gB_ff] | rw [spec_bad hn ht] | rw [read_bad hn hm ht] | rw [counts_bad38 hn hm ht] | rw [counts_bad47 hn hm ht] | rw [counts_bad52 hn hm ht] | rw [bindR_some'] | rw [aExtract_0] | rw [aExtract_1] | rw [aNot_b] | rw [bnot_f] | rw [bnot_t] | rw [withBool_bool] | rw [bc_true] | rw [bc_false])
  try rfl
theorem bad_CutPieces {l : List Nat} {n : Nat} (hn : lenL l = n) (ht : isTree l = false) : tells (c_laws_FnExactCutPieces 2097152 20 (.str l n) H0) = true := by
  by_cases h20 : 1048576 < n
  · simp only [c_laws_FnExactCutPieces, aLenK_str, aCmpI_int, kEq_self, bc_true, ilt_nat, ble_true (show Nat.succ 1048576 ≤ n by omega), withBool_bool]; rfl
  · delta c_laws_FnExactCutPieces
    rw [aLenK_str, aCmpI_int, kEq_self, bc_true, ilt_nat, ble_false (show n < Nat.succ 1048576 by omega), withBool_bool, bc_false, bad_spec_CutPieces _ _ hn (by omega) ht, bindR_some', aExtract_0, aExtract_1, bad_impl_CutPieces _ _ hn (by omega) ht, bindR_some']
    kernel_rfl
/-- One tree's trial. -/
def ok_CutPieces (l : List Nat) : Bool := tells (c_laws_FnExactCutPieces 2097152 20 (.str l (lenL l)) H0)
end
end Go.AI.T
