/- What is no tree is told as none by both. -/
import Derived.Test.YtfafaadfnhhfhaaFnNextFn
import Derived.KernelRfl
namespace Go.AI.T
open Go Go.RowKit Go.AI
set_option linter.unusedVariables false
set_option linter.unusedSimpArgs false
set_option maxRecDepth 100000
noncomputable section
theorem bad_impl_FnNext (F g : Nat) {l : List Nat} {n : Nat} (hn : lenL l = n) (hm : n ≤ 1048576) (ht : isTree l = false) (h : H) : c_impl_LevelsNext F g (.str l n) h = some ((.one .tup (.cons (.str [] 0) (.cons (.bool false) (.leaf .nil)))), h) := by
  delta c_impl_LevelsNext c_impl_levelsInOrder c_impl_TreeSorted
  repeat (first | rw [spec_bad hn ht] | rw [read_bad hn hm ht] | rw [bindR_some'] | rw [aExtract_0] | rw [aExtract_1] | rw [aNot_b] | rw [bnot_f] | rw [bnot_t] | rw [withBool_bool] | rw [bc_true] | rw [bc_false])
  try rfl
theorem bad_spec_FnNext (F g : Nat) {l : List Nat} {n : Nat} (hn : lenL l = n) (hm : n ≤ 1048576) (ht : isTree l = false) (h : H) : c_spec_LevelsNext F g (.str l n) h = some ((.one .tup (.cons (.str [] 0) (.cons (.bool false) (.leaf .nil)))), h) := by
  delta c_spec_LevelsNext
  repeat (first | rw [spec_bad hn ht] | rw [read_bad hn hm ht] | rw [bindR_some'] | rw [aExtract_0] | rw [aExtract_1] | rw [aNot_b] | rw [bnot_f] | rw [bnot_t] | rw [withBool_bool] | rw [bc_true] | rw [bc_false])
  try rfl
theorem bad_FnNext (B : Blk) (N g : Nat) {l : List Nat} {n : Nat} (hn : lenL l = n) (hm : n ≤ 1048576) (ht : isTree l = false) : tells (c_laws_FnNext_r13 (N + 5) g (.str l n) (hCode B)) = true := by
  delta c_laws_FnNext_r13
  rw [bad_impl_FnNext _ _ hn hm ht, bindR_some', aExtract_0, aExtract_1, bad_spec_FnNext _ _ hn hm ht, bindR_some']
  kernel_rfl
/-- One tree's trial. -/
def ok_FnNext (B : Blk) (l : List Nat) : Bool := bc (Nat.ble (lenL l) 14) (tells (c_laws_FnNext_r13 2097152 20 (.str l (lenL l)) (hCode B))) true
end
end Go.AI.T
