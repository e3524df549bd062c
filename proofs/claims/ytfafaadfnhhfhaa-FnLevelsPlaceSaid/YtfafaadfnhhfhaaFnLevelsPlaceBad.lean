/- What is no tree is told as none by both. -/
import Derived.Test.YtfafaadfnhhfhaaFnLevelsPlaceFn
import Derived.KernelRfl
namespace Go.AI.T
open Go Go.RowKit Go.AI
set_option linter.unusedVariables false
set_option linter.unusedSimpArgs false
set_option maxRecDepth 100000
noncomputable section
abbrev zeroI : AV := .one .tup (.cons (.int 3 (.ofNat 0)) (.cons (.bool false) (.leaf .nil)))
theorem badV_impl (F g : Nat) {l : List Nat} {n : Nat} (hn : lenL l = n) (hm : n ≤ 1048576) (ht : isTree l = false) (h : H) : Go.AI.V.c_impl_LevelsPlace F g (.str l n) h = some (zeroI, h) := by
  delta Go.AI.V.c_impl_LevelsPlace Go.AI.V.c_impl_levelsInOrder Go.AI.V.c_impl_TreeSorted
  repeat (first | rw [spec_bad hn ht] | rw [read_bad hn hm ht] | rw [bindR_some'] | rw [aExtract_0] | rw [aExtract_1] | rw [aNot_b] | rw [bnot_f] | rw [bnot_t] | rw [withBool_bool] | rw [bc_true] | rw [bc_false])
  rfl
theorem badV_spec (F g : Nat) {l : List Nat} {n : Nat} (hn : lenL l = n) (hm : n ≤ 1048576) (ht : isTree l = false) (h : H) : Go.AI.V.c_spec_LevelsPlace F g (.str l n) h = some (zeroI, h) := by
  delta Go.AI.V.c_spec_LevelsPlace
  repeat (first | rw [spec_bad hn ht] | rw [read_bad hn hm ht] | rw [bindR_some'] | rw [aExtract_0] | rw [aExtract_1] | rw [aNot_b] | rw [bnot_f] | rw [bnot_t] | rw [withBool_bool] | rw [bc_true] | rw [bc_false])
  rfl
theorem bad_impl (F g : Nat) {l : List Nat} {n : Nat} (hn : lenL l = n) (hm : n ≤ 1048576) (ht : isTree l = false) (h : H) : c_impl_LevelsPlace F g (.str l n) h = some (zeroI, h) := by
  show fgC _ _ _ = _
  unfold fgC
  rw [badV_impl _ _ hn hm ht]; rfl
theorem bad_spec (F g : Nat) {l : List Nat} {n : Nat} (hn : lenL l = n) (hm : n ≤ 1048576) (ht : isTree l = false) (h : H) : c_spec_LevelsPlace F g (.str l n) h = some (zeroI, h) := by
  show fgC _ _ _ = _
  unfold fgC
  rw [badV_spec _ _ hn hm ht]; rfl
theorem bad_FnLevelsPlace (B : Blk) (N g : Nat) {l : List Nat} {n : Nat} (hn : lenL l = n) (hm : n ≤ 1048576) (ht : isTree l = false) : tells (c_laws_FnLevelsPlace_r7 (N + 5) g (.str l n) (hCode B)) = true := by
  delta c_laws_FnLevelsPlace_r7
  rw [bad_impl _ _ hn hm ht, bindR_some', aExtract_0, aExtract_1, bad_spec _ _ hn hm ht, bindR_some']
  rfl
/-- One tree's trial. -/
def ok_FnLevelsPlace (B : Blk) (l : List Nat) : Bool := bc (Nat.ble (lenL l) 14) (tells (c_laws_FnLevelsPlace_r7 2097152 20 (.str l (lenL l)) (hCode B))) true
end
end Go.AI.T
