/- The evaluation, part 6. -/
import Derived.Test.YthheobnfkfdocaaTabFn
import Derived.KernelRfl
set_option linter.unusedVariables false
set_option linter.unusedSimpArgs false
set_option maxRecDepth 100000
namespace Go.AI.T
open Go Go.RowKit Go.AI
noncomputable section
theorem evTab_c6 : allR ok_Tab 6 2 7 (fun l => 40 :: 40 :: 41 :: 40 :: 41 :: 40 :: 41 :: 40 :: 41 :: 40 :: 41 :: 40 :: l) = true := by kernel_rfl
theorem evTab_c24 : allR ok_Tab 6 4 8 (fun l => 40 :: 40 :: 41 :: 40 :: 41 :: 40 :: 40 :: 41 :: 40 :: 41 :: 40 :: 40 :: l) = true := by kernel_rfl
theorem evTab_c32 : allR ok_Tab 6 2 7 (fun l => 40 :: 40 :: 41 :: 40 :: 41 :: 40 :: 40 :: 40 :: 41 :: 40 :: 41 :: 41 :: l) = true := by kernel_rfl
theorem evTab_c50 : allR ok_Tab 6 4 8 (fun l => 40 :: 40 :: 41 :: 40 :: 40 :: 41 :: 41 :: 40 :: 40 :: 40 :: 41 :: 40 :: l) = true := by kernel_rfl
theorem evTab_c57 : allR ok_Tab 6 0 6 (fun l => 40 :: 40 :: 41 :: 40 :: 40 :: 41 :: 40 :: 41 :: 40 :: 41 :: 41 :: 41 :: l) = true := by kernel_rfl
theorem evTab_c60 : allR ok_Tab 6 4 8 (fun l => 40 :: 40 :: 41 :: 40 :: 40 :: 41 :: 40 :: 41 :: 40 :: 41 :: 40 :: 40 :: l) = true := by kernel_rfl
theorem evTab_c67 : allR ok_Tab 6 4 8 (fun l => 40 :: 40 :: 41 :: 40 :: 40 :: 41 :: 40 :: 40 :: 41 :: 41 :: 40 :: 40 :: l) = true := by kernel_rfl
theorem evTab_c75 : allR ok_Tab 8 0 5 (fun l => 40 :: 40 :: 41 :: 40 :: 40 :: 40 :: 41 :: 41 :: 41 :: 41 :: l) = true := by kernel_rfl
theorem evTab_c79 : allR ok_Tab 6 4 8 (fun l => 40 :: 40 :: 41 :: 40 :: 40 :: 40 :: 41 :: 41 :: 41 :: 40 :: 40 :: 40 :: l) = true := by kernel_rfl
theorem evTab_c88 : allR ok_Tab 6 2 7 (fun l => 40 :: 40 :: 41 :: 40 :: 40 :: 40 :: 41 :: 40 :: 41 :: 41 :: 41 :: 40 :: l) = true := by kernel_rfl
theorem evTab_c101 : allR ok_Tab 6 4 8 (fun l => 40 :: 40 :: 41 :: 40 :: 40 :: 40 :: 40 :: 41 :: 41 :: 41 :: 40 :: 40 :: l) = true := by kernel_rfl
theorem evTab_c109 : allR ok_Tab 6 2 7 (fun l => 40 :: 40 :: 41 :: 40 :: 40 :: 40 :: 40 :: 40 :: 41 :: 41 :: 41 :: 41 :: l) = true := by kernel_rfl
theorem evTab_c125 : allR ok_Tab 6 2 7 (fun l => 40 :: 40 :: 40 :: 41 :: 41 :: 40 :: 41 :: 40 :: 40 :: 40 :: 41 :: 41 :: l) = true := by kernel_rfl
theorem evTab_c140 : allR ok_Tab 6 0 6 (fun l => 40 :: 40 :: 40 :: 41 :: 41 :: 40 :: 40 :: 40 :: 41 :: 41 :: 41 :: 41 :: l) = true := by kernel_rfl
theorem evTab_c142 : allR ok_Tab 6 2 7 (fun l => 40 :: 40 :: 40 :: 41 :: 41 :: 40 :: 40 :: 40 :: 41 :: 41 :: 40 :: 41 :: l) = true := by kernel_rfl
theorem evTab_c155 : allR ok_Tab 6 2 7 (fun l => 40 :: 40 :: 40 :: 41 :: 40 :: 41 :: 41 :: 40 :: 41 :: 40 :: 40 :: 41 :: l) = true := by kernel_rfl
theorem evTab_c171 : allR ok_Tab 6 2 7 (fun l => 40 :: 40 :: 40 :: 41 :: 40 :: 41 :: 40 :: 41 :: 40 :: 41 :: 40 :: 41 :: l) = true := by kernel_rfl
theorem evTab_c185 : allR ok_Tab 7 5 8 (fun l => 40 :: 40 :: 40 :: 41 :: 40 :: 41 :: 40 :: 40 :: 40 :: 41 :: 40 :: l) = true := by kernel_rfl
theorem evTab_c197 : allR ok_Tab 6 4 8 (fun l => 40 :: 40 :: 40 :: 41 :: 40 :: 40 :: 41 :: 41 :: 40 :: 40 :: 41 :: 40 :: l) = true := by kernel_rfl
theorem evTab_c203 : allR ok_Tab 6 2 7 (fun l => 40 :: 40 :: 40 :: 41 :: 40 :: 40 :: 41 :: 40 :: 41 :: 40 :: 41 :: 41 :: l) = true := by kernel_rfl
theorem evTab_c217 : allR ok_Tab 6 2 7 (fun l => 40 :: 40 :: 40 :: 41 :: 40 :: 40 :: 40 :: 41 :: 40 :: 41 :: 41 :: 41 :: l) = true := by kernel_rfl
theorem evTab_c232 : allR ok_Tab 6 0 6 (fun l => 40 :: 40 :: 40 :: 40 :: 41 :: 41 :: 41 :: 40 :: 40 :: 41 :: 41 :: 41 :: l) = true := by kernel_rfl
theorem evTab_c235 : allR ok_Tab 6 4 8 (fun l => 40 :: 40 :: 40 :: 40 :: 41 :: 41 :: 41 :: 40 :: 40 :: 41 :: 40 :: 40 :: l) = true := by kernel_rfl
theorem evTab_c242 : allR ok_Tab 6 2 7 (fun l => 40 :: 40 :: 40 :: 40 :: 41 :: 41 :: 40 :: 41 :: 41 :: 40 :: 40 :: 41 :: l) = true := by kernel_rfl
theorem evTab_c257 : allR ok_Tab 7 5 8 (fun l => 40 :: 40 :: 40 :: 40 :: 41 :: 41 :: 40 :: 40 :: 41 :: 40 :: 40 :: l) = true := by kernel_rfl
theorem evTab_c268 : allR ok_Tab 6 2 7 (fun l => 40 :: 40 :: 40 :: 40 :: 41 :: 40 :: 41 :: 41 :: 40 :: 41 :: 41 :: 40 :: l) = true := by kernel_rfl
theorem evTab_c281 : allR ok_Tab 6 2 7 (fun l => 40 :: 40 :: 40 :: 40 :: 41 :: 40 :: 41 :: 40 :: 40 :: 41 :: 41 :: 41 :: l) = true := by kernel_rfl
theorem evTab_c294 : allR ok_Tab 7 5 8 (fun l => 40 :: 40 :: 40 :: 40 :: 41 :: 40 :: 40 :: 41 :: 40 :: 41 :: 40 :: l) = true := by kernel_rfl
theorem evTab_c305 : allR ok_Tab 6 4 8 (fun l => 40 :: 40 :: 40 :: 40 :: 40 :: 41 :: 41 :: 41 :: 41 :: 40 :: 40 :: 40 :: l) = true := by kernel_rfl
theorem evTab_c313 : allR ok_Tab 6 0 6 (fun l => 40 :: 40 :: 40 :: 40 :: 40 :: 41 :: 41 :: 40 :: 41 :: 41 :: 41 :: 41 :: l) = true := by kernel_rfl
theorem evTab_c314 : allR ok_Tab 6 2 7 (fun l => 40 :: 40 :: 40 :: 40 :: 40 :: 41 :: 41 :: 40 :: 41 :: 41 :: 41 :: 40 :: l) = true := by kernel_rfl
theorem evTab_c327 : allR ok_Tab 6 4 8 (fun l => 40 :: 40 :: 40 :: 40 :: 40 :: 41 :: 40 :: 41 :: 41 :: 41 :: 40 :: 40 :: l) = true := by kernel_rfl
theorem evTab_c335 : allR ok_Tab 6 2 7 (fun l => 40 :: 40 :: 40 :: 40 :: 40 :: 41 :: 40 :: 40 :: 41 :: 41 :: 41 :: 41 :: l) = true := by kernel_rfl
theorem evTab_c348 : allR ok_Tab 6 4 8 (fun l => 40 :: 40 :: 40 :: 40 :: 40 :: 40 :: 41 :: 41 :: 40 :: 41 :: 41 :: 40 :: l) = true := by kernel_rfl
theorem evTab_c357 : allR ok_Tab 6 4 8 (fun l => 40 :: 40 :: 40 :: 40 :: 40 :: 40 :: 40 :: 41 :: 41 :: 41 :: 41 :: 40 :: l) = true := by kernel_rfl
end
end Go.AI.T
