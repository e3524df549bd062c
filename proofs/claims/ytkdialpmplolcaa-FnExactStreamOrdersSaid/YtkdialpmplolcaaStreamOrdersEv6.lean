/- The evaluation, part 6. -/
import Derived.Test.YtkdialpmplolcaaStreamOrdersBad
import Derived.KernelRfl
namespace Go.AI.T
open Go Go.RowKit Go.AI
set_option linter.unusedVariables false
set_option linter.unusedSimpArgs false
set_option maxRecDepth 100000
noncomputable section
theorem evStreamOrders_c6 : allR ok_StreamOrders 8 4 7 (fun l => 40 :: 40 :: 41 :: 40 :: 41 :: 40 :: 41 :: 40 :: 40 :: 40 :: l) = true := by kernel_rfl
theorem evStreamOrders_c24 : allR ok_StreamOrders 8 6 8 (fun l => 40 :: 40 :: 41 :: 40 :: 40 :: 41 :: 40 :: 40 :: 40 :: 40 :: l) = true := by kernel_rfl
theorem evStreamOrders_c43 : allR ok_StreamOrders 8 4 7 (fun l => 40 :: 40 :: 40 :: 41 :: 41 :: 40 :: 41 :: 40 :: 40 :: 40 :: l) = true := by kernel_rfl
theorem evStreamOrders_c60 : allR ok_StreamOrders 8 4 7 (fun l => 40 :: 40 :: 40 :: 41 :: 40 :: 41 :: 40 :: 40 :: 40 :: 41 :: l) = true := by kernel_rfl
theorem evStreamOrders_c78 : allR ok_StreamOrders 8 2 6 (fun l => 40 :: 40 :: 40 :: 40 :: 41 :: 41 :: 41 :: 40 :: 40 :: 41 :: l) = true := by kernel_rfl
theorem evStreamOrders_c98 : allR ok_StreamOrders 8 4 7 (fun l => 40 :: 40 :: 40 :: 40 :: 41 :: 40 :: 40 :: 40 :: 41 :: 41 :: l) = true := by kernel_rfl
theorem evStreamOrders_c122 : allR ok_StreamOrders 8 4 7 (fun l => 40 :: 40 :: 40 :: 40 :: 40 :: 40 :: 40 :: 41 :: 41 :: 41 :: l) = true := by kernel_rfl
end
end Go.AI.T
