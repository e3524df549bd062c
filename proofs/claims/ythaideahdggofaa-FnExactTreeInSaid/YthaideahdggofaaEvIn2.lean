/- The evaluation, part 2. -/
import Derived.Test.YthaideahdggofaaBadIn
import Derived.KernelRfl
namespace Go.AI
open Go Go.RowKit
noncomputable section
set_option maxRecDepth 100000
theorem in3_c2 : allR ok3 12 0 3 (fun l => 40 :: 40 :: 41 :: 40 :: 41 :: 41 :: l) = true := by kernel_rfl
theorem in3_c6 : allR ok3 8 4 7 (fun l => 40 :: 40 :: 41 :: 40 :: 41 :: 40 :: 41 :: 40 :: 40 :: 40 :: l) = true := by kernel_rfl
theorem in3_c8 : allR ok3 8 2 6 (fun l => 40 :: 40 :: 41 :: 40 :: 41 :: 40 :: 40 :: 41 :: 40 :: 41 :: l) = true := by kernel_rfl
theorem in3_c13 : allR ok3 10 0 4 (fun l => 40 :: 40 :: 41 :: 40 :: 40 :: 41 :: 41 :: 41 :: l) = true := by kernel_rfl
theorem in3_c14 : allR ok3 9 1 5 (fun l => 40 :: 40 :: 41 :: 40 :: 40 :: 41 :: 41 :: 40 :: 41 :: l) = true := by kernel_rfl
theorem in3_c19 : allR ok3 8 4 7 (fun l => 40 :: 40 :: 41 :: 40 :: 40 :: 41 :: 40 :: 41 :: 40 :: 40 :: l) = true := by kernel_rfl
theorem in3_c21 : allR ok3 8 4 7 (fun l => 40 :: 40 :: 41 :: 40 :: 40 :: 41 :: 40 :: 40 :: 41 :: 40 :: l) = true := by kernel_rfl
theorem in3_c25 : allR ok3 8 4 7 (fun l => 40 :: 40 :: 41 :: 40 :: 40 :: 40 :: 41 :: 41 :: 40 :: 40 :: l) = true := by kernel_rfl
theorem in3_c29 : allR ok3 8 2 6 (fun l => 40 :: 40 :: 41 :: 40 :: 40 :: 40 :: 40 :: 41 :: 41 :: 41 :: l) = true := by kernel_rfl
theorem in3_c33 : allR ok3 9 7 8 (fun l => 40 :: 40 :: 41 :: 40 :: 40 :: 40 :: 40 :: 40 :: 40 :: l) = true := by kernel_rfl
theorem in3_c37 : allR ok3 8 2 6 (fun l => 40 :: 40 :: 40 :: 41 :: 41 :: 40 :: 41 :: 40 :: 40 :: 41 :: l) = true := by kernel_rfl
theorem in3_c41 : allR ok3 8 4 7 (fun l => 40 :: 40 :: 40 :: 41 :: 41 :: 40 :: 40 :: 41 :: 40 :: 40 :: l) = true := by kernel_rfl
theorem in3_c44 : allR ok3 9 5 7 (fun l => 40 :: 40 :: 40 :: 41 :: 41 :: 40 :: 40 :: 40 :: 40 :: l) = true := by kernel_rfl
theorem in3_c49 : allR ok3 9 1 5 (fun l => 40 :: 40 :: 40 :: 41 :: 40 :: 41 :: 40 :: 41 :: 41 :: l) = true := by kernel_rfl
theorem in3_c55 : allR ok3 9 1 5 (fun l => 40 :: 40 :: 40 :: 41 :: 40 :: 40 :: 41 :: 41 :: 41 :: l) = true := by kernel_rfl
theorem in3_c58 : allR ok3 8 2 6 (fun l => 40 :: 40 :: 40 :: 41 :: 40 :: 40 :: 41 :: 40 :: 41 :: 41 :: l) = true := by kernel_rfl
theorem in3_c63 : allR ok3 9 5 7 (fun l => 40 :: 40 :: 40 :: 41 :: 40 :: 40 :: 40 :: 41 :: 40 :: l) = true := by kernel_rfl
theorem in3_c69 : allR ok3 8 4 7 (fun l => 40 :: 40 :: 40 :: 40 :: 41 :: 41 :: 41 :: 40 :: 40 :: 40 :: l) = true := by kernel_rfl
theorem in3_c73 : allR ok3 8 2 6 (fun l => 40 :: 40 :: 40 :: 40 :: 41 :: 41 :: 40 :: 40 :: 41 :: 41 :: l) = true := by kernel_rfl
theorem in3_c77 : allR ok3 8 2 6 (fun l => 40 :: 40 :: 40 :: 40 :: 41 :: 40 :: 41 :: 41 :: 40 :: 41 :: l) = true := by kernel_rfl
theorem in3_c81 : allR ok3 9 5 7 (fun l => 40 :: 40 :: 40 :: 40 :: 41 :: 40 :: 41 :: 40 :: 40 :: l) = true := by kernel_rfl
theorem in3_c85 : allR ok3 9 5 7 (fun l => 40 :: 40 :: 40 :: 40 :: 41 :: 40 :: 40 :: 40 :: 41 :: l) = true := by kernel_rfl
theorem in3_c90 : allR ok3 8 2 6 (fun l => 40 :: 40 :: 40 :: 40 :: 40 :: 41 :: 41 :: 40 :: 41 :: 41 :: l) = true := by kernel_rfl
theorem in3_c94 : allR ok3 8 4 7 (fun l => 40 :: 40 :: 40 :: 40 :: 40 :: 41 :: 40 :: 41 :: 41 :: 40 :: l) = true := by kernel_rfl
theorem in3_c98 : allR ok3 8 2 6 (fun l => 40 :: 40 :: 40 :: 40 :: 40 :: 40 :: 41 :: 41 :: 41 :: 41 :: l) = true := by kernel_rfl
theorem in3_c103 : allR ok3 9 5 7 (fun l => 40 :: 40 :: 40 :: 40 :: 40 :: 40 :: 40 :: 41 :: 41 :: l) = true := by kernel_rfl
end
end Go.AI
