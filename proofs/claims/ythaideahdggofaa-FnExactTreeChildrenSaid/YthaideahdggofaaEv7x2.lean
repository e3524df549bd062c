/- The evaluation, part 2. -/
import Derived.Test.YthaideahdggofaaBadB
import Derived.KernelRfl
namespace Go.AI
open Go Go.RowKit
noncomputable section
set_option maxRecDepth 100000
theorem in7_c2 : allR ok7 12 0 3 (fun l => 40 :: 40 :: 41 :: 40 :: 41 :: 41 :: l) = true := by kernel_rfl
theorem in7_c8 : allR ok7 7 1 6 (fun l => 40 :: 40 :: 41 :: 40 :: 41 :: 40 :: 41 :: 40 :: 40 :: 41 :: 41 :: l) = true := by kernel_rfl
theorem in7_c16 : allR ok7 6 2 7 (fun l => 40 :: 40 :: 41 :: 40 :: 41 :: 40 :: 40 :: 41 :: 41 :: 40 :: 40 :: 41 :: l) = true := by kernel_rfl
theorem in7_c22 : allR ok7 6 4 8 (fun l => 40 :: 40 :: 41 :: 40 :: 41 :: 40 :: 40 :: 41 :: 40 :: 40 :: 41 :: 40 :: l) = true := by kernel_rfl
theorem in7_c27 : allR ok7 6 2 7 (fun l => 40 :: 40 :: 41 :: 40 :: 41 :: 40 :: 40 :: 40 :: 41 :: 40 :: 41 :: 41 :: l) = true := by kernel_rfl
theorem in7_c35 : allR ok7 8 0 5 (fun l => 40 :: 40 :: 41 :: 40 :: 40 :: 41 :: 41 :: 40 :: 41 :: 41 :: l) = true := by kernel_rfl
theorem in7_c37 : allR ok7 6 2 7 (fun l => 40 :: 40 :: 41 :: 40 :: 40 :: 41 :: 41 :: 40 :: 41 :: 40 :: 40 :: 41 :: l) = true := by kernel_rfl
theorem in7_c43 : allR ok7 6 4 8 (fun l => 40 :: 40 :: 41 :: 40 :: 40 :: 41 :: 41 :: 40 :: 40 :: 40 :: 41 :: 40 :: l) = true := by kernel_rfl
theorem in7_c49 : allR ok7 7 1 6 (fun l => 40 :: 40 :: 41 :: 40 :: 40 :: 41 :: 40 :: 41 :: 40 :: 41 :: 41 :: l) = true := by kernel_rfl
theorem in7_c56 : allR ok7 6 2 7 (fun l => 40 :: 40 :: 41 :: 40 :: 40 :: 41 :: 40 :: 40 :: 41 :: 41 :: 40 :: 41 :: l) = true := by kernel_rfl
theorem in7_c64 : allR ok7 8 6 8 (fun l => 40 :: 40 :: 41 :: 40 :: 40 :: 41 :: 40 :: 40 :: 40 :: 40 :: l) = true := by kernel_rfl
theorem in7_c71 : allR ok7 6 4 8 (fun l => 40 :: 40 :: 41 :: 40 :: 40 :: 40 :: 41 :: 41 :: 40 :: 41 :: 40 :: 40 :: l) = true := by kernel_rfl
theorem in7_c75 : allR ok7 7 1 6 (fun l => 40 :: 40 :: 41 :: 40 :: 40 :: 40 :: 41 :: 40 :: 41 :: 41 :: 41 :: l) = true := by kernel_rfl
theorem in7_c82 : allR ok7 6 4 8 (fun l => 40 :: 40 :: 41 :: 40 :: 40 :: 40 :: 41 :: 40 :: 40 :: 41 :: 41 :: 40 :: l) = true := by kernel_rfl
theorem in7_c87 : allR ok7 6 4 8 (fun l => 40 :: 40 :: 41 :: 40 :: 40 :: 40 :: 40 :: 41 :: 41 :: 41 :: 40 :: 40 :: l) = true := by kernel_rfl
theorem in7_c92 : allR ok7 6 4 8 (fun l => 40 :: 40 :: 41 :: 40 :: 40 :: 40 :: 40 :: 41 :: 40 :: 41 :: 41 :: 40 :: l) = true := by kernel_rfl
theorem in7_c97 : allR ok7 7 5 8 (fun l => 40 :: 40 :: 41 :: 40 :: 40 :: 40 :: 40 :: 40 :: 41 :: 41 :: 40 :: l) = true := by kernel_rfl
theorem in7_c105 : allR ok7 6 4 8 (fun l => 40 :: 40 :: 40 :: 41 :: 41 :: 40 :: 41 :: 40 :: 41 :: 40 :: 40 :: 40 :: l) = true := by kernel_rfl
theorem in7_c109 : allR ok7 6 2 7 (fun l => 40 :: 40 :: 40 :: 41 :: 41 :: 40 :: 41 :: 40 :: 40 :: 40 :: 41 :: 41 :: l) = true := by kernel_rfl
theorem in7_c117 : allR ok7 6 2 7 (fun l => 40 :: 40 :: 40 :: 41 :: 41 :: 40 :: 40 :: 41 :: 40 :: 41 :: 40 :: 41 :: l) = true := by kernel_rfl
theorem in7_c123 : allR ok7 6 2 7 (fun l => 40 :: 40 :: 40 :: 41 :: 41 :: 40 :: 40 :: 40 :: 41 :: 41 :: 40 :: 41 :: l) = true := by kernel_rfl
theorem in7_c131 : allR ok7 8 6 8 (fun l => 40 :: 40 :: 40 :: 41 :: 41 :: 40 :: 40 :: 40 :: 40 :: 40 :: l) = true := by kernel_rfl
theorem in7_c139 : allR ok7 6 4 8 (fun l => 40 :: 40 :: 40 :: 41 :: 40 :: 41 :: 41 :: 40 :: 40 :: 41 :: 40 :: 40 :: l) = true := by kernel_rfl
theorem in7_c143 : allR ok7 8 0 5 (fun l => 40 :: 40 :: 40 :: 41 :: 40 :: 41 :: 40 :: 41 :: 41 :: 41 :: l) = true := by kernel_rfl
theorem in7_c144 : allR ok7 7 1 6 (fun l => 40 :: 40 :: 40 :: 41 :: 40 :: 41 :: 40 :: 41 :: 41 :: 40 :: 41 :: l) = true := by kernel_rfl
theorem in7_c152 : allR ok7 7 5 8 (fun l => 40 :: 40 :: 40 :: 41 :: 40 :: 41 :: 40 :: 41 :: 40 :: 40 :: 40 :: l) = true := by kernel_rfl
theorem in7_c158 : allR ok7 7 5 8 (fun l => 40 :: 40 :: 40 :: 41 :: 40 :: 41 :: 40 :: 40 :: 41 :: 40 :: 40 :: l) = true := by kernel_rfl
theorem in7_c163 : allR ok7 8 0 5 (fun l => 40 :: 40 :: 40 :: 41 :: 40 :: 40 :: 41 :: 41 :: 41 :: 41 :: l) = true := by kernel_rfl
theorem in7_c165 : allR ok7 6 2 7 (fun l => 40 :: 40 :: 40 :: 41 :: 40 :: 40 :: 41 :: 41 :: 41 :: 40 :: 40 :: 41 :: l) = true := by kernel_rfl
theorem in7_c171 : allR ok7 6 4 8 (fun l => 40 :: 40 :: 40 :: 41 :: 40 :: 40 :: 41 :: 41 :: 40 :: 40 :: 41 :: 40 :: l) = true := by kernel_rfl
theorem in7_c176 : allR ok7 6 2 7 (fun l => 40 :: 40 :: 40 :: 41 :: 40 :: 40 :: 41 :: 40 :: 41 :: 40 :: 41 :: 41 :: l) = true := by kernel_rfl
theorem in7_c184 : allR ok7 6 2 7 (fun l => 40 :: 40 :: 40 :: 41 :: 40 :: 40 :: 40 :: 41 :: 41 :: 41 :: 40 :: 41 :: l) = true := by kernel_rfl
theorem in7_c189 : allR ok7 6 2 7 (fun l => 40 :: 40 :: 40 :: 41 :: 40 :: 40 :: 40 :: 41 :: 40 :: 41 :: 41 :: 41 :: l) = true := by kernel_rfl
theorem in7_c197 : allR ok7 9 7 8 (fun l => 40 :: 40 :: 40 :: 41 :: 40 :: 40 :: 40 :: 40 :: 40 :: l) = true := by kernel_rfl
theorem in7_c205 : allR ok7 6 4 8 (fun l => 40 :: 40 :: 40 :: 40 :: 41 :: 41 :: 41 :: 40 :: 40 :: 41 :: 40 :: 40 :: l) = true := by kernel_rfl
theorem in7_c210 : allR ok7 7 1 6 (fun l => 40 :: 40 :: 40 :: 40 :: 41 :: 41 :: 40 :: 41 :: 41 :: 40 :: 41 :: l) = true := by kernel_rfl
theorem in7_c219 : allR ok7 7 1 6 (fun l => 40 :: 40 :: 40 :: 40 :: 41 :: 41 :: 40 :: 40 :: 41 :: 41 :: 41 :: l) = true := by kernel_rfl
theorem in7_c226 : allR ok7 6 4 8 (fun l => 40 :: 40 :: 40 :: 40 :: 41 :: 41 :: 40 :: 40 :: 40 :: 41 :: 41 :: 40 :: l) = true := by kernel_rfl
theorem in7_c232 : allR ok7 6 4 8 (fun l => 40 :: 40 :: 40 :: 40 :: 41 :: 40 :: 41 :: 41 :: 41 :: 40 :: 40 :: 40 :: l) = true := by kernel_rfl
theorem in7_c236 : allR ok7 6 2 7 (fun l => 40 :: 40 :: 40 :: 40 :: 41 :: 40 :: 41 :: 41 :: 40 :: 40 :: 41 :: 41 :: l) = true := by kernel_rfl
theorem in7_c243 : allR ok7 6 4 8 (fun l => 40 :: 40 :: 40 :: 40 :: 41 :: 40 :: 41 :: 40 :: 41 :: 40 :: 41 :: 40 :: l) = true := by kernel_rfl
theorem in7_c248 : allR ok7 8 6 8 (fun l => 40 :: 40 :: 40 :: 40 :: 41 :: 40 :: 41 :: 40 :: 40 :: 40 :: l) = true := by kernel_rfl
theorem in7_c254 : allR ok7 7 5 8 (fun l => 40 :: 40 :: 40 :: 40 :: 41 :: 40 :: 40 :: 41 :: 41 :: 40 :: 40 :: l) = true := by kernel_rfl
theorem in7_c259 : allR ok7 6 2 7 (fun l => 40 :: 40 :: 40 :: 40 :: 41 :: 40 :: 40 :: 40 :: 41 :: 41 :: 41 :: 41 :: l) = true := by kernel_rfl
theorem in7_c268 : allR ok7 7 1 6 (fun l => 40 :: 40 :: 40 :: 40 :: 40 :: 41 :: 41 :: 41 :: 40 :: 41 :: 41 :: l) = true := by kernel_rfl
theorem in7_c274 : allR ok7 7 1 6 (fun l => 40 :: 40 :: 40 :: 40 :: 40 :: 41 :: 41 :: 40 :: 41 :: 41 :: 41 :: l) = true := by kernel_rfl
theorem in7_c283 : allR ok7 8 6 8 (fun l => 40 :: 40 :: 40 :: 40 :: 40 :: 41 :: 41 :: 40 :: 40 :: 40 :: l) = true := by kernel_rfl
theorem in7_c289 : allR ok7 7 5 8 (fun l => 40 :: 40 :: 40 :: 40 :: 40 :: 41 :: 40 :: 41 :: 41 :: 40 :: 40 :: l) = true := by kernel_rfl
theorem in7_c294 : allR ok7 6 2 7 (fun l => 40 :: 40 :: 40 :: 40 :: 40 :: 41 :: 40 :: 40 :: 41 :: 41 :: 41 :: 41 :: l) = true := by kernel_rfl
theorem in7_c302 : allR ok7 6 2 7 (fun l => 40 :: 40 :: 40 :: 40 :: 40 :: 40 :: 41 :: 41 :: 41 :: 40 :: 41 :: 41 :: l) = true := by kernel_rfl
theorem in7_c309 : allR ok7 6 2 7 (fun l => 40 :: 40 :: 40 :: 40 :: 40 :: 40 :: 41 :: 40 :: 41 :: 41 :: 41 :: 41 :: l) = true := by kernel_rfl
theorem in7_c316 : allR ok7 7 5 8 (fun l => 40 :: 40 :: 40 :: 40 :: 40 :: 40 :: 40 :: 41 :: 41 :: 41 :: 40 :: l) = true := by kernel_rfl
end
end Go.AI
