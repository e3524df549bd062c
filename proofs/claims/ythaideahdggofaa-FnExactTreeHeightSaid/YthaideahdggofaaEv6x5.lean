/- The evaluation, part 5. -/
import Derived.Test.YthaideahdggofaaBadB
import Derived.KernelRfl
namespace Go.AI
open Go Go.RowKit
noncomputable section
set_option maxRecDepth 100000
theorem in6_c5 : allR ok6 7 1 6 (fun l => 40 :: 40 :: 41 :: 40 :: 41 :: 40 :: 41 :: 40 :: 41 :: 40 :: 41 :: l) = true := by kernel_rfl
theorem in6_c12 : allR ok6 7 3 7 (fun l => 40 :: 40 :: 41 :: 40 :: 41 :: 40 :: 40 :: 41 :: 41 :: 40 :: 40 :: l) = true := by kernel_rfl
theorem in6_c19 : allR ok6 8 4 7 (fun l => 40 :: 40 :: 41 :: 40 :: 41 :: 40 :: 40 :: 40 :: 40 :: 41 :: l) = true := by kernel_rfl
theorem in6_c31 : allR ok6 7 1 6 (fun l => 40 :: 40 :: 41 :: 40 :: 40 :: 41 :: 40 :: 41 :: 40 :: 41 :: 41 :: l) = true := by kernel_rfl
theorem in6_c35 : allR ok6 7 3 7 (fun l => 40 :: 40 :: 41 :: 40 :: 40 :: 41 :: 40 :: 40 :: 41 :: 41 :: 40 :: l) = true := by kernel_rfl
theorem in6_c42 : allR ok6 7 1 6 (fun l => 40 :: 40 :: 41 :: 40 :: 40 :: 40 :: 41 :: 41 :: 40 :: 41 :: 41 :: l) = true := by kernel_rfl
theorem in6_c45 : allR ok6 7 1 6 (fun l => 40 :: 40 :: 41 :: 40 :: 40 :: 40 :: 41 :: 40 :: 41 :: 41 :: 41 :: l) = true := by kernel_rfl
theorem in6_c50 : allR ok6 7 1 6 (fun l => 40 :: 40 :: 41 :: 40 :: 40 :: 40 :: 40 :: 41 :: 41 :: 41 :: 41 :: l) = true := by kernel_rfl
theorem in6_c54 : allR ok6 8 6 8 (fun l => 40 :: 40 :: 41 :: 40 :: 40 :: 40 :: 40 :: 41 :: 40 :: 40 :: l) = true := by kernel_rfl
theorem in6_c57 : allR ok6 9 7 8 (fun l => 40 :: 40 :: 41 :: 40 :: 40 :: 40 :: 40 :: 40 :: 40 :: l) = true := by kernel_rfl
theorem in6_c64 : allR ok6 7 3 7 (fun l => 40 :: 40 :: 40 :: 41 :: 41 :: 40 :: 41 :: 40 :: 40 :: 41 :: 40 :: l) = true := by kernel_rfl
theorem in6_c71 : allR ok6 8 4 7 (fun l => 40 :: 40 :: 40 :: 41 :: 41 :: 40 :: 40 :: 41 :: 40 :: 40 :: l) = true := by kernel_rfl
theorem in6_c82 : allR ok6 7 3 7 (fun l => 40 :: 40 :: 40 :: 41 :: 40 :: 41 :: 41 :: 40 :: 40 :: 41 :: 40 :: l) = true := by kernel_rfl
theorem in6_c89 : allR ok6 8 4 7 (fun l => 40 :: 40 :: 40 :: 41 :: 40 :: 41 :: 40 :: 41 :: 40 :: 40 :: l) = true := by kernel_rfl
theorem in6_c99 : allR ok6 7 3 7 (fun l => 40 :: 40 :: 40 :: 41 :: 40 :: 40 :: 41 :: 41 :: 40 :: 41 :: 40 :: l) = true := by kernel_rfl
theorem in6_c105 : allR ok6 8 6 8 (fun l => 40 :: 40 :: 40 :: 41 :: 40 :: 40 :: 41 :: 40 :: 40 :: 40 :: l) = true := by kernel_rfl
theorem in6_c107 : allR ok6 7 3 7 (fun l => 40 :: 40 :: 40 :: 41 :: 40 :: 40 :: 40 :: 41 :: 41 :: 41 :: 40 :: l) = true := by kernel_rfl
theorem in6_c114 : allR ok6 10 0 4 (fun l => 40 :: 40 :: 40 :: 40 :: 41 :: 41 :: 41 :: 41 :: l) = true := by kernel_rfl
theorem in6_c115 : allR ok6 8 0 5 (fun l => 40 :: 40 :: 40 :: 40 :: 41 :: 41 :: 41 :: 40 :: 41 :: 41 :: l) = true := by kernel_rfl
theorem in6_c116 : allR ok6 7 1 6 (fun l => 40 :: 40 :: 40 :: 40 :: 41 :: 41 :: 41 :: 40 :: 41 :: 40 :: 41 :: l) = true := by kernel_rfl
theorem in6_c121 : allR ok6 8 0 5 (fun l => 40 :: 40 :: 40 :: 40 :: 41 :: 41 :: 40 :: 41 :: 41 :: 41 :: l) = true := by kernel_rfl
theorem in6_c122 : allR ok6 7 1 6 (fun l => 40 :: 40 :: 40 :: 40 :: 41 :: 41 :: 40 :: 41 :: 41 :: 40 :: 41 :: l) = true := by kernel_rfl
theorem in6_c127 : allR ok6 7 1 6 (fun l => 40 :: 40 :: 40 :: 40 :: 41 :: 41 :: 40 :: 40 :: 41 :: 41 :: 41 :: l) = true := by kernel_rfl
theorem in6_c132 : allR ok6 8 0 5 (fun l => 40 :: 40 :: 40 :: 40 :: 41 :: 40 :: 41 :: 41 :: 41 :: 41 :: l) = true := by kernel_rfl
theorem in6_c133 : allR ok6 7 1 6 (fun l => 40 :: 40 :: 40 :: 40 :: 41 :: 40 :: 41 :: 41 :: 41 :: 40 :: 41 :: l) = true := by kernel_rfl
theorem in6_c137 : allR ok6 8 4 7 (fun l => 40 :: 40 :: 40 :: 40 :: 41 :: 40 :: 41 :: 41 :: 40 :: 40 :: l) = true := by kernel_rfl
theorem in6_c146 : allR ok6 8 4 7 (fun l => 40 :: 40 :: 40 :: 40 :: 41 :: 40 :: 40 :: 41 :: 40 :: 41 :: l) = true := by kernel_rfl
theorem in6_c155 : allR ok6 7 3 7 (fun l => 40 :: 40 :: 40 :: 40 :: 40 :: 41 :: 41 :: 41 :: 40 :: 41 :: 40 :: l) = true := by kernel_rfl
theorem in6_c162 : allR ok6 7 1 6 (fun l => 40 :: 40 :: 40 :: 40 :: 40 :: 41 :: 40 :: 41 :: 41 :: 41 :: 41 :: l) = true := by kernel_rfl
theorem in6_c166 : allR ok6 8 6 8 (fun l => 40 :: 40 :: 40 :: 40 :: 40 :: 41 :: 40 :: 41 :: 40 :: 40 :: l) = true := by kernel_rfl
theorem in6_c168 : allR ok6 8 6 8 (fun l => 40 :: 40 :: 40 :: 40 :: 40 :: 41 :: 40 :: 40 :: 41 :: 40 :: l) = true := by kernel_rfl
theorem in6_c171 : allR ok6 7 3 7 (fun l => 40 :: 40 :: 40 :: 40 :: 40 :: 40 :: 41 :: 41 :: 41 :: 41 :: 40 :: l) = true := by kernel_rfl
theorem in6_c178 : allR ok6 8 4 7 (fun l => 40 :: 40 :: 40 :: 40 :: 40 :: 40 :: 40 :: 41 :: 41 :: 41 :: l) = true := by kernel_rfl
end
end Go.AI
