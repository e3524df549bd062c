/- The evaluation, part 2. -/
import Derived.Test.YtelijoecjhgleaaGreatDoorFnExecuteSameBad
import Derived.KernelRfl
set_option linter.unusedVariables false
set_option linter.unusedSimpArgs false
set_option maxRecDepth 100000
namespace Go.AI.T
open Go Go.RowKit Go.AI
noncomputable section
theorem e64 (B : Blk) : okS (ok_FnExecuteSame B) 8 64 = true := by kernel_rfl
theorem e65 (B : Blk) : okS (ok_FnExecuteSame B) 8 65 = true := by kernel_rfl
theorem e66 (B : Blk) : okS (ok_FnExecuteSame B) 8 66 = true := by kernel_rfl
theorem e67 (B : Blk) : okS (ok_FnExecuteSame B) 8 67 = true := by kernel_rfl
theorem e68 (B : Blk) : okS (ok_FnExecuteSame B) 8 68 = true := by kernel_rfl
theorem e69 (B : Blk) : okS (ok_FnExecuteSame B) 8 69 = true := by kernel_rfl
theorem e70 (B : Blk) : okS (ok_FnExecuteSame B) 8 70 = true := by kernel_rfl
theorem e71 (B : Blk) : okS (ok_FnExecuteSame B) 8 71 = true := by kernel_rfl
theorem e72 (B : Blk) : okS (ok_FnExecuteSame B) 8 72 = true := by kernel_rfl
theorem e73 (B : Blk) : okS (ok_FnExecuteSame B) 8 73 = true := by kernel_rfl
theorem e74 (B : Blk) : okS (ok_FnExecuteSame B) 8 74 = true := by kernel_rfl
theorem e75 (B : Blk) : okS (ok_FnExecuteSame B) 8 75 = true := by kernel_rfl
theorem e76 (B : Blk) : okS (ok_FnExecuteSame B) 8 76 = true := by kernel_rfl
theorem e77 (B : Blk) : okS (ok_FnExecuteSame B) 8 77 = true := by kernel_rfl
theorem e78 (B : Blk) : okS (ok_FnExecuteSame B) 8 78 = true := by kernel_rfl
theorem e79 (B : Blk) : okS (ok_FnExecuteSame B) 8 79 = true := by kernel_rfl
theorem e80 (B : Blk) : okS (ok_FnExecuteSame B) 8 80 = true := by kernel_rfl
theorem e81 (B : Blk) : okS (ok_FnExecuteSame B) 8 81 = true := by kernel_rfl
theorem e82 (B : Blk) : okS (ok_FnExecuteSame B) 8 82 = true := by kernel_rfl
theorem e83 (B : Blk) : okS (ok_FnExecuteSame B) 8 83 = true := by kernel_rfl
theorem e84 (B : Blk) : okS (ok_FnExecuteSame B) 8 84 = true := by kernel_rfl
theorem e85 (B : Blk) : okS (ok_FnExecuteSame B) 8 85 = true := by kernel_rfl
theorem e86 (B : Blk) : okS (ok_FnExecuteSame B) 8 86 = true := by kernel_rfl
theorem e87 (B : Blk) : okS (ok_FnExecuteSame B) 8 87 = true := by kernel_rfl
theorem e88 (B : Blk) : okS (ok_FnExecuteSame B) 8 88 = true := by kernel_rfl
theorem e89 (B : Blk) : okS (ok_FnExecuteSame B) 8 89 = true := by kernel_rfl
theorem e90 (B : Blk) : okS (ok_FnExecuteSame B) 8 90 = true := by kernel_rfl
theorem e91 (B : Blk) : okS (ok_FnExecuteSame B) 8 91 = true := by kernel_rfl
theorem e92 (B : Blk) : okS (ok_FnExecuteSame B) 8 92 = true := by kernel_rfl
theorem e93 (B : Blk) : okS (ok_FnExecuteSame B) 8 93 = true := by kernel_rfl
theorem e94 (B : Blk) : okS (ok_FnExecuteSame B) 8 94 = true := by kernel_rfl
theorem e95 (B : Blk) : okS (ok_FnExecuteSame B) 8 95 = true := by kernel_rfl
theorem e_2 (B : Blk) : okL (ok_FnExecuteSame B) 8 64 32 = true := (cc (e64 B) (cc (e65 B) (cc (e66 B) (cc (e67 B) (cc (e68 B) (cc (e69 B) (cc (e70 B) (cc (e71 B) (cc (e72 B) (cc (e73 B) (cc (e74 B) (cc (e75 B) (cc (e76 B) (cc (e77 B) (cc (e78 B) (cc (e79 B) (cc (e80 B) (cc (e81 B) (cc (e82 B) (cc (e83 B) (cc (e84 B) (cc (e85 B) (cc (e86 B) (cc (e87 B) (cc (e88 B) (cc (e89 B) (cc (e90 B) (cc (e91 B) (cc (e92 B) (cc (e93 B) (cc (e94 B) (cc (e95 B) rfl))))))))))))))))))))))))))))))))
end
end Go.AI.T
