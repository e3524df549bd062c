/- The evaluation, part 0. -/
import Derived.Test.YtelijoecjhgleaaGreatDoorFnExecuteSameBad
import Derived.KernelRfl
set_option linter.unusedVariables false
set_option linter.unusedSimpArgs false
set_option maxRecDepth 100000
namespace Go.AI.T
open Go Go.RowKit Go.AI
noncomputable section
theorem e0 (B : Blk) : okS (ok_FnExecuteSame B) 8 0 = true := by kernel_rfl
theorem e1 (B : Blk) : okS (ok_FnExecuteSame B) 8 1 = true := by kernel_rfl
theorem e2 (B : Blk) : okS (ok_FnExecuteSame B) 8 2 = true := by kernel_rfl
theorem e3 (B : Blk) : okS (ok_FnExecuteSame B) 8 3 = true := by kernel_rfl
theorem e4 (B : Blk) : okS (ok_FnExecuteSame B) 8 4 = true := by kernel_rfl
theorem e5 (B : Blk) : okS (ok_FnExecuteSame B) 8 5 = true := by kernel_rfl
theorem e6 (B : Blk) : okS (ok_FnExecuteSame B) 8 6 = true := by kernel_rfl
theorem e7 (B : Blk) : okS (ok_FnExecuteSame B) 8 7 = true := by kernel_rfl
theorem e8 (B : Blk) : okS (ok_FnExecuteSame B) 8 8 = true := by kernel_rfl
theorem e9 (B : Blk) : okS (ok_FnExecuteSame B) 8 9 = true := by kernel_rfl
theorem e10 (B : Blk) : okS (ok_FnExecuteSame B) 8 10 = true := by kernel_rfl
theorem e11 (B : Blk) : okS (ok_FnExecuteSame B) 8 11 = true := by kernel_rfl
theorem e12 (B : Blk) : okS (ok_FnExecuteSame B) 8 12 = true := by kernel_rfl
theorem e13 (B : Blk) : okS (ok_FnExecuteSame B) 8 13 = true := by kernel_rfl
theorem e14 (B : Blk) : okS (ok_FnExecuteSame B) 8 14 = true := by kernel_rfl
theorem e15 (B : Blk) : okS (ok_FnExecuteSame B) 8 15 = true := by kernel_rfl
theorem e16 (B : Blk) : okS (ok_FnExecuteSame B) 8 16 = true := by kernel_rfl
theorem e17 (B : Blk) : okS (ok_FnExecuteSame B) 8 17 = true := by kernel_rfl
theorem e18 (B : Blk) : okS (ok_FnExecuteSame B) 8 18 = true := by kernel_rfl
theorem e19 (B : Blk) : okS (ok_FnExecuteSame B) 8 19 = true := by kernel_rfl
theorem e20 (B : Blk) : okS (ok_FnExecuteSame B) 8 20 = true := by kernel_rfl
theorem e21 (B : Blk) : okS (ok_FnExecuteSame B) 8 21 = true := by kernel_rfl
theorem e22 (B : Blk) : okS (ok_FnExecuteSame B) 8 22 = true := by kernel_rfl
theorem e23 (B : Blk) : okS (ok_FnExecuteSame B) 8 23 = true := by kernel_rfl
theorem e24 (B : Blk) : okS (ok_FnExecuteSame B) 8 24 = true := by kernel_rfl
theorem e25 (B : Blk) : okS (ok_FnExecuteSame B) 8 25 = true := by kernel_rfl
theorem e26 (B : Blk) : okS (ok_FnExecuteSame B) 8 26 = true := by kernel_rfl
theorem e27 (B : Blk) : okS (ok_FnExecuteSame B) 8 27 = true := by kernel_rfl
theorem e28 (B : Blk) : okS (ok_FnExecuteSame B) 8 28 = true := by kernel_rfl
theorem e29 (B : Blk) : okS (ok_FnExecuteSame B) 8 29 = true := by kernel_rfl
theorem e30 (B : Blk) : okS (ok_FnExecuteSame B) 8 30 = true := by kernel_rfl
theorem e31 (B : Blk) : okS (ok_FnExecuteSame B) 8 31 = true := by kernel_rfl
theorem e_0 (B : Blk) : okL (ok_FnExecuteSame B) 8 0 32 = true := (cc (e0 B) (cc (e1 B) (cc (e2 B) (cc (e3 B) (cc (e4 B) (cc (e5 B) (cc (e6 B) (cc (e7 B) (cc (e8 B) (cc (e9 B) (cc (e10 B) (cc (e11 B) (cc (e12 B) (cc (e13 B) (cc (e14 B) (cc (e15 B) (cc (e16 B) (cc (e17 B) (cc (e18 B) (cc (e19 B) (cc (e20 B) (cc (e21 B) (cc (e22 B) (cc (e23 B) (cc (e24 B) (cc (e25 B) (cc (e26 B) (cc (e27 B) (cc (e28 B) (cc (e29 B) (cc (e30 B) (cc (e31 B) rfl))))))))))))))))))))))))))))))))
end
end Go.AI.T
