/- The evaluation, part 1. -/
import Derived.Test.YtelijoecjhgleaaGreatDoorFnExecuteSameBad
import Derived.KernelRfl
set_option linter.unusedVariables false
set_option linter.unusedSimpArgs false
set_option maxRecDepth 100000
namespace Go.AI.T
open Go Go.RowKit Go.AI
noncomputable section
theorem e32 (B : Blk) : okS (ok_FnExecuteSame B) 8 32 = true := by kernel_rfl
theorem e33 (B : Blk) : okS (ok_FnExecuteSame B) 8 33 = true := by kernel_rfl
theorem e34 (B : Blk) : okS (ok_FnExecuteSame B) 8 34 = true := by kernel_rfl
theorem e35 (B : Blk) : okS (ok_FnExecuteSame B) 8 35 = true := by kernel_rfl
theorem e36 (B : Blk) : okS (ok_FnExecuteSame B) 8 36 = true := by kernel_rfl
theorem e37 (B : Blk) : okS (ok_FnExecuteSame B) 8 37 = true := by kernel_rfl
theorem e38 (B : Blk) : okS (ok_FnExecuteSame B) 8 38 = true := by kernel_rfl
theorem e39 (B : Blk) : okS (ok_FnExecuteSame B) 8 39 = true := by kernel_rfl
theorem e40 (B : Blk) : okS (ok_FnExecuteSame B) 8 40 = true := by kernel_rfl
theorem e41 (B : Blk) : okS (ok_FnExecuteSame B) 8 41 = true := by kernel_rfl
theorem e42 (B : Blk) : okS (ok_FnExecuteSame B) 8 42 = true := by kernel_rfl
theorem e43 (B : Blk) : okS (ok_FnExecuteSame B) 8 43 = true := by kernel_rfl
theorem e44 (B : Blk) : okS (ok_FnExecuteSame B) 8 44 = true := by kernel_rfl
theorem e45 (B : Blk) : okS (ok_FnExecuteSame B) 8 45 = true := by kernel_rfl
theorem e46 (B : Blk) : okS (ok_FnExecuteSame B) 8 46 = true := by kernel_rfl
theorem e47 (B : Blk) : okS (ok_FnExecuteSame B) 8 47 = true := by kernel_rfl
theorem e48 (B : Blk) : okS (ok_FnExecuteSame B) 8 48 = true := by kernel_rfl
theorem e49 (B : Blk) : okS (ok_FnExecuteSame B) 8 49 = true := by kernel_rfl
theorem e50 (B : Blk) : okS (ok_FnExecuteSame B) 8 50 = true := by kernel_rfl
theorem e51 (B : Blk) : okS (ok_FnExecuteSame B) 8 51 = true := by kernel_rfl
theorem e52 (B : Blk) : okS (ok_FnExecuteSame B) 8 52 = true := by kernel_rfl
theorem e53 (B : Blk) : okS (ok_FnExecuteSame B) 8 53 = true := by kernel_rfl
theorem e54 (B : Blk) : okS (ok_FnExecuteSame B) 8 54 = true := by kernel_rfl
theorem e55 (B : Blk) : okS (ok_FnExecuteSame B) 8 55 = true := by kernel_rfl
theorem e56 (B : Blk) : okS (ok_FnExecuteSame B) 8 56 = true := by kernel_rfl
theorem e57 (B : Blk) : okS (ok_FnExecuteSame B) 8 57 = true := by kernel_rfl
theorem e58 (B : Blk) : okS (ok_FnExecuteSame B) 8 58 = true := by kernel_rfl
theorem e59 (B : Blk) : okS (ok_FnExecuteSame B) 8 59 = true := by kernel_rfl
theorem e60 (B : Blk) : okS (ok_FnExecuteSame B) 8 60 = true := by kernel_rfl
theorem e61 (B : Blk) : okS (ok_FnExecuteSame B) 8 61 = true := by kernel_rfl
theorem e62 (B : Blk) : okS (ok_FnExecuteSame B) 8 62 = true := by kernel_rfl
theorem e63 (B : Blk) : okS (ok_FnExecuteSame B) 8 63 = true := by kernel_rfl
theorem e_1 (B : Blk) : okL (ok_FnExecuteSame B) 8 32 32 = true := (cc (e32 B) (cc (e33 B) (cc (e34 B) (cc (e35 B) (cc (e36 B) (cc (e37 B) (cc (e38 B) (cc (e39 B) (cc (e40 B) (cc (e41 B) (cc (e42 B) (cc (e43 B) (cc (e44 B) (cc (e45 B) (cc (e46 B) (cc (e47 B) (cc (e48 B) (cc (e49 B) (cc (e50 B) (cc (e51 B) (cc (e52 B) (cc (e53 B) (cc (e54 B) (cc (e55 B) (cc (e56 B) (cc (e57 B) (cc (e58 B) (cc (e59 B) (cc (e60 B) (cc (e61 B) (cc (e62 B) (cc (e63 B) rfl))))))))))))))))))))))))))))))))
end
end Go.AI.T
