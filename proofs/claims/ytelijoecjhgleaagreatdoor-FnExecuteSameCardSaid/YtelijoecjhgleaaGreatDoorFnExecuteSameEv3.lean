/- The evaluation, part 3. -/
import Derived.Test.YtelijoecjhgleaaGreatDoorFnExecuteSameBad
import Derived.KernelRfl
set_option linter.unusedVariables false
set_option linter.unusedSimpArgs false
set_option maxRecDepth 100000
namespace Go.AI.T
open Go Go.RowKit Go.AI
noncomputable section
theorem e96 (B : Blk) : okS (ok_FnExecuteSame B) 8 96 = true := by kernel_rfl
theorem e97 (B : Blk) : okS (ok_FnExecuteSame B) 8 97 = true := by kernel_rfl
theorem e98 (B : Blk) : okS (ok_FnExecuteSame B) 8 98 = true := by kernel_rfl
theorem e99 (B : Blk) : okS (ok_FnExecuteSame B) 8 99 = true := by kernel_rfl
theorem e100 (B : Blk) : okS (ok_FnExecuteSame B) 8 100 = true := by kernel_rfl
theorem e101 (B : Blk) : okS (ok_FnExecuteSame B) 8 101 = true := by kernel_rfl
theorem e102 (B : Blk) : okS (ok_FnExecuteSame B) 8 102 = true := by kernel_rfl
theorem e103 (B : Blk) : okS (ok_FnExecuteSame B) 8 103 = true := by kernel_rfl
theorem e104 (B : Blk) : okS (ok_FnExecuteSame B) 8 104 = true := by kernel_rfl
theorem e105 (B : Blk) : okS (ok_FnExecuteSame B) 8 105 = true := by kernel_rfl
theorem e106 (B : Blk) : okS (ok_FnExecuteSame B) 8 106 = true := by kernel_rfl
theorem e107 (B : Blk) : okS (ok_FnExecuteSame B) 8 107 = true := by kernel_rfl
theorem e108 (B : Blk) : okS (ok_FnExecuteSame B) 8 108 = true := by kernel_rfl
theorem e109 (B : Blk) : okS (ok_FnExecuteSame B) 8 109 = true := by kernel_rfl
theorem e110 (B : Blk) : okS (ok_FnExecuteSame B) 8 110 = true := by kernel_rfl
theorem e111 (B : Blk) : okS (ok_FnExecuteSame B) 8 111 = true := by kernel_rfl
theorem e112 (B : Blk) : okS (ok_FnExecuteSame B) 8 112 = true := by kernel_rfl
theorem e113 (B : Blk) : okS (ok_FnExecuteSame B) 8 113 = true := by kernel_rfl
theorem e114 (B : Blk) : okS (ok_FnExecuteSame B) 8 114 = true := by kernel_rfl
theorem e115 (B : Blk) : okS (ok_FnExecuteSame B) 8 115 = true := by kernel_rfl
theorem e116 (B : Blk) : okS (ok_FnExecuteSame B) 8 116 = true := by kernel_rfl
theorem e117 (B : Blk) : okS (ok_FnExecuteSame B) 8 117 = true := by kernel_rfl
theorem e118 (B : Blk) : okS (ok_FnExecuteSame B) 8 118 = true := by kernel_rfl
theorem e119 (B : Blk) : okS (ok_FnExecuteSame B) 8 119 = true := by kernel_rfl
theorem e120 (B : Blk) : okS (ok_FnExecuteSame B) 8 120 = true := by kernel_rfl
theorem e121 (B : Blk) : okS (ok_FnExecuteSame B) 8 121 = true := by kernel_rfl
theorem e122 (B : Blk) : okS (ok_FnExecuteSame B) 8 122 = true := by kernel_rfl
theorem e123 (B : Blk) : okS (ok_FnExecuteSame B) 8 123 = true := by kernel_rfl
theorem e124 (B : Blk) : okS (ok_FnExecuteSame B) 8 124 = true := by kernel_rfl
theorem e125 (B : Blk) : okS (ok_FnExecuteSame B) 8 125 = true := by kernel_rfl
theorem e126 (B : Blk) : okS (ok_FnExecuteSame B) 8 126 = true := by kernel_rfl
theorem e127 (B : Blk) : okS (ok_FnExecuteSame B) 8 127 = true := by kernel_rfl
theorem e_3 (B : Blk) : okL (ok_FnExecuteSame B) 8 96 32 = true := (cc (e96 B) (cc (e97 B) (cc (e98 B) (cc (e99 B) (cc (e100 B) (cc (e101 B) (cc (e102 B) (cc (e103 B) (cc (e104 B) (cc (e105 B) (cc (e106 B) (cc (e107 B) (cc (e108 B) (cc (e109 B) (cc (e110 B) (cc (e111 B) (cc (e112 B) (cc (e113 B) (cc (e114 B) (cc (e115 B) (cc (e116 B) (cc (e117 B) (cc (e118 B) (cc (e119 B) (cc (e120 B) (cc (e121 B) (cc (e122 B) (cc (e123 B) (cc (e124 B) (cc (e125 B) (cc (e126 B) (cc (e127 B) rfl))))))))))))))))))))))))))))))))
end
end Go.AI.T
