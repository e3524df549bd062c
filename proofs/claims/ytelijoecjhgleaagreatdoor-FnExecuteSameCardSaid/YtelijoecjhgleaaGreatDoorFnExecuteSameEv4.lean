/- The evaluation, part 4. -/
import Derived.Test.YtelijoecjhgleaaGreatDoorFnExecuteSameBad
import Derived.KernelRfl
set_option linter.unusedVariables false
set_option linter.unusedSimpArgs false
set_option maxRecDepth 100000
namespace Go.AI.T
open Go Go.RowKit Go.AI
noncomputable section
theorem e128 (B : Blk) : okS (ok_FnExecuteSame B) 8 128 = true := by kernel_rfl
theorem e129 (B : Blk) : okS (ok_FnExecuteSame B) 8 129 = true := by kernel_rfl
theorem e130 (B : Blk) : okS (ok_FnExecuteSame B) 8 130 = true := by kernel_rfl
theorem e131 (B : Blk) : okS (ok_FnExecuteSame B) 8 131 = true := by kernel_rfl
theorem e132 (B : Blk) : okS (ok_FnExecuteSame B) 8 132 = true := by kernel_rfl
theorem e133 (B : Blk) : okS (ok_FnExecuteSame B) 8 133 = true := by kernel_rfl
theorem e134 (B : Blk) : okS (ok_FnExecuteSame B) 8 134 = true := by kernel_rfl
theorem e135 (B : Blk) : okS (ok_FnExecuteSame B) 8 135 = true := by kernel_rfl
theorem e136 (B : Blk) : okS (ok_FnExecuteSame B) 8 136 = true := by kernel_rfl
theorem e137 (B : Blk) : okS (ok_FnExecuteSame B) 8 137 = true := by kernel_rfl
theorem e138 (B : Blk) : okS (ok_FnExecuteSame B) 8 138 = true := by kernel_rfl
theorem e139 (B : Blk) : okS (ok_FnExecuteSame B) 8 139 = true := by kernel_rfl
theorem e140 (B : Blk) : okS (ok_FnExecuteSame B) 8 140 = true := by kernel_rfl
theorem e141 (B : Blk) : okS (ok_FnExecuteSame B) 8 141 = true := by kernel_rfl
theorem e142 (B : Blk) : okS (ok_FnExecuteSame B) 8 142 = true := by kernel_rfl
theorem e143 (B : Blk) : okS (ok_FnExecuteSame B) 8 143 = true := by kernel_rfl
theorem e144 (B : Blk) : okS (ok_FnExecuteSame B) 8 144 = true := by kernel_rfl
theorem e145 (B : Blk) : okS (ok_FnExecuteSame B) 8 145 = true := by kernel_rfl
theorem e146 (B : Blk) : okS (ok_FnExecuteSame B) 8 146 = true := by kernel_rfl
theorem e147 (B : Blk) : okS (ok_FnExecuteSame B) 8 147 = true := by kernel_rfl
theorem e148 (B : Blk) : okS (ok_FnExecuteSame B) 8 148 = true := by kernel_rfl
theorem e149 (B : Blk) : okS (ok_FnExecuteSame B) 8 149 = true := by kernel_rfl
theorem e150 (B : Blk) : okS (ok_FnExecuteSame B) 8 150 = true := by kernel_rfl
theorem e151 (B : Blk) : okS (ok_FnExecuteSame B) 8 151 = true := by kernel_rfl
theorem e152 (B : Blk) : okS (ok_FnExecuteSame B) 8 152 = true := by kernel_rfl
theorem e153 (B : Blk) : okS (ok_FnExecuteSame B) 8 153 = true := by kernel_rfl
theorem e154 (B : Blk) : okS (ok_FnExecuteSame B) 8 154 = true := by kernel_rfl
theorem e155 (B : Blk) : okS (ok_FnExecuteSame B) 8 155 = true := by kernel_rfl
theorem e156 (B : Blk) : okS (ok_FnExecuteSame B) 8 156 = true := by kernel_rfl
theorem e157 (B : Blk) : okS (ok_FnExecuteSame B) 8 157 = true := by kernel_rfl
theorem e158 (B : Blk) : okS (ok_FnExecuteSame B) 8 158 = true := by kernel_rfl
theorem e159 (B : Blk) : okS (ok_FnExecuteSame B) 8 159 = true := by kernel_rfl
theorem e_4 (B : Blk) : okL (ok_FnExecuteSame B) 8 128 32 = true := (cc (e128 B) (cc (e129 B) (cc (e130 B) (cc (e131 B) (cc (e132 B) (cc (e133 B) (cc (e134 B) (cc (e135 B) (cc (e136 B) (cc (e137 B) (cc (e138 B) (cc (e139 B) (cc (e140 B) (cc (e141 B) (cc (e142 B) (cc (e143 B) (cc (e144 B) (cc (e145 B) (cc (e146 B) (cc (e147 B) (cc (e148 B) (cc (e149 B) (cc (e150 B) (cc (e151 B) (cc (e152 B) (cc (e153 B) (cc (e154 B) (cc (e155 B) (cc (e156 B) (cc (e157 B) (cc (e158 B) (cc (e159 B) rfl))))))))))))))))))))))))))))))))
end
end Go.AI.T
