/- The evaluation, part 5. -/
import Derived.Test.YtelijoecjhgleaaGreatDoorFnExecuteSameBad
import Derived.KernelRfl
set_option linter.unusedVariables false
set_option linter.unusedSimpArgs false
set_option maxRecDepth 100000
namespace Go.AI.T
open Go Go.RowKit Go.AI
noncomputable section
theorem e160 (B : Blk) : okS (ok_FnExecuteSame B) 8 160 = true := by kernel_rfl
theorem e161 (B : Blk) : okS (ok_FnExecuteSame B) 8 161 = true := by kernel_rfl
theorem e162 (B : Blk) : okS (ok_FnExecuteSame B) 8 162 = true := by kernel_rfl
theorem e163 (B : Blk) : okS (ok_FnExecuteSame B) 8 163 = true := by kernel_rfl
theorem e164 (B : Blk) : okS (ok_FnExecuteSame B) 8 164 = true := by kernel_rfl
theorem e165 (B : Blk) : okS (ok_FnExecuteSame B) 8 165 = true := by kernel_rfl
theorem e166 (B : Blk) : okS (ok_FnExecuteSame B) 8 166 = true := by kernel_rfl
theorem e167 (B : Blk) : okS (ok_FnExecuteSame B) 8 167 = true := by kernel_rfl
theorem e168 (B : Blk) : okS (ok_FnExecuteSame B) 8 168 = true := by kernel_rfl
theorem e169 (B : Blk) : okS (ok_FnExecuteSame B) 8 169 = true := by kernel_rfl
theorem e170 (B : Blk) : okS (ok_FnExecuteSame B) 8 170 = true := by kernel_rfl
theorem e171 (B : Blk) : okS (ok_FnExecuteSame B) 8 171 = true := by kernel_rfl
theorem e172 (B : Blk) : okS (ok_FnExecuteSame B) 8 172 = true := by kernel_rfl
theorem e173 (B : Blk) : okS (ok_FnExecuteSame B) 8 173 = true := by kernel_rfl
theorem e174 (B : Blk) : okS (ok_FnExecuteSame B) 8 174 = true := by kernel_rfl
theorem e175 (B : Blk) : okS (ok_FnExecuteSame B) 8 175 = true := by kernel_rfl
theorem e176 (B : Blk) : okS (ok_FnExecuteSame B) 8 176 = true := by kernel_rfl
theorem e177 (B : Blk) : okS (ok_FnExecuteSame B) 8 177 = true := by kernel_rfl
theorem e178 (B : Blk) : okS (ok_FnExecuteSame B) 8 178 = true := by kernel_rfl
theorem e179 (B : Blk) : okS (ok_FnExecuteSame B) 8 179 = true := by kernel_rfl
theorem e180 (B : Blk) : okS (ok_FnExecuteSame B) 8 180 = true := by kernel_rfl
theorem e181 (B : Blk) : okS (ok_FnExecuteSame B) 8 181 = true := by kernel_rfl
theorem e182 (B : Blk) : okS (ok_FnExecuteSame B) 8 182 = true := by kernel_rfl
theorem e183 (B : Blk) : okS (ok_FnExecuteSame B) 8 183 = true := by kernel_rfl
theorem e184 (B : Blk) : okS (ok_FnExecuteSame B) 8 184 = true := by kernel_rfl
theorem e185 (B : Blk) : okS (ok_FnExecuteSame B) 8 185 = true := by kernel_rfl
theorem e186 (B : Blk) : okS (ok_FnExecuteSame B) 8 186 = true := by kernel_rfl
theorem e187 (B : Blk) : okS (ok_FnExecuteSame B) 8 187 = true := by kernel_rfl
theorem e188 (B : Blk) : okS (ok_FnExecuteSame B) 8 188 = true := by kernel_rfl
theorem e189 (B : Blk) : okS (ok_FnExecuteSame B) 8 189 = true := by kernel_rfl
theorem e190 (B : Blk) : okS (ok_FnExecuteSame B) 8 190 = true := by kernel_rfl
theorem e191 (B : Blk) : okS (ok_FnExecuteSame B) 8 191 = true := by kernel_rfl
theorem e_5 (B : Blk) : okL (ok_FnExecuteSame B) 8 160 32 = true := (cc (e160 B) (cc (e161 B) (cc (e162 B) (cc (e163 B) (cc (e164 B) (cc (e165 B) (cc (e166 B) (cc (e167 B) (cc (e168 B) (cc (e169 B) (cc (e170 B) (cc (e171 B) (cc (e172 B) (cc (e173 B) (cc (e174 B) (cc (e175 B) (cc (e176 B) (cc (e177 B) (cc (e178 B) (cc (e179 B) (cc (e180 B) (cc (e181 B) (cc (e182 B) (cc (e183 B) (cc (e184 B) (cc (e185 B) (cc (e186 B) (cc (e187 B) (cc (e188 B) (cc (e189 B) (cc (e190 B) (cc (e191 B) rfl))))))))))))))))))))))))))))))))
end
end Go.AI.T
