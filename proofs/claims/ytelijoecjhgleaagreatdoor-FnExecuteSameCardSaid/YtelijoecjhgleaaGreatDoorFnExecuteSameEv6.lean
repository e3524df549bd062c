/- The evaluation, part 6. -/
import Derived.Test.YtelijoecjhgleaaGreatDoorFnExecuteSameBad
import Derived.KernelRfl
set_option linter.unusedVariables false
set_option linter.unusedSimpArgs false
set_option maxRecDepth 100000
namespace Go.AI.T
open Go Go.RowKit Go.AI
noncomputable section
theorem e192 (B : Blk) : okS (ok_FnExecuteSame B) 8 192 = true := by kernel_rfl
theorem e193 (B : Blk) : okS (ok_FnExecuteSame B) 8 193 = true := by kernel_rfl
theorem e194 (B : Blk) : okS (ok_FnExecuteSame B) 8 194 = true := by kernel_rfl
theorem e195 (B : Blk) : okS (ok_FnExecuteSame B) 8 195 = true := by kernel_rfl
theorem e196 (B : Blk) : okS (ok_FnExecuteSame B) 8 196 = true := by kernel_rfl
theorem e197 (B : Blk) : okS (ok_FnExecuteSame B) 8 197 = true := by kernel_rfl
theorem e198 (B : Blk) : okS (ok_FnExecuteSame B) 8 198 = true := by kernel_rfl
theorem e199 (B : Blk) : okS (ok_FnExecuteSame B) 8 199 = true := by kernel_rfl
theorem e200 (B : Blk) : okS (ok_FnExecuteSame B) 8 200 = true := by kernel_rfl
theorem e201 (B : Blk) : okS (ok_FnExecuteSame B) 8 201 = true := by kernel_rfl
theorem e202 (B : Blk) : okS (ok_FnExecuteSame B) 8 202 = true := by kernel_rfl
theorem e203 (B : Blk) : okS (ok_FnExecuteSame B) 8 203 = true := by kernel_rfl
theorem e204 (B : Blk) : okS (ok_FnExecuteSame B) 8 204 = true := by kernel_rfl
theorem e205 (B : Blk) : okS (ok_FnExecuteSame B) 8 205 = true := by kernel_rfl
theorem e206 (B : Blk) : okS (ok_FnExecuteSame B) 8 206 = true := by kernel_rfl
theorem e207 (B : Blk) : okS (ok_FnExecuteSame B) 8 207 = true := by kernel_rfl
theorem e208 (B : Blk) : okS (ok_FnExecuteSame B) 8 208 = true := by kernel_rfl
theorem e209 (B : Blk) : okS (ok_FnExecuteSame B) 8 209 = true := by kernel_rfl
theorem e210 (B : Blk) : okS (ok_FnExecuteSame B) 8 210 = true := by kernel_rfl
theorem e211 (B : Blk) : okS (ok_FnExecuteSame B) 8 211 = true := by kernel_rfl
theorem e212 (B : Blk) : okS (ok_FnExecuteSame B) 8 212 = true := by kernel_rfl
theorem e213 (B : Blk) : okS (ok_FnExecuteSame B) 8 213 = true := by kernel_rfl
theorem e214 (B : Blk) : okS (ok_FnExecuteSame B) 8 214 = true := by kernel_rfl
theorem e215 (B : Blk) : okS (ok_FnExecuteSame B) 8 215 = true := by kernel_rfl
theorem e216 (B : Blk) : okS (ok_FnExecuteSame B) 8 216 = true := by kernel_rfl
theorem e217 (B : Blk) : okS (ok_FnExecuteSame B) 8 217 = true := by kernel_rfl
theorem e218 (B : Blk) : okS (ok_FnExecuteSame B) 8 218 = true := by kernel_rfl
theorem e219 (B : Blk) : okS (ok_FnExecuteSame B) 8 219 = true := by kernel_rfl
theorem e220 (B : Blk) : okS (ok_FnExecuteSame B) 8 220 = true := by kernel_rfl
theorem e221 (B : Blk) : okS (ok_FnExecuteSame B) 8 221 = true := by kernel_rfl
theorem e222 (B : Blk) : okS (ok_FnExecuteSame B) 8 222 = true := by kernel_rfl
theorem e223 (B : Blk) : okS (ok_FnExecuteSame B) 8 223 = true := by kernel_rfl
theorem e_6 (B : Blk) : okL (ok_FnExecuteSame B) 8 192 32 = true := (cc (e192 B) (cc (e193 B) (cc (e194 B) (cc (e195 B) (cc (e196 B) (cc (e197 B) (cc (e198 B) (cc (e199 B) (cc (e200 B) (cc (e201 B) (cc (e202 B) (cc (e203 B) (cc (e204 B) (cc (e205 B) (cc (e206 B) (cc (e207 B) (cc (e208 B) (cc (e209 B) (cc (e210 B) (cc (e211 B) (cc (e212 B) (cc (e213 B) (cc (e214 B) (cc (e215 B) (cc (e216 B) (cc (e217 B) (cc (e218 B) (cc (e219 B) (cc (e220 B) (cc (e221 B) (cc (e222 B) (cc (e223 B) rfl))))))))))))))))))))))))))))))))
end
end Go.AI.T
