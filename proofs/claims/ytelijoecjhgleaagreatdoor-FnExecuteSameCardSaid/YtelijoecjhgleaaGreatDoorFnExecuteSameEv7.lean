/- The evaluation, part 7. -/
import Derived.Test.YtelijoecjhgleaaGreatDoorFnExecuteSameBad
import Derived.KernelRfl
set_option linter.unusedVariables false
set_option linter.unusedSimpArgs false
set_option maxRecDepth 100000
namespace Go.AI.T
open Go Go.RowKit Go.AI
noncomputable section
theorem e224 (B : Blk) : okS (ok_FnExecuteSame B) 8 224 = true := by kernel_rfl
theorem e225 (B : Blk) : okS (ok_FnExecuteSame B) 8 225 = true := by kernel_rfl
theorem e226 (B : Blk) : okS (ok_FnExecuteSame B) 8 226 = true := by kernel_rfl
theorem e227 (B : Blk) : okS (ok_FnExecuteSame B) 8 227 = true := by kernel_rfl
theorem e228 (B : Blk) : okS (ok_FnExecuteSame B) 8 228 = true := by kernel_rfl
theorem e229 (B : Blk) : okS (ok_FnExecuteSame B) 8 229 = true := by kernel_rfl
theorem e230 (B : Blk) : okS (ok_FnExecuteSame B) 8 230 = true := by kernel_rfl
theorem e231 (B : Blk) : okS (ok_FnExecuteSame B) 8 231 = true := by kernel_rfl
theorem e232 (B : Blk) : okS (ok_FnExecuteSame B) 8 232 = true := by kernel_rfl
theorem e233 (B : Blk) : okS (ok_FnExecuteSame B) 8 233 = true := by kernel_rfl
theorem e234 (B : Blk) : okS (ok_FnExecuteSame B) 8 234 = true := by kernel_rfl
theorem e235 (B : Blk) : okS (ok_FnExecuteSame B) 8 235 = true := by kernel_rfl
theorem e236 (B : Blk) : okS (ok_FnExecuteSame B) 8 236 = true := by kernel_rfl
theorem e237 (B : Blk) : okS (ok_FnExecuteSame B) 8 237 = true := by kernel_rfl
theorem e238 (B : Blk) : okS (ok_FnExecuteSame B) 8 238 = true := by kernel_rfl
theorem e239 (B : Blk) : okS (ok_FnExecuteSame B) 8 239 = true := by kernel_rfl
theorem e240 (B : Blk) : okS (ok_FnExecuteSame B) 8 240 = true := by kernel_rfl
theorem e241 (B : Blk) : okS (ok_FnExecuteSame B) 8 241 = true := by kernel_rfl
theorem e242 (B : Blk) : okS (ok_FnExecuteSame B) 8 242 = true := by kernel_rfl
theorem e243 (B : Blk) : okS (ok_FnExecuteSame B) 8 243 = true := by kernel_rfl
theorem e244 (B : Blk) : okS (ok_FnExecuteSame B) 8 244 = true := by kernel_rfl
theorem e245 (B : Blk) : okS (ok_FnExecuteSame B) 8 245 = true := by kernel_rfl
theorem e246 (B : Blk) : okS (ok_FnExecuteSame B) 8 246 = true := by kernel_rfl
theorem e247 (B : Blk) : okS (ok_FnExecuteSame B) 8 247 = true := by kernel_rfl
theorem e248 (B : Blk) : okS (ok_FnExecuteSame B) 8 248 = true := by kernel_rfl
theorem e249 (B : Blk) : okS (ok_FnExecuteSame B) 8 249 = true := by kernel_rfl
theorem e250 (B : Blk) : okS (ok_FnExecuteSame B) 8 250 = true := by kernel_rfl
theorem e251 (B : Blk) : okS (ok_FnExecuteSame B) 8 251 = true := by kernel_rfl
theorem e252 (B : Blk) : okS (ok_FnExecuteSame B) 8 252 = true := by kernel_rfl
theorem e253 (B : Blk) : okS (ok_FnExecuteSame B) 8 253 = true := by kernel_rfl
theorem e254 (B : Blk) : okS (ok_FnExecuteSame B) 8 254 = true := by kernel_rfl
theorem e255 (B : Blk) : okS (ok_FnExecuteSame B) 8 255 = true := by kernel_rfl
theorem e256 (B : Blk) : okS (ok_FnExecuteSame B) 8 256 = true := by kernel_rfl
theorem e_7 (B : Blk) : okL (ok_FnExecuteSame B) 8 224 33 = true := (cc (e224 B) (cc (e225 B) (cc (e226 B) (cc (e227 B) (cc (e228 B) (cc (e229 B) (cc (e230 B) (cc (e231 B) (cc (e232 B) (cc (e233 B) (cc (e234 B) (cc (e235 B) (cc (e236 B) (cc (e237 B) (cc (e238 B) (cc (e239 B) (cc (e240 B) (cc (e241 B) (cc (e242 B) (cc (e243 B) (cc (e244 B) (cc (e245 B) (cc (e246 B) (cc (e247 B) (cc (e248 B) (cc (e249 B) (cc (e250 B) (cc (e251 B) (cc (e252 B) (cc (e253 B) (cc (e254 B) (cc (e255 B) (cc (e256 B) rfl)))))))))))))))))))))))))))))))))
end
end Go.AI.T
