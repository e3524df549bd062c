/- The evaluation, part 7. -/
import Derived.Test.YtecliakkmgoglaaGreatDoorTabFn
import Derived.KernelRfl
set_option linter.unusedVariables false
set_option linter.unusedSimpArgs false
set_option maxRecDepth 100000
namespace Go.AI.T
open Go Go.RowKit Go.AI
noncomputable section
theorem t180:okS ok_Tab 10 180=true:=by kernel_rfl
theorem t181:okS ok_Tab 10 181=true:=by kernel_rfl
theorem t182:okS ok_Tab 10 182=true:=by kernel_rfl
theorem t183:okS ok_Tab 10 183=true:=by kernel_rfl
theorem t184:okS ok_Tab 10 184=true:=by kernel_rfl
theorem t185:okS ok_Tab 10 185=true:=by kernel_rfl
theorem t186:okS ok_Tab 10 186=true:=by kernel_rfl
theorem t187:okS ok_Tab 10 187=true:=by kernel_rfl
theorem t188:okS ok_Tab 10 188=true:=by kernel_rfl
theorem t189:okS ok_Tab 10 189=true:=by kernel_rfl
theorem t190:okS ok_Tab 10 190=true:=by kernel_rfl
theorem t191:okS ok_Tab 10 191=true:=by kernel_rfl
theorem t192:okS ok_Tab 10 192=true:=by kernel_rfl
theorem t193:okS ok_Tab 10 193=true:=by kernel_rfl
theorem t194:okS ok_Tab 10 194=true:=by kernel_rfl
theorem t195:okS ok_Tab 10 195=true:=by kernel_rfl
theorem t196:okS ok_Tab 10 196=true:=by kernel_rfl
theorem t197:okS ok_Tab 10 197=true:=by kernel_rfl
theorem t198:okS ok_Tab 10 198=true:=by kernel_rfl
theorem t199:okS ok_Tab 10 199=true:=by kernel_rfl
theorem t200:okS ok_Tab 10 200=true:=by kernel_rfl
theorem t201:okS ok_Tab 10 201=true:=by kernel_rfl
theorem t202:okS ok_Tab 10 202=true:=by kernel_rfl
theorem t203:okS ok_Tab 10 203=true:=by kernel_rfl
theorem t204:okS ok_Tab 10 204=true:=by kernel_rfl
theorem t205:okS ok_Tab 10 205=true:=by kernel_rfl
theorem t_7:okL ok_Tab 10 180 26=true:=(cc t180 (cc t181 (cc t182 (cc t183 (cc t184 (cc t185 (cc t186 (cc t187 (cc t188 (cc t189 (cc t190 (cc t191 (cc t192 (cc t193 (cc t194 (cc t195 (cc t196 (cc t197 (cc t198 (cc t199 (cc t200 (cc t201 (cc t202 (cc t203 (cc t204 (cc t205 rfl))))))))))))))))))))))))))
end
end Go.AI.T
