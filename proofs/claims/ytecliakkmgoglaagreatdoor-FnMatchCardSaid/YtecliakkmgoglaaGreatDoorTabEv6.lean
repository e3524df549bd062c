/- The evaluation, part 6. -/
import Derived.Test.YtecliakkmgoglaaGreatDoorTabFn
import Derived.KernelRfl
set_option linter.unusedVariables false
set_option linter.unusedSimpArgs false
set_option maxRecDepth 100000
namespace Go.AI.T
open Go Go.RowKit Go.AI
noncomputable section
theorem t154:okS ok_Tab 10 154=true:=by kernel_rfl
theorem t155:okS ok_Tab 10 155=true:=by kernel_rfl
theorem t156:okS ok_Tab 10 156=true:=by kernel_rfl
theorem t157:okS ok_Tab 10 157=true:=by kernel_rfl
theorem t158:okS ok_Tab 10 158=true:=by kernel_rfl
theorem t159:okS ok_Tab 10 159=true:=by kernel_rfl
theorem t160:okS ok_Tab 10 160=true:=by kernel_rfl
theorem t161:okS ok_Tab 10 161=true:=by kernel_rfl
theorem t162:okS ok_Tab 10 162=true:=by kernel_rfl
theorem t163:okS ok_Tab 10 163=true:=by kernel_rfl
theorem t164:okS ok_Tab 10 164=true:=by kernel_rfl
theorem t165:okS ok_Tab 10 165=true:=by kernel_rfl
theorem t166:okS ok_Tab 10 166=true:=by kernel_rfl
theorem t167:okS ok_Tab 10 167=true:=by kernel_rfl
theorem t168:okS ok_Tab 10 168=true:=by kernel_rfl
theorem t169:okS ok_Tab 10 169=true:=by kernel_rfl
theorem t170:okS ok_Tab 10 170=true:=by kernel_rfl
theorem t171:okS ok_Tab 10 171=true:=by kernel_rfl
theorem t172:okS ok_Tab 10 172=true:=by kernel_rfl
theorem t173:okS ok_Tab 10 173=true:=by kernel_rfl
theorem t174:okS ok_Tab 10 174=true:=by kernel_rfl
theorem t175:okS ok_Tab 10 175=true:=by kernel_rfl
theorem t176:okS ok_Tab 10 176=true:=by kernel_rfl
theorem t177:okS ok_Tab 10 177=true:=by kernel_rfl
theorem t178:okS ok_Tab 10 178=true:=by kernel_rfl
theorem t179:okS ok_Tab 10 179=true:=by kernel_rfl
theorem t_6:okL ok_Tab 10 154 26=true:=(cc t154 (cc t155 (cc t156 (cc t157 (cc t158 (cc t159 (cc t160 (cc t161 (cc t162 (cc t163 (cc t164 (cc t165 (cc t166 (cc t167 (cc t168 (cc t169 (cc t170 (cc t171 (cc t172 (cc t173 (cc t174 (cc t175 (cc t176 (cc t177 (cc t178 (cc t179 rfl))))))))))))))))))))))))))
end
end Go.AI.T
