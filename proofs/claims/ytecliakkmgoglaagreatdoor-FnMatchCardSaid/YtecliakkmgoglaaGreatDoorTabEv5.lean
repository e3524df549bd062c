/- The evaluation, part 5. -/
import Derived.Test.YtecliakkmgoglaaGreatDoorTabFn
import Derived.KernelRfl
set_option linter.unusedVariables false
set_option linter.unusedSimpArgs false
set_option maxRecDepth 100000
namespace Go.AI.T
open Go Go.RowKit Go.AI
noncomputable section
theorem t128:okS ok_Tab 10 128=true:=by kernel_rfl
theorem t129:okS ok_Tab 10 129=true:=by kernel_rfl
theorem t130:okS ok_Tab 10 130=true:=by kernel_rfl
theorem t131:okS ok_Tab 10 131=true:=by kernel_rfl
theorem t132:okS ok_Tab 10 132=true:=by kernel_rfl
theorem t133:okS ok_Tab 10 133=true:=by kernel_rfl
theorem t134:okS ok_Tab 10 134=true:=by kernel_rfl
theorem t135:okS ok_Tab 10 135=true:=by kernel_rfl
theorem t136:okS ok_Tab 10 136=true:=by kernel_rfl
theorem t137:okS ok_Tab 10 137=true:=by kernel_rfl
theorem t138:okS ok_Tab 10 138=true:=by kernel_rfl
theorem t139:okS ok_Tab 10 139=true:=by kernel_rfl
theorem t140:okS ok_Tab 10 140=true:=by kernel_rfl
theorem t141:okS ok_Tab 10 141=true:=by kernel_rfl
theorem t142:okS ok_Tab 10 142=true:=by kernel_rfl
theorem t143:okS ok_Tab 10 143=true:=by kernel_rfl
theorem t144:okS ok_Tab 10 144=true:=by kernel_rfl
theorem t145:okS ok_Tab 10 145=true:=by kernel_rfl
theorem t146:okS ok_Tab 10 146=true:=by kernel_rfl
theorem t147:okS ok_Tab 10 147=true:=by kernel_rfl
theorem t148:okS ok_Tab 10 148=true:=by kernel_rfl
theorem t149:okS ok_Tab 10 149=true:=by kernel_rfl
theorem t150:okS ok_Tab 10 150=true:=by kernel_rfl
theorem t151:okS ok_Tab 10 151=true:=by kernel_rfl
theorem t152:okS ok_Tab 10 152=true:=by kernel_rfl
theorem t153:okS ok_Tab 10 153=true:=by kernel_rfl
theorem t_5:okL ok_Tab 10 128 26=true:=(cc t128 (cc t129 (cc t130 (cc t131 (cc t132 (cc t133 (cc t134 (cc t135 (cc t136 (cc t137 (cc t138 (cc t139 (cc t140 (cc t141 (cc t142 (cc t143 (cc t144 (cc t145 (cc t146 (cc t147 (cc t148 (cc t149 (cc t150 (cc t151 (cc t152 (cc t153 rfl))))))))))))))))))))))))))
end
end Go.AI.T
