/- The evaluation, part 5. -/
import Derived.Test.YtecliakkmgoglaaGreatDoorFreFn
import Derived.KernelRfl
set_option linter.unusedVariables false
set_option linter.unusedSimpArgs false
set_option maxRecDepth 100000
namespace Go.AI.T
open Go Go.RowKit Go.AI
noncomputable section
theorem e128:okS ok_Fre 10 128=true:=by kernel_rfl
theorem e129:okS ok_Fre 10 129=true:=by kernel_rfl
theorem e130:okS ok_Fre 10 130=true:=by kernel_rfl
theorem e131:okS ok_Fre 10 131=true:=by kernel_rfl
theorem e132:okS ok_Fre 10 132=true:=by kernel_rfl
theorem e133:okS ok_Fre 10 133=true:=by kernel_rfl
theorem e134:okS ok_Fre 10 134=true:=by kernel_rfl
theorem e135:okS ok_Fre 10 135=true:=by kernel_rfl
theorem e136:okS ok_Fre 10 136=true:=by kernel_rfl
theorem e137:okS ok_Fre 10 137=true:=by kernel_rfl
theorem e138:okS ok_Fre 10 138=true:=by kernel_rfl
theorem e139:okS ok_Fre 10 139=true:=by kernel_rfl
theorem e140:okS ok_Fre 10 140=true:=by kernel_rfl
theorem e141:okS ok_Fre 10 141=true:=by kernel_rfl
theorem e142:okS ok_Fre 10 142=true:=by kernel_rfl
theorem e143:okS ok_Fre 10 143=true:=by kernel_rfl
theorem e144:okS ok_Fre 10 144=true:=by kernel_rfl
theorem e145:okS ok_Fre 10 145=true:=by kernel_rfl
theorem e146:okS ok_Fre 10 146=true:=by kernel_rfl
theorem e147:okS ok_Fre 10 147=true:=by kernel_rfl
theorem e148:okS ok_Fre 10 148=true:=by kernel_rfl
theorem e149:okS ok_Fre 10 149=true:=by kernel_rfl
theorem e150:okS ok_Fre 10 150=true:=by kernel_rfl
theorem e151:okS ok_Fre 10 151=true:=by kernel_rfl
theorem e152:okS ok_Fre 10 152=true:=by kernel_rfl
theorem e153:okS ok_Fre 10 153=true:=by kernel_rfl
theorem e_5:okL ok_Fre 10 128 26=true:=(cc e128 (cc e129 (cc e130 (cc e131 (cc e132 (cc e133 (cc e134 (cc e135 (cc e136 (cc e137 (cc e138 (cc e139 (cc e140 (cc e141 (cc e142 (cc e143 (cc e144 (cc e145 (cc e146 (cc e147 (cc e148 (cc e149 (cc e150 (cc e151 (cc e152 (cc e153 rfl))))))))))))))))))))))))))
end
end Go.AI.T
