/- The evaluation, part 6. -/
import Derived.Test.YtecliakkmgoglaaGreatDoorFreFn
import Derived.KernelRfl
set_option linter.unusedVariables false
set_option linter.unusedSimpArgs false
set_option maxRecDepth 100000
namespace Go.AI.T
open Go Go.RowKit Go.AI
noncomputable section
theorem e154:okS ok_Fre 10 154=true:=by kernel_rfl
theorem e155:okS ok_Fre 10 155=true:=by kernel_rfl
theorem e156:okS ok_Fre 10 156=true:=by kernel_rfl
theorem e157:okS ok_Fre 10 157=true:=by kernel_rfl
theorem e158:okS ok_Fre 10 158=true:=by kernel_rfl
theorem e159:okS ok_Fre 10 159=true:=by kernel_rfl
theorem e160:okS ok_Fre 10 160=true:=by kernel_rfl
theorem e161:okS ok_Fre 10 161=true:=by kernel_rfl
theorem e162:okS ok_Fre 10 162=true:=by kernel_rfl
theorem e163:okS ok_Fre 10 163=true:=by kernel_rfl
theorem e164:okS ok_Fre 10 164=true:=by kernel_rfl
theorem e165:okS ok_Fre 10 165=true:=by kernel_rfl
theorem e166:okS ok_Fre 10 166=true:=by kernel_rfl
theorem e167:okS ok_Fre 10 167=true:=by kernel_rfl
theorem e168:okS ok_Fre 10 168=true:=by kernel_rfl
theorem e169:okS ok_Fre 10 169=true:=by kernel_rfl
theorem e170:okS ok_Fre 10 170=true:=by kernel_rfl
theorem e171:okS ok_Fre 10 171=true:=by kernel_rfl
theorem e172:okS ok_Fre 10 172=true:=by kernel_rfl
theorem e173:okS ok_Fre 10 173=true:=by kernel_rfl
theorem e174:okS ok_Fre 10 174=true:=by kernel_rfl
theorem e175:okS ok_Fre 10 175=true:=by kernel_rfl
theorem e176:okS ok_Fre 10 176=true:=by kernel_rfl
theorem e177:okS ok_Fre 10 177=true:=by kernel_rfl
theorem e178:okS ok_Fre 10 178=true:=by kernel_rfl
theorem e179:okS ok_Fre 10 179=true:=by kernel_rfl
theorem e_6:okL ok_Fre 10 154 26=true:=(cc e154 (cc e155 (cc e156 (cc e157 (cc e158 (cc e159 (cc e160 (cc e161 (cc e162 (cc e163 (cc e164 (cc e165 (cc e166 (cc e167 (cc e168 (cc e169 (cc e170 (cc e171 (cc e172 (cc e173 (cc e174 (cc e175 (cc e176 (cc e177 (cc e178 (cc e179 rfl))))))))))))))))))))))))))
end
end Go.AI.T
