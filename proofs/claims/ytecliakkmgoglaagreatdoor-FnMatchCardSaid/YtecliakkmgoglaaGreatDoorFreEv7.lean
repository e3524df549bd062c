/- The evaluation, part 7. -/
import Derived.Test.YtecliakkmgoglaaGreatDoorFreFn
import Derived.KernelRfl
set_option linter.unusedVariables false
set_option linter.unusedSimpArgs false
set_option maxRecDepth 100000
namespace Go.AI.T
open Go Go.RowKit Go.AI
noncomputable section
theorem e180:okS ok_Fre 10 180=true:=by kernel_rfl
theorem e181:okS ok_Fre 10 181=true:=by kernel_rfl
theorem e182:okS ok_Fre 10 182=true:=by kernel_rfl
theorem e183:okS ok_Fre 10 183=true:=by kernel_rfl
theorem e184:okS ok_Fre 10 184=true:=by kernel_rfl
theorem e185:okS ok_Fre 10 185=true:=by kernel_rfl
theorem e186:okS ok_Fre 10 186=true:=by kernel_rfl
theorem e187:okS ok_Fre 10 187=true:=by kernel_rfl
theorem e188:okS ok_Fre 10 188=true:=by kernel_rfl
theorem e189:okS ok_Fre 10 189=true:=by kernel_rfl
theorem e190:okS ok_Fre 10 190=true:=by kernel_rfl
theorem e191:okS ok_Fre 10 191=true:=by kernel_rfl
theorem e192:okS ok_Fre 10 192=true:=by kernel_rfl
theorem e193:okS ok_Fre 10 193=true:=by kernel_rfl
theorem e194:okS ok_Fre 10 194=true:=by kernel_rfl
theorem e195:okS ok_Fre 10 195=true:=by kernel_rfl
theorem e196:okS ok_Fre 10 196=true:=by kernel_rfl
theorem e197:okS ok_Fre 10 197=true:=by kernel_rfl
theorem e198:okS ok_Fre 10 198=true:=by kernel_rfl
theorem e199:okS ok_Fre 10 199=true:=by kernel_rfl
theorem e200:okS ok_Fre 10 200=true:=by kernel_rfl
theorem e201:okS ok_Fre 10 201=true:=by kernel_rfl
theorem e202:okS ok_Fre 10 202=true:=by kernel_rfl
theorem e203:okS ok_Fre 10 203=true:=by kernel_rfl
theorem e204:okS ok_Fre 10 204=true:=by kernel_rfl
theorem e205:okS ok_Fre 10 205=true:=by kernel_rfl
theorem e_7:okL ok_Fre 10 180 26=true:=(cc e180 (cc e181 (cc e182 (cc e183 (cc e184 (cc e185 (cc e186 (cc e187 (cc e188 (cc e189 (cc e190 (cc e191 (cc e192 (cc e193 (cc e194 (cc e195 (cc e196 (cc e197 (cc e198 (cc e199 (cc e200 (cc e201 (cc e202 (cc e203 (cc e204 (cc e205 rfl))))))))))))))))))))))))))
end
end Go.AI.T
