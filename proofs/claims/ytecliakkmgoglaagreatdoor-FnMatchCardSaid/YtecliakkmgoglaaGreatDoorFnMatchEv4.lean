/- The evaluation, part 4. -/
import Derived.Test.YtecliakkmgoglaaGreatDoorFnMatchBad
import Derived.KernelRfl
set_option maxRecDepth 100000
namespace Go.AI.T
open Go Go.RowKit Go.AI
noncomputable section
variable (B:Blk)
theorem w171:okS (oM B) 6 171=true:=by kernel_rfl
theorem w172:okS (oM B) 6 172=true:=by kernel_rfl
theorem w173:okS (oM B) 6 173=true:=by kernel_rfl
theorem w174:okS (oM B) 6 174=true:=by kernel_rfl
theorem w175:okS (oM B) 6 175=true:=by kernel_rfl
theorem w176:okS (oM B) 6 176=true:=by kernel_rfl
theorem w177:okS (oM B) 6 177=true:=by kernel_rfl
theorem w178:okS (oM B) 6 178=true:=by kernel_rfl
theorem w179:okS (oM B) 6 179=true:=by kernel_rfl
theorem w180:okS (oM B) 6 180=true:=by kernel_rfl
theorem w181:okS (oM B) 6 181=true:=by kernel_rfl
theorem w182:okS (oM B) 6 182=true:=by kernel_rfl
theorem w183:okS (oM B) 6 183=true:=by kernel_rfl
theorem w184:okS (oM B) 6 184=true:=by kernel_rfl
theorem w185:okS (oM B) 6 185=true:=by kernel_rfl
theorem w186:okS (oM B) 6 186=true:=by kernel_rfl
theorem w187:okS (oM B) 6 187=true:=by kernel_rfl
theorem w188:okS (oM B) 6 188=true:=by kernel_rfl
theorem w189:okS (oM B) 6 189=true:=by kernel_rfl
theorem w190:okS (oM B) 6 190=true:=by kernel_rfl
theorem w191:okS (oM B) 6 191=true:=by kernel_rfl
theorem w192:okS (oM B) 6 192=true:=by kernel_rfl
theorem w193:okS (oM B) 6 193=true:=by kernel_rfl
theorem w194:okS (oM B) 6 194=true:=by kernel_rfl
theorem w195:okS (oM B) 6 195=true:=by kernel_rfl
theorem w196:okS (oM B) 6 196=true:=by kernel_rfl
theorem w197:okS (oM B) 6 197=true:=by kernel_rfl
theorem w198:okS (oM B) 6 198=true:=by kernel_rfl
theorem w199:okS (oM B) 6 199=true:=by kernel_rfl
theorem w200:okS (oM B) 6 200=true:=by kernel_rfl
theorem w201:okS (oM B) 6 201=true:=by kernel_rfl
theorem w202:okS (oM B) 6 202=true:=by kernel_rfl
theorem w203:okS (oM B) 6 203=true:=by kernel_rfl
theorem w204:okS (oM B) 6 204=true:=by kernel_rfl
theorem w205:okS (oM B) 6 205=true:=by kernel_rfl
theorem w206:okS (oM B) 6 206=true:=by kernel_rfl
theorem w207:okS (oM B) 6 207=true:=by kernel_rfl
theorem w208:okS (oM B) 6 208=true:=by kernel_rfl
theorem w209:okS (oM B) 6 209=true:=by kernel_rfl
theorem w210:okS (oM B) 6 210=true:=by kernel_rfl
theorem w211:okS (oM B) 6 211=true:=by kernel_rfl
theorem w212:okS (oM B) 6 212=true:=by kernel_rfl
theorem w213:okS (oM B) 6 213=true:=by kernel_rfl
theorem w_4:okL (oM B) 6 171 43=true:=(cc (w171 B) (cc (w172 B) (cc (w173 B) (cc (w174 B) (cc (w175 B) (cc (w176 B) (cc (w177 B) (cc (w178 B) (cc (w179 B) (cc (w180 B) (cc (w181 B) (cc (w182 B) (cc (w183 B) (cc (w184 B) (cc (w185 B) (cc (w186 B) (cc (w187 B) (cc (w188 B) (cc (w189 B) (cc (w190 B) (cc (w191 B) (cc (w192 B) (cc (w193 B) (cc (w194 B) (cc (w195 B) (cc (w196 B) (cc (w197 B) (cc (w198 B) (cc (w199 B) (cc (w200 B) (cc (w201 B) (cc (w202 B) (cc (w203 B) (cc (w204 B) (cc (w205 B) (cc (w206 B) (cc (w207 B) (cc (w208 B) (cc (w209 B) (cc (w210 B) (cc (w211 B) (cc (w212 B) (cc (w213 B) rfl)))))))))))))))))))))))))))))))))))))))))))
end
end Go.AI.T
