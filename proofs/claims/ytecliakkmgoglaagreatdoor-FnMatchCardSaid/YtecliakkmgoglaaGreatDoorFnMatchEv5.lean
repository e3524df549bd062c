/- The evaluation, part 5. -/
import Derived.Test.YtecliakkmgoglaaGreatDoorFnMatchBad
import Derived.KernelRfl
set_option maxRecDepth 100000
namespace Go.AI.T
open Go Go.RowKit Go.AI
noncomputable section
variable (B:Blk)
theorem w214:okS (oM B) 6 214=true:=by kernel_rfl
theorem w215:okS (oM B) 6 215=true:=by kernel_rfl
theorem w216:okS (oM B) 6 216=true:=by kernel_rfl
theorem w217:okS (oM B) 6 217=true:=by kernel_rfl
theorem w218:okS (oM B) 6 218=true:=by kernel_rfl
theorem w219:okS (oM B) 6 219=true:=by kernel_rfl
theorem w220:okS (oM B) 6 220=true:=by kernel_rfl
theorem w221:okS (oM B) 6 221=true:=by kernel_rfl
theorem w222:okS (oM B) 6 222=true:=by kernel_rfl
theorem w223:okS (oM B) 6 223=true:=by kernel_rfl
theorem w224:okS (oM B) 6 224=true:=by kernel_rfl
theorem w225:okS (oM B) 6 225=true:=by kernel_rfl
theorem w226:okS (oM B) 6 226=true:=by kernel_rfl
theorem w227:okS (oM B) 6 227=true:=by kernel_rfl
theorem w228:okS (oM B) 6 228=true:=by kernel_rfl
theorem w229:okS (oM B) 6 229=true:=by kernel_rfl
theorem w230:okS (oM B) 6 230=true:=by kernel_rfl
theorem w231:okS (oM B) 6 231=true:=by kernel_rfl
theorem w232:okS (oM B) 6 232=true:=by kernel_rfl
theorem w233:okS (oM B) 6 233=true:=by kernel_rfl
theorem w234:okS (oM B) 6 234=true:=by kernel_rfl
theorem w235:okS (oM B) 6 235=true:=by kernel_rfl
theorem w236:okS (oM B) 6 236=true:=by kernel_rfl
theorem w237:okS (oM B) 6 237=true:=by kernel_rfl
theorem w238:okS (oM B) 6 238=true:=by kernel_rfl
theorem w239:okS (oM B) 6 239=true:=by kernel_rfl
theorem w240:okS (oM B) 6 240=true:=by kernel_rfl
theorem w241:okS (oM B) 6 241=true:=by kernel_rfl
theorem w242:okS (oM B) 6 242=true:=by kernel_rfl
theorem w243:okS (oM B) 6 243=true:=by kernel_rfl
theorem w244:okS (oM B) 6 244=true:=by kernel_rfl
theorem w245:okS (oM B) 6 245=true:=by kernel_rfl
theorem w246:okS (oM B) 6 246=true:=by kernel_rfl
theorem w247:okS (oM B) 6 247=true:=by kernel_rfl
theorem w248:okS (oM B) 6 248=true:=by kernel_rfl
theorem w249:okS (oM B) 6 249=true:=by kernel_rfl
theorem w250:okS (oM B) 6 250=true:=by kernel_rfl
theorem w251:okS (oM B) 6 251=true:=by kernel_rfl
theorem w252:okS (oM B) 6 252=true:=by kernel_rfl
theorem w253:okS (oM B) 6 253=true:=by kernel_rfl
theorem w254:okS (oM B) 6 254=true:=by kernel_rfl
theorem w255:okS (oM B) 6 255=true:=by kernel_rfl
theorem w256:okS (oM B) 6 256=true:=by kernel_rfl
theorem w_5:okL (oM B) 6 214 43=true:=(cc (w214 B) (cc (w215 B) (cc (w216 B) (cc (w217 B) (cc (w218 B) (cc (w219 B) (cc (w220 B) (cc (w221 B) (cc (w222 B) (cc (w223 B) (cc (w224 B) (cc (w225 B) (cc (w226 B) (cc (w227 B) (cc (w228 B) (cc (w229 B) (cc (w230 B) (cc (w231 B) (cc (w232 B) (cc (w233 B) (cc (w234 B) (cc (w235 B) (cc (w236 B) (cc (w237 B) (cc (w238 B) (cc (w239 B) (cc (w240 B) (cc (w241 B) (cc (w242 B) (cc (w243 B) (cc (w244 B) (cc (w245 B) (cc (w246 B) (cc (w247 B) (cc (w248 B) (cc (w249 B) (cc (w250 B) (cc (w251 B) (cc (w252 B) (cc (w253 B) (cc (w254 B) (cc (w255 B) (cc (w256 B) rfl)))))))))))))))))))))))))))))))))))))))))))
end
end Go.AI.T
