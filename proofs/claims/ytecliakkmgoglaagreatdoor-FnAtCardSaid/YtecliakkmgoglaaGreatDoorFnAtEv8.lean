/- The evaluation, part 8. -/
import Derived.Test.YtecliakkmgoglaaGreatDoorFnAtBad
import Derived.KernelRfl
set_option maxRecDepth 100000
namespace Go.AI.T
open Go Go.RowKit Go.AI
noncomputable section
variable (B:Blk)
theorem w228:okS (ok_FnAt B) 6 228=true:=by kernel_rfl
theorem w229:okS (ok_FnAt B) 6 229=true:=by kernel_rfl
theorem w230:okS (ok_FnAt B) 6 230=true:=by kernel_rfl
theorem w231:okS (ok_FnAt B) 6 231=true:=by kernel_rfl
theorem w232:okS (ok_FnAt B) 6 232=true:=by kernel_rfl
theorem w233:okS (ok_FnAt B) 6 233=true:=by kernel_rfl
theorem w234:okS (ok_FnAt B) 6 234=true:=by kernel_rfl
theorem w235:okS (ok_FnAt B) 6 235=true:=by kernel_rfl
theorem w236:okS (ok_FnAt B) 6 236=true:=by kernel_rfl
theorem w237:okS (ok_FnAt B) 6 237=true:=by kernel_rfl
theorem w238:okS (ok_FnAt B) 6 238=true:=by kernel_rfl
theorem w239:okS (ok_FnAt B) 6 239=true:=by kernel_rfl
theorem w240:okS (ok_FnAt B) 6 240=true:=by kernel_rfl
theorem w241:okS (ok_FnAt B) 6 241=true:=by kernel_rfl
theorem w242:okS (ok_FnAt B) 6 242=true:=by kernel_rfl
theorem w243:okS (ok_FnAt B) 6 243=true:=by kernel_rfl
theorem w244:okS (ok_FnAt B) 6 244=true:=by kernel_rfl
theorem w245:okS (ok_FnAt B) 6 245=true:=by kernel_rfl
theorem w246:okS (ok_FnAt B) 6 246=true:=by kernel_rfl
theorem w247:okS (ok_FnAt B) 6 247=true:=by kernel_rfl
theorem w248:okS (ok_FnAt B) 6 248=true:=by kernel_rfl
theorem w249:okS (ok_FnAt B) 6 249=true:=by kernel_rfl
theorem w250:okS (ok_FnAt B) 6 250=true:=by kernel_rfl
theorem w251:okS (ok_FnAt B) 6 251=true:=by kernel_rfl
theorem w252:okS (ok_FnAt B) 6 252=true:=by kernel_rfl
theorem w253:okS (ok_FnAt B) 6 253=true:=by kernel_rfl
theorem w254:okS (ok_FnAt B) 6 254=true:=by kernel_rfl
theorem w255:okS (ok_FnAt B) 6 255=true:=by kernel_rfl
theorem w256:okS (ok_FnAt B) 6 256=true:=by kernel_rfl
theorem w_8:okL (ok_FnAt B) 6 228 29=true:=(cc (w228 B) (cc (w229 B) (cc (w230 B) (cc (w231 B) (cc (w232 B) (cc (w233 B) (cc (w234 B) (cc (w235 B) (cc (w236 B) (cc (w237 B) (cc (w238 B) (cc (w239 B) (cc (w240 B) (cc (w241 B) (cc (w242 B) (cc (w243 B) (cc (w244 B) (cc (w245 B) (cc (w246 B) (cc (w247 B) (cc (w248 B) (cc (w249 B) (cc (w250 B) (cc (w251 B) (cc (w252 B) (cc (w253 B) (cc (w254 B) (cc (w255 B) (cc (w256 B) rfl)))))))))))))))))))))))))))))
theorem w257:okS (ok_FnAt B) 6 257=true:=by kernel_rfl
theorem w258:okS (ok_FnAt B) 6 258=true:=by kernel_rfl
theorem w259:okS (ok_FnAt B) 6 259=true:=by kernel_rfl
theorem w260:okS (ok_FnAt B) 6 260=true:=by kernel_rfl
theorem w261:okS (ok_FnAt B) 6 261=true:=by kernel_rfl
theorem w262:okS (ok_FnAt B) 6 262=true:=by kernel_rfl
theorem w263:okS (ok_FnAt B) 6 263=true:=by kernel_rfl
theorem w264:okS (ok_FnAt B) 6 264=true:=by kernel_rfl
theorem w265:okS (ok_FnAt B) 6 265=true:=by kernel_rfl
theorem w266:okS (ok_FnAt B) 6 266=true:=by kernel_rfl
theorem w267:okS (ok_FnAt B) 6 267=true:=by kernel_rfl
theorem w268:okS (ok_FnAt B) 6 268=true:=by kernel_rfl
theorem w269:okS (ok_FnAt B) 6 269=true:=by kernel_rfl
theorem w270:okS (ok_FnAt B) 6 270=true:=by kernel_rfl
theorem w271:okS (ok_FnAt B) 6 271=true:=by kernel_rfl
theorem w272:okS (ok_FnAt B) 6 272=true:=by kernel_rfl
theorem w273:okS (ok_FnAt B) 6 273=true:=by kernel_rfl
theorem w274:okS (ok_FnAt B) 6 274=true:=by kernel_rfl
theorem w275:okS (ok_FnAt B) 6 275=true:=by kernel_rfl
theorem w276:okS (ok_FnAt B) 6 276=true:=by kernel_rfl
theorem w277:okS (ok_FnAt B) 6 277=true:=by kernel_rfl
theorem w278:okS (ok_FnAt B) 6 278=true:=by kernel_rfl
theorem w279:okS (ok_FnAt B) 6 279=true:=by kernel_rfl
theorem w280:okS (ok_FnAt B) 6 280=true:=by kernel_rfl
theorem w281:okS (ok_FnAt B) 6 281=true:=by kernel_rfl
theorem w282:okS (ok_FnAt B) 6 282=true:=by kernel_rfl
theorem w283:okS (ok_FnAt B) 6 283=true:=by kernel_rfl
theorem w284:okS (ok_FnAt B) 6 284=true:=by kernel_rfl
theorem w_9:okL (ok_FnAt B) 6 257 28=true:=(cc (w257 B) (cc (w258 B) (cc (w259 B) (cc (w260 B) (cc (w261 B) (cc (w262 B) (cc (w263 B) (cc (w264 B) (cc (w265 B) (cc (w266 B) (cc (w267 B) (cc (w268 B) (cc (w269 B) (cc (w270 B) (cc (w271 B) (cc (w272 B) (cc (w273 B) (cc (w274 B) (cc (w275 B) (cc (w276 B) (cc (w277 B) (cc (w278 B) (cc (w279 B) (cc (w280 B) (cc (w281 B) (cc (w282 B) (cc (w283 B) (cc (w284 B) rfl))))))))))))))))))))))))))))
end
end Go.AI.T
