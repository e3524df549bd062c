/- The evaluation, part 6. -/
import Derived.Test.YtecliakkmgoglaaGreatDoorFnMatchBad
import Derived.KernelRfl
set_option maxRecDepth 100000
namespace Go.AI.T
open Go Go.RowKit Go.AI
noncomputable section
variable (B:Blk)
theorem w257:okS (oM B) 6 257=true:=by kernel_rfl
theorem w258:okS (oM B) 6 258=true:=by kernel_rfl
theorem w259:okS (oM B) 6 259=true:=by kernel_rfl
theorem w260:okS (oM B) 6 260=true:=by kernel_rfl
theorem w261:okS (oM B) 6 261=true:=by kernel_rfl
theorem w262:okS (oM B) 6 262=true:=by kernel_rfl
theorem w263:okS (oM B) 6 263=true:=by kernel_rfl
theorem w264:okS (oM B) 6 264=true:=by kernel_rfl
theorem w265:okS (oM B) 6 265=true:=by kernel_rfl
theorem w266:okS (oM B) 6 266=true:=by kernel_rfl
theorem w267:okS (oM B) 6 267=true:=by kernel_rfl
theorem w268:okS (oM B) 6 268=true:=by kernel_rfl
theorem w269:okS (oM B) 6 269=true:=by kernel_rfl
theorem w270:okS (oM B) 6 270=true:=by kernel_rfl
theorem w271:okS (oM B) 6 271=true:=by kernel_rfl
theorem w272:okS (oM B) 6 272=true:=by kernel_rfl
theorem w273:okS (oM B) 6 273=true:=by kernel_rfl
theorem w274:okS (oM B) 6 274=true:=by kernel_rfl
theorem w275:okS (oM B) 6 275=true:=by kernel_rfl
theorem w276:okS (oM B) 6 276=true:=by kernel_rfl
theorem w277:okS (oM B) 6 277=true:=by kernel_rfl
theorem w278:okS (oM B) 6 278=true:=by kernel_rfl
theorem w279:okS (oM B) 6 279=true:=by kernel_rfl
theorem w280:okS (oM B) 6 280=true:=by kernel_rfl
theorem w281:okS (oM B) 6 281=true:=by kernel_rfl
theorem w282:okS (oM B) 6 282=true:=by kernel_rfl
theorem w283:okS (oM B) 6 283=true:=by kernel_rfl
theorem w284:okS (oM B) 6 284=true:=by kernel_rfl
theorem w285:okS (oM B) 6 285=true:=by kernel_rfl
theorem w286:okS (oM B) 6 286=true:=by kernel_rfl
theorem w287:okS (oM B) 6 287=true:=by kernel_rfl
theorem w288:okS (oM B) 6 288=true:=by kernel_rfl
theorem w289:okS (oM B) 6 289=true:=by kernel_rfl
theorem w290:okS (oM B) 6 290=true:=by kernel_rfl
theorem w291:okS (oM B) 6 291=true:=by kernel_rfl
theorem w292:okS (oM B) 6 292=true:=by kernel_rfl
theorem w293:okS (oM B) 6 293=true:=by kernel_rfl
theorem w294:okS (oM B) 6 294=true:=by kernel_rfl
theorem w295:okS (oM B) 6 295=true:=by kernel_rfl
theorem w296:okS (oM B) 6 296=true:=by kernel_rfl
theorem w297:okS (oM B) 6 297=true:=by kernel_rfl
theorem w298:okS (oM B) 6 298=true:=by kernel_rfl
theorem w299:okS (oM B) 6 299=true:=by kernel_rfl
theorem w_6:okL (oM B) 6 257 43=true:=(cc (w257 B) (cc (w258 B) (cc (w259 B) (cc (w260 B) (cc (w261 B) (cc (w262 B) (cc (w263 B) (cc (w264 B) (cc (w265 B) (cc (w266 B) (cc (w267 B) (cc (w268 B) (cc (w269 B) (cc (w270 B) (cc (w271 B) (cc (w272 B) (cc (w273 B) (cc (w274 B) (cc (w275 B) (cc (w276 B) (cc (w277 B) (cc (w278 B) (cc (w279 B) (cc (w280 B) (cc (w281 B) (cc (w282 B) (cc (w283 B) (cc (w284 B) (cc (w285 B) (cc (w286 B) (cc (w287 B) (cc (w288 B) (cc (w289 B) (cc (w290 B) (cc (w291 B) (cc (w292 B) (cc (w293 B) (cc (w294 B) (cc (w295 B) (cc (w296 B) (cc (w297 B) (cc (w298 B) (cc (w299 B) rfl)))))))))))))))))))))))))))))))))))))))))))
end
end Go.AI.T
