/- The evaluation, part 7. -/
import Derived.Test.YtecliakkmgoglaaGreatDoorFnMatchBad
import Derived.KernelRfl
set_option maxRecDepth 100000
namespace Go.AI.T
open Go Go.RowKit Go.AI
noncomputable section
variable (B:Blk)
theorem w300:okS (oM B) 6 300=true:=by kernel_rfl
theorem w301:okS (oM B) 6 301=true:=by kernel_rfl
theorem w302:okS (oM B) 6 302=true:=by kernel_rfl
theorem w303:okS (oM B) 6 303=true:=by kernel_rfl
theorem w304:okS (oM B) 6 304=true:=by kernel_rfl
theorem w305:okS (oM B) 6 305=true:=by kernel_rfl
theorem w306:okS (oM B) 6 306=true:=by kernel_rfl
theorem w307:okS (oM B) 6 307=true:=by kernel_rfl
theorem w308:okS (oM B) 6 308=true:=by kernel_rfl
theorem w309:okS (oM B) 6 309=true:=by kernel_rfl
theorem w310:okS (oM B) 6 310=true:=by kernel_rfl
theorem w311:okS (oM B) 6 311=true:=by kernel_rfl
theorem w312:okS (oM B) 6 312=true:=by kernel_rfl
theorem w313:okS (oM B) 6 313=true:=by kernel_rfl
theorem w314:okS (oM B) 6 314=true:=by kernel_rfl
theorem w315:okS (oM B) 6 315=true:=by kernel_rfl
theorem w316:okS (oM B) 6 316=true:=by kernel_rfl
theorem w317:okS (oM B) 6 317=true:=by kernel_rfl
theorem w318:okS (oM B) 6 318=true:=by kernel_rfl
theorem w319:okS (oM B) 6 319=true:=by kernel_rfl
theorem w320:okS (oM B) 6 320=true:=by kernel_rfl
theorem w321:okS (oM B) 6 321=true:=by kernel_rfl
theorem w322:okS (oM B) 6 322=true:=by kernel_rfl
theorem w323:okS (oM B) 6 323=true:=by kernel_rfl
theorem w324:okS (oM B) 6 324=true:=by kernel_rfl
theorem w325:okS (oM B) 6 325=true:=by kernel_rfl
theorem w326:okS (oM B) 6 326=true:=by kernel_rfl
theorem w327:okS (oM B) 6 327=true:=by kernel_rfl
theorem w328:okS (oM B) 6 328=true:=by kernel_rfl
theorem w329:okS (oM B) 6 329=true:=by kernel_rfl
theorem w330:okS (oM B) 6 330=true:=by kernel_rfl
theorem w331:okS (oM B) 6 331=true:=by kernel_rfl
theorem w332:okS (oM B) 6 332=true:=by kernel_rfl
theorem w333:okS (oM B) 6 333=true:=by kernel_rfl
theorem w334:okS (oM B) 6 334=true:=by kernel_rfl
theorem w335:okS (oM B) 6 335=true:=by kernel_rfl
theorem w336:okS (oM B) 6 336=true:=by kernel_rfl
theorem w337:okS (oM B) 6 337=true:=by kernel_rfl
theorem w338:okS (oM B) 6 338=true:=by kernel_rfl
theorem w339:okS (oM B) 6 339=true:=by kernel_rfl
theorem w340:okS (oM B) 6 340=true:=by kernel_rfl
theorem w341:okS (oM B) 6 341=true:=by kernel_rfl
theorem w342:okS (oM B) 6 342=true:=by kernel_rfl
theorem w_7:okL (oM B) 6 300 43=true:=(cc (w300 B) (cc (w301 B) (cc (w302 B) (cc (w303 B) (cc (w304 B) (cc (w305 B) (cc (w306 B) (cc (w307 B) (cc (w308 B) (cc (w309 B) (cc (w310 B) (cc (w311 B) (cc (w312 B) (cc (w313 B) (cc (w314 B) (cc (w315 B) (cc (w316 B) (cc (w317 B) (cc (w318 B) (cc (w319 B) (cc (w320 B) (cc (w321 B) (cc (w322 B) (cc (w323 B) (cc (w324 B) (cc (w325 B) (cc (w326 B) (cc (w327 B) (cc (w328 B) (cc (w329 B) (cc (w330 B) (cc (w331 B) (cc (w332 B) (cc (w333 B) (cc (w334 B) (cc (w335 B) (cc (w336 B) (cc (w337 B) (cc (w338 B) (cc (w339 B) (cc (w340 B) (cc (w341 B) (cc (w342 B) rfl)))))))))))))))))))))))))))))))))))))))))))
end
end Go.AI.T
