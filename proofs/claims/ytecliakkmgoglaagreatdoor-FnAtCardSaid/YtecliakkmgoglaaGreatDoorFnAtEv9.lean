/- The evaluation, part 8. -/
import Derived.Test.YtecliakkmgoglaaGreatDoorFnAtBad
import Derived.KernelRfl
set_option maxRecDepth 100000
namespace Go.AI.T
open Go Go.RowKit Go.AI
noncomputable section
variable (B:Blk)
theorem w285:okS (ok_FnAt B) 6 285=true:=by kernel_rfl
theorem w286:okS (ok_FnAt B) 6 286=true:=by kernel_rfl
theorem w287:okS (ok_FnAt B) 6 287=true:=by kernel_rfl
theorem w288:okS (ok_FnAt B) 6 288=true:=by kernel_rfl
theorem w289:okS (ok_FnAt B) 6 289=true:=by kernel_rfl
theorem w290:okS (ok_FnAt B) 6 290=true:=by kernel_rfl
theorem w291:okS (ok_FnAt B) 6 291=true:=by kernel_rfl
theorem w292:okS (ok_FnAt B) 6 292=true:=by kernel_rfl
theorem w293:okS (ok_FnAt B) 6 293=true:=by kernel_rfl
theorem w294:okS (ok_FnAt B) 6 294=true:=by kernel_rfl
theorem w295:okS (ok_FnAt B) 6 295=true:=by kernel_rfl
theorem w296:okS (ok_FnAt B) 6 296=true:=by kernel_rfl
theorem w297:okS (ok_FnAt B) 6 297=true:=by kernel_rfl
theorem w298:okS (ok_FnAt B) 6 298=true:=by kernel_rfl
theorem w299:okS (ok_FnAt B) 6 299=true:=by kernel_rfl
theorem w300:okS (ok_FnAt B) 6 300=true:=by kernel_rfl
theorem w301:okS (ok_FnAt B) 6 301=true:=by kernel_rfl
theorem w302:okS (ok_FnAt B) 6 302=true:=by kernel_rfl
theorem w303:okS (ok_FnAt B) 6 303=true:=by kernel_rfl
theorem w304:okS (ok_FnAt B) 6 304=true:=by kernel_rfl
theorem w305:okS (ok_FnAt B) 6 305=true:=by kernel_rfl
theorem w306:okS (ok_FnAt B) 6 306=true:=by kernel_rfl
theorem w307:okS (ok_FnAt B) 6 307=true:=by kernel_rfl
theorem w308:okS (ok_FnAt B) 6 308=true:=by kernel_rfl
theorem w309:okS (ok_FnAt B) 6 309=true:=by kernel_rfl
theorem w310:okS (ok_FnAt B) 6 310=true:=by kernel_rfl
theorem w311:okS (ok_FnAt B) 6 311=true:=by kernel_rfl
theorem w312:okS (ok_FnAt B) 6 312=true:=by kernel_rfl
theorem w313:okS (ok_FnAt B) 6 313=true:=by kernel_rfl
theorem w_10:okL (ok_FnAt B) 6 285 29=true:=(cc (w285 B) (cc (w286 B) (cc (w287 B) (cc (w288 B) (cc (w289 B) (cc (w290 B) (cc (w291 B) (cc (w292 B) (cc (w293 B) (cc (w294 B) (cc (w295 B) (cc (w296 B) (cc (w297 B) (cc (w298 B) (cc (w299 B) (cc (w300 B) (cc (w301 B) (cc (w302 B) (cc (w303 B) (cc (w304 B) (cc (w305 B) (cc (w306 B) (cc (w307 B) (cc (w308 B) (cc (w309 B) (cc (w310 B) (cc (w311 B) (cc (w312 B) (cc (w313 B) rfl)))))))))))))))))))))))))))))
theorem w314:okS (ok_FnAt B) 6 314=true:=by kernel_rfl
theorem w315:okS (ok_FnAt B) 6 315=true:=by kernel_rfl
theorem w316:okS (ok_FnAt B) 6 316=true:=by kernel_rfl
theorem w317:okS (ok_FnAt B) 6 317=true:=by kernel_rfl
theorem w318:okS (ok_FnAt B) 6 318=true:=by kernel_rfl
theorem w319:okS (ok_FnAt B) 6 319=true:=by kernel_rfl
theorem w320:okS (ok_FnAt B) 6 320=true:=by kernel_rfl
theorem w321:okS (ok_FnAt B) 6 321=true:=by kernel_rfl
theorem w322:okS (ok_FnAt B) 6 322=true:=by kernel_rfl
theorem w323:okS (ok_FnAt B) 6 323=true:=by kernel_rfl
theorem w324:okS (ok_FnAt B) 6 324=true:=by kernel_rfl
theorem w325:okS (ok_FnAt B) 6 325=true:=by kernel_rfl
theorem w326:okS (ok_FnAt B) 6 326=true:=by kernel_rfl
theorem w327:okS (ok_FnAt B) 6 327=true:=by kernel_rfl
theorem w328:okS (ok_FnAt B) 6 328=true:=by kernel_rfl
theorem w329:okS (ok_FnAt B) 6 329=true:=by kernel_rfl
theorem w330:okS (ok_FnAt B) 6 330=true:=by kernel_rfl
theorem w331:okS (ok_FnAt B) 6 331=true:=by kernel_rfl
theorem w332:okS (ok_FnAt B) 6 332=true:=by kernel_rfl
theorem w333:okS (ok_FnAt B) 6 333=true:=by kernel_rfl
theorem w334:okS (ok_FnAt B) 6 334=true:=by kernel_rfl
theorem w335:okS (ok_FnAt B) 6 335=true:=by kernel_rfl
theorem w336:okS (ok_FnAt B) 6 336=true:=by kernel_rfl
theorem w337:okS (ok_FnAt B) 6 337=true:=by kernel_rfl
theorem w338:okS (ok_FnAt B) 6 338=true:=by kernel_rfl
theorem w339:okS (ok_FnAt B) 6 339=true:=by kernel_rfl
theorem w340:okS (ok_FnAt B) 6 340=true:=by kernel_rfl
theorem w341:okS (ok_FnAt B) 6 341=true:=by kernel_rfl
theorem w342:okS (ok_FnAt B) 6 342=true:=by kernel_rfl
theorem w_11:okL (ok_FnAt B) 6 314 29=true:=(cc (w314 B) (cc (w315 B) (cc (w316 B) (cc (w317 B) (cc (w318 B) (cc (w319 B) (cc (w320 B) (cc (w321 B) (cc (w322 B) (cc (w323 B) (cc (w324 B) (cc (w325 B) (cc (w326 B) (cc (w327 B) (cc (w328 B) (cc (w329 B) (cc (w330 B) (cc (w331 B) (cc (w332 B) (cc (w333 B) (cc (w334 B) (cc (w335 B) (cc (w336 B) (cc (w337 B) (cc (w338 B) (cc (w339 B) (cc (w340 B) (cc (w341 B) (cc (w342 B) rfl)))))))))))))))))))))))))))))
end
end Go.AI.T
