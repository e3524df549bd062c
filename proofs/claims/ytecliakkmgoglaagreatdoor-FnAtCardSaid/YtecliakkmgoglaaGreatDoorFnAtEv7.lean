/- The evaluation, part 7. -/
import Derived.Test.YtecliakkmgoglaaGreatDoorFnAtBad
import Derived.KernelRfl
set_option maxRecDepth 100000
namespace Go.AI.T
open Go Go.RowKit Go.AI
noncomputable section
variable (B:Blk)
theorem w200:okS (ok_FnAt B) 6 200=true:=by kernel_rfl
theorem w201:okS (ok_FnAt B) 6 201=true:=by kernel_rfl
theorem w202:okS (ok_FnAt B) 6 202=true:=by kernel_rfl
theorem w203:okS (ok_FnAt B) 6 203=true:=by kernel_rfl
theorem w204:okS (ok_FnAt B) 6 204=true:=by kernel_rfl
theorem w205:okS (ok_FnAt B) 6 205=true:=by kernel_rfl
theorem w206:okS (ok_FnAt B) 6 206=true:=by kernel_rfl
theorem w207:okS (ok_FnAt B) 6 207=true:=by kernel_rfl
theorem w208:okS (ok_FnAt B) 6 208=true:=by kernel_rfl
theorem w209:okS (ok_FnAt B) 6 209=true:=by kernel_rfl
theorem w210:okS (ok_FnAt B) 6 210=true:=by kernel_rfl
theorem w211:okS (ok_FnAt B) 6 211=true:=by kernel_rfl
theorem w212:okS (ok_FnAt B) 6 212=true:=by kernel_rfl
theorem w213:okS (ok_FnAt B) 6 213=true:=by kernel_rfl
theorem w214:okS (ok_FnAt B) 6 214=true:=by kernel_rfl
theorem w215:okS (ok_FnAt B) 6 215=true:=by kernel_rfl
theorem w216:okS (ok_FnAt B) 6 216=true:=by kernel_rfl
theorem w217:okS (ok_FnAt B) 6 217=true:=by kernel_rfl
theorem w218:okS (ok_FnAt B) 6 218=true:=by kernel_rfl
theorem w219:okS (ok_FnAt B) 6 219=true:=by kernel_rfl
theorem w220:okS (ok_FnAt B) 6 220=true:=by kernel_rfl
theorem w221:okS (ok_FnAt B) 6 221=true:=by kernel_rfl
theorem w222:okS (ok_FnAt B) 6 222=true:=by kernel_rfl
theorem w223:okS (ok_FnAt B) 6 223=true:=by kernel_rfl
theorem w224:okS (ok_FnAt B) 6 224=true:=by kernel_rfl
theorem w225:okS (ok_FnAt B) 6 225=true:=by kernel_rfl
theorem w226:okS (ok_FnAt B) 6 226=true:=by kernel_rfl
theorem w227:okS (ok_FnAt B) 6 227=true:=by kernel_rfl
theorem w_7:okL (ok_FnAt B) 6 200 28=true:=(cc (w200 B) (cc (w201 B) (cc (w202 B) (cc (w203 B) (cc (w204 B) (cc (w205 B) (cc (w206 B) (cc (w207 B) (cc (w208 B) (cc (w209 B) (cc (w210 B) (cc (w211 B) (cc (w212 B) (cc (w213 B) (cc (w214 B) (cc (w215 B) (cc (w216 B) (cc (w217 B) (cc (w218 B) (cc (w219 B) (cc (w220 B) (cc (w221 B) (cc (w222 B) (cc (w223 B) (cc (w224 B) (cc (w225 B) (cc (w226 B) (cc (w227 B) rfl))))))))))))))))))))))))))))
end
end Go.AI.T
