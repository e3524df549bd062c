/- The evaluation, part 1. -/
import Derived.Test.YtecliakkmgoglaaGreatDoorFnAtBad
import Derived.KernelRfl
set_option maxRecDepth 100000
namespace Go.AI.T
open Go Go.RowKit Go.AI
noncomputable section
variable (B:Blk)
theorem w28:okS (ok_FnAt B) 6 28=true:=by kernel_rfl
theorem w29:okS (ok_FnAt B) 6 29=true:=by kernel_rfl
theorem w30:okS (ok_FnAt B) 6 30=true:=by kernel_rfl
theorem w31:okS (ok_FnAt B) 6 31=true:=by kernel_rfl
theorem w32:okS (ok_FnAt B) 6 32=true:=by kernel_rfl
theorem w33:okS (ok_FnAt B) 6 33=true:=by kernel_rfl
theorem w34:okS (ok_FnAt B) 6 34=true:=by kernel_rfl
theorem w35:okS (ok_FnAt B) 6 35=true:=by kernel_rfl
theorem w36:okS (ok_FnAt B) 6 36=true:=by kernel_rfl
theorem w37:okS (ok_FnAt B) 6 37=true:=by kernel_rfl
theorem w38:okS (ok_FnAt B) 6 38=true:=by kernel_rfl
theorem w39:okS (ok_FnAt B) 6 39=true:=by kernel_rfl
theorem w40:okS (ok_FnAt B) 6 40=true:=by kernel_rfl
theorem w41:okS (ok_FnAt B) 6 41=true:=by kernel_rfl
theorem w42:okS (ok_FnAt B) 6 42=true:=by kernel_rfl
theorem w43:okS (ok_FnAt B) 6 43=true:=by kernel_rfl
theorem w44:okS (ok_FnAt B) 6 44=true:=by kernel_rfl
theorem w45:okS (ok_FnAt B) 6 45=true:=by kernel_rfl
theorem w46:okS (ok_FnAt B) 6 46=true:=by kernel_rfl
theorem w47:okS (ok_FnAt B) 6 47=true:=by kernel_rfl
theorem w48:okS (ok_FnAt B) 6 48=true:=by kernel_rfl
theorem w49:okS (ok_FnAt B) 6 49=true:=by kernel_rfl
theorem w50:okS (ok_FnAt B) 6 50=true:=by kernel_rfl
theorem w51:okS (ok_FnAt B) 6 51=true:=by kernel_rfl
theorem w52:okS (ok_FnAt B) 6 52=true:=by kernel_rfl
theorem w53:okS (ok_FnAt B) 6 53=true:=by kernel_rfl
theorem w54:okS (ok_FnAt B) 6 54=true:=by kernel_rfl
theorem w55:okS (ok_FnAt B) 6 55=true:=by kernel_rfl
theorem w56:okS (ok_FnAt B) 6 56=true:=by kernel_rfl
theorem w_1:okL (ok_FnAt B) 6 28 29=true:=(cc (w28 B) (cc (w29 B) (cc (w30 B) (cc (w31 B) (cc (w32 B) (cc (w33 B) (cc (w34 B) (cc (w35 B) (cc (w36 B) (cc (w37 B) (cc (w38 B) (cc (w39 B) (cc (w40 B) (cc (w41 B) (cc (w42 B) (cc (w43 B) (cc (w44 B) (cc (w45 B) (cc (w46 B) (cc (w47 B) (cc (w48 B) (cc (w49 B) (cc (w50 B) (cc (w51 B) (cc (w52 B) (cc (w53 B) (cc (w54 B) (cc (w55 B) (cc (w56 B) rfl)))))))))))))))))))))))))))))
end
end Go.AI.T
