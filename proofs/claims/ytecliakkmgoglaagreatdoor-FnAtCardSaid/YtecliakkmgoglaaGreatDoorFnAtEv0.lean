/- The evaluation, part 0. -/
import Derived.Test.YtecliakkmgoglaaGreatDoorFnAtBad
import Derived.KernelRfl
set_option maxRecDepth 100000
namespace Go.AI.T
open Go Go.RowKit Go.AI
noncomputable section
variable (B:Blk)
theorem w0:okS (ok_FnAt B) 6 0=true:=by kernel_rfl
theorem w1:okS (ok_FnAt B) 6 1=true:=by kernel_rfl
theorem w2:okS (ok_FnAt B) 6 2=true:=by kernel_rfl
theorem w3:okS (ok_FnAt B) 6 3=true:=by kernel_rfl
theorem w4:okS (ok_FnAt B) 6 4=true:=by kernel_rfl
theorem w5:okS (ok_FnAt B) 6 5=true:=by kernel_rfl
theorem w6:okS (ok_FnAt B) 6 6=true:=by kernel_rfl
theorem w7:okS (ok_FnAt B) 6 7=true:=by kernel_rfl
theorem w8:okS (ok_FnAt B) 6 8=true:=by kernel_rfl
theorem w9:okS (ok_FnAt B) 6 9=true:=by kernel_rfl
theorem w10:okS (ok_FnAt B) 6 10=true:=by kernel_rfl
theorem w11:okS (ok_FnAt B) 6 11=true:=by kernel_rfl
theorem w12:okS (ok_FnAt B) 6 12=true:=by kernel_rfl
theorem w13:okS (ok_FnAt B) 6 13=true:=by kernel_rfl
theorem w14:okS (ok_FnAt B) 6 14=true:=by kernel_rfl
theorem w15:okS (ok_FnAt B) 6 15=true:=by kernel_rfl
theorem w16:okS (ok_FnAt B) 6 16=true:=by kernel_rfl
theorem w17:okS (ok_FnAt B) 6 17=true:=by kernel_rfl
theorem w18:okS (ok_FnAt B) 6 18=true:=by kernel_rfl
theorem w19:okS (ok_FnAt B) 6 19=true:=by kernel_rfl
theorem w20:okS (ok_FnAt B) 6 20=true:=by kernel_rfl
theorem w21:okS (ok_FnAt B) 6 21=true:=by kernel_rfl
theorem w22:okS (ok_FnAt B) 6 22=true:=by kernel_rfl
theorem w23:okS (ok_FnAt B) 6 23=true:=by kernel_rfl
theorem w24:okS (ok_FnAt B) 6 24=true:=by kernel_rfl
theorem w25:okS (ok_FnAt B) 6 25=true:=by kernel_rfl
theorem w26:okS (ok_FnAt B) 6 26=true:=by kernel_rfl
theorem w27:okS (ok_FnAt B) 6 27=true:=by kernel_rfl
theorem w_0:okL (ok_FnAt B) 6 0 28=true:=(cc (w0 B) (cc (w1 B) (cc (w2 B) (cc (w3 B) (cc (w4 B) (cc (w5 B) (cc (w6 B) (cc (w7 B) (cc (w8 B) (cc (w9 B) (cc (w10 B) (cc (w11 B) (cc (w12 B) (cc (w13 B) (cc (w14 B) (cc (w15 B) (cc (w16 B) (cc (w17 B) (cc (w18 B) (cc (w19 B) (cc (w20 B) (cc (w21 B) (cc (w22 B) (cc (w23 B) (cc (w24 B) (cc (w25 B) (cc (w26 B) (cc (w27 B) rfl))))))))))))))))))))))))))))
end
end Go.AI.T
