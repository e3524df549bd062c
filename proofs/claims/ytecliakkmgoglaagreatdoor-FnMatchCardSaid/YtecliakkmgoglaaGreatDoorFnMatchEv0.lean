/- The evaluation, part 0. -/
import Derived.Test.YtecliakkmgoglaaGreatDoorFnMatchBad
import Derived.KernelRfl
set_option maxRecDepth 100000
namespace Go.AI.T
open Go Go.RowKit Go.AI
noncomputable section
variable (B:Blk)
theorem w0:okS (oM B) 6 0=true:=by kernel_rfl
theorem w1:okS (oM B) 6 1=true:=by kernel_rfl
theorem w2:okS (oM B) 6 2=true:=by kernel_rfl
theorem w3:okS (oM B) 6 3=true:=by kernel_rfl
theorem w4:okS (oM B) 6 4=true:=by kernel_rfl
theorem w5:okS (oM B) 6 5=true:=by kernel_rfl
theorem w6:okS (oM B) 6 6=true:=by kernel_rfl
theorem w7:okS (oM B) 6 7=true:=by kernel_rfl
theorem w8:okS (oM B) 6 8=true:=by kernel_rfl
theorem w9:okS (oM B) 6 9=true:=by kernel_rfl
theorem w10:okS (oM B) 6 10=true:=by kernel_rfl
theorem w11:okS (oM B) 6 11=true:=by kernel_rfl
theorem w12:okS (oM B) 6 12=true:=by kernel_rfl
theorem w13:okS (oM B) 6 13=true:=by kernel_rfl
theorem w14:okS (oM B) 6 14=true:=by kernel_rfl
theorem w15:okS (oM B) 6 15=true:=by kernel_rfl
theorem w16:okS (oM B) 6 16=true:=by kernel_rfl
theorem w17:okS (oM B) 6 17=true:=by kernel_rfl
theorem w18:okS (oM B) 6 18=true:=by kernel_rfl
theorem w19:okS (oM B) 6 19=true:=by kernel_rfl
theorem w20:okS (oM B) 6 20=true:=by kernel_rfl
theorem w21:okS (oM B) 6 21=true:=by kernel_rfl
theorem w22:okS (oM B) 6 22=true:=by kernel_rfl
theorem w23:okS (oM B) 6 23=true:=by kernel_rfl
theorem w24:okS (oM B) 6 24=true:=by kernel_rfl
theorem w25:okS (oM B) 6 25=true:=by kernel_rfl
theorem w26:okS (oM B) 6 26=true:=by kernel_rfl
theorem w27:okS (oM B) 6 27=true:=by kernel_rfl
theorem w28:okS (oM B) 6 28=true:=by kernel_rfl
theorem w29:okS (oM B) 6 29=true:=by kernel_rfl
theorem w30:okS (oM B) 6 30=true:=by kernel_rfl
theorem w31:okS (oM B) 6 31=true:=by kernel_rfl
theorem w32:okS (oM B) 6 32=true:=by kernel_rfl
theorem w33:okS (oM B) 6 33=true:=by kernel_rfl
theorem w34:okS (oM B) 6 34=true:=by kernel_rfl
theorem w35:okS (oM B) 6 35=true:=by kernel_rfl
theorem w36:okS (oM B) 6 36=true:=by kernel_rfl
theorem w37:okS (oM B) 6 37=true:=by kernel_rfl
theorem w38:okS (oM B) 6 38=true:=by kernel_rfl
theorem w39:okS (oM B) 6 39=true:=by kernel_rfl
theorem w40:okS (oM B) 6 40=true:=by kernel_rfl
theorem w41:okS (oM B) 6 41=true:=by kernel_rfl
theorem w_0:okL (oM B) 6 0 42=true:=(cc (w0 B) (cc (w1 B) (cc (w2 B) (cc (w3 B) (cc (w4 B) (cc (w5 B) (cc (w6 B) (cc (w7 B) (cc (w8 B) (cc (w9 B) (cc (w10 B) (cc (w11 B) (cc (w12 B) (cc (w13 B) (cc (w14 B) (cc (w15 B) (cc (w16 B) (cc (w17 B) (cc (w18 B) (cc (w19 B) (cc (w20 B) (cc (w21 B) (cc (w22 B) (cc (w23 B) (cc (w24 B) (cc (w25 B) (cc (w26 B) (cc (w27 B) (cc (w28 B) (cc (w29 B) (cc (w30 B) (cc (w31 B) (cc (w32 B) (cc (w33 B) (cc (w34 B) (cc (w35 B) (cc (w36 B) (cc (w37 B) (cc (w38 B) (cc (w39 B) (cc (w40 B) (cc (w41 B) rfl))))))))))))))))))))))))))))))))))))))))))
end
end Go.AI.T
