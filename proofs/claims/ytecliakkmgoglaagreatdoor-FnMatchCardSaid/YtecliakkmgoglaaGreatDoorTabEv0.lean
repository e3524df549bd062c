/- The evaluation, part 0. -/
import Derived.Test.YtecliakkmgoglaaGreatDoorTabFn
import Derived.KernelRfl
set_option linter.unusedVariables false
set_option linter.unusedSimpArgs false
set_option maxRecDepth 100000
namespace Go.AI.T
open Go Go.RowKit Go.AI
noncomputable section
theorem t0:okS ok_Tab 10 0=true:=by kernel_rfl
theorem t1:okS ok_Tab 10 1=true:=by kernel_rfl
theorem t2:okS ok_Tab 10 2=true:=by kernel_rfl
theorem t3:okS ok_Tab 10 3=true:=by kernel_rfl
theorem t4:okS ok_Tab 10 4=true:=by kernel_rfl
theorem t5:okS ok_Tab 10 5=true:=by kernel_rfl
theorem t6:okS ok_Tab 10 6=true:=by kernel_rfl
theorem t7:okS ok_Tab 10 7=true:=by kernel_rfl
theorem t8:okS ok_Tab 10 8=true:=by kernel_rfl
theorem t9:okS ok_Tab 10 9=true:=by kernel_rfl
theorem t10:okS ok_Tab 10 10=true:=by kernel_rfl
theorem t11:okS ok_Tab 10 11=true:=by kernel_rfl
theorem t12:okS ok_Tab 10 12=true:=by kernel_rfl
theorem t13:okS ok_Tab 10 13=true:=by kernel_rfl
theorem t14:okS ok_Tab 10 14=true:=by kernel_rfl
theorem t15:okS ok_Tab 10 15=true:=by kernel_rfl
theorem t16:okS ok_Tab 10 16=true:=by kernel_rfl
theorem t17:okS ok_Tab 10 17=true:=by kernel_rfl
theorem t18:okS ok_Tab 10 18=true:=by kernel_rfl
theorem t19:okS ok_Tab 10 19=true:=by kernel_rfl
theorem t20:okS ok_Tab 10 20=true:=by kernel_rfl
theorem t21:okS ok_Tab 10 21=true:=by kernel_rfl
theorem t22:okS ok_Tab 10 22=true:=by kernel_rfl
theorem t23:okS ok_Tab 10 23=true:=by kernel_rfl
theorem t24:okS ok_Tab 10 24=true:=by kernel_rfl
theorem t_0:okL ok_Tab 10 0 25=true:=(cc t0 (cc t1 (cc t2 (cc t3 (cc t4 (cc t5 (cc t6 (cc t7 (cc t8 (cc t9 (cc t10 (cc t11 (cc t12 (cc t13 (cc t14 (cc t15 (cc t16 (cc t17 (cc t18 (cc t19 (cc t20 (cc t21 (cc t22 (cc t23 (cc t24 rfl)))))))))))))))))))))))))
end
end Go.AI.T
