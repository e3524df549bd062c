/- The evaluation, part 1. -/
import Derived.Test.YtecliakkmgoglaaGreatDoorTabFn
import Derived.KernelRfl
set_option linter.unusedVariables false
set_option linter.unusedSimpArgs false
set_option maxRecDepth 100000
namespace Go.AI.T
open Go Go.RowKit Go.AI
noncomputable section
theorem t25:okS ok_Tab 10 25=true:=by kernel_rfl
theorem t26:okS ok_Tab 10 26=true:=by kernel_rfl
theorem t27:okS ok_Tab 10 27=true:=by kernel_rfl
theorem t28:okS ok_Tab 10 28=true:=by kernel_rfl
theorem t29:okS ok_Tab 10 29=true:=by kernel_rfl
theorem t30:okS ok_Tab 10 30=true:=by kernel_rfl
theorem t31:okS ok_Tab 10 31=true:=by kernel_rfl
theorem t32:okS ok_Tab 10 32=true:=by kernel_rfl
theorem t33:okS ok_Tab 10 33=true:=by kernel_rfl
theorem t34:okS ok_Tab 10 34=true:=by kernel_rfl
theorem t35:okS ok_Tab 10 35=true:=by kernel_rfl
theorem t36:okS ok_Tab 10 36=true:=by kernel_rfl
theorem t37:okS ok_Tab 10 37=true:=by kernel_rfl
theorem t38:okS ok_Tab 10 38=true:=by kernel_rfl
theorem t39:okS ok_Tab 10 39=true:=by kernel_rfl
theorem t40:okS ok_Tab 10 40=true:=by kernel_rfl
theorem t41:okS ok_Tab 10 41=true:=by kernel_rfl
theorem t42:okS ok_Tab 10 42=true:=by kernel_rfl
theorem t43:okS ok_Tab 10 43=true:=by kernel_rfl
theorem t44:okS ok_Tab 10 44=true:=by kernel_rfl
theorem t45:okS ok_Tab 10 45=true:=by kernel_rfl
theorem t46:okS ok_Tab 10 46=true:=by kernel_rfl
theorem t47:okS ok_Tab 10 47=true:=by kernel_rfl
theorem t48:okS ok_Tab 10 48=true:=by kernel_rfl
theorem t49:okS ok_Tab 10 49=true:=by kernel_rfl
theorem t50:okS ok_Tab 10 50=true:=by kernel_rfl
theorem t_1:okL ok_Tab 10 25 26=true:=(cc t25 (cc t26 (cc t27 (cc t28 (cc t29 (cc t30 (cc t31 (cc t32 (cc t33 (cc t34 (cc t35 (cc t36 (cc t37 (cc t38 (cc t39 (cc t40 (cc t41 (cc t42 (cc t43 (cc t44 (cc t45 (cc t46 (cc t47 (cc t48 (cc t49 (cc t50 rfl))))))))))))))))))))))))))
end
end Go.AI.T
