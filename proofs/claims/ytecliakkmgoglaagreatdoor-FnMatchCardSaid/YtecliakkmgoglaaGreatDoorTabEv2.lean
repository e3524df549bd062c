/- The evaluation, part 2. -/
import Derived.Test.YtecliakkmgoglaaGreatDoorTabFn
import Derived.KernelRfl
set_option linter.unusedVariables false
set_option linter.unusedSimpArgs false
set_option maxRecDepth 100000
namespace Go.AI.T
open Go Go.RowKit Go.AI
noncomputable section
theorem t51:okS ok_Tab 10 51=true:=by kernel_rfl
theorem t52:okS ok_Tab 10 52=true:=by kernel_rfl
theorem t53:okS ok_Tab 10 53=true:=by kernel_rfl
theorem t54:okS ok_Tab 10 54=true:=by kernel_rfl
theorem t55:okS ok_Tab 10 55=true:=by kernel_rfl
theorem t56:okS ok_Tab 10 56=true:=by kernel_rfl
theorem t57:okS ok_Tab 10 57=true:=by kernel_rfl
theorem t58:okS ok_Tab 10 58=true:=by kernel_rfl
theorem t59:okS ok_Tab 10 59=true:=by kernel_rfl
theorem t60:okS ok_Tab 10 60=true:=by kernel_rfl
theorem t61:okS ok_Tab 10 61=true:=by kernel_rfl
theorem t62:okS ok_Tab 10 62=true:=by kernel_rfl
theorem t63:okS ok_Tab 10 63=true:=by kernel_rfl
theorem t64:okS ok_Tab 10 64=true:=by kernel_rfl
theorem t65:okS ok_Tab 10 65=true:=by kernel_rfl
theorem t66:okS ok_Tab 10 66=true:=by kernel_rfl
theorem t67:okS ok_Tab 10 67=true:=by kernel_rfl
theorem t68:okS ok_Tab 10 68=true:=by kernel_rfl
theorem t69:okS ok_Tab 10 69=true:=by kernel_rfl
theorem t70:okS ok_Tab 10 70=true:=by kernel_rfl
theorem t71:okS ok_Tab 10 71=true:=by kernel_rfl
theorem t72:okS ok_Tab 10 72=true:=by kernel_rfl
theorem t73:okS ok_Tab 10 73=true:=by kernel_rfl
theorem t74:okS ok_Tab 10 74=true:=by kernel_rfl
theorem t75:okS ok_Tab 10 75=true:=by kernel_rfl
theorem t76:okS ok_Tab 10 76=true:=by kernel_rfl
theorem t_2:okL ok_Tab 10 51 26=true:=(cc t51 (cc t52 (cc t53 (cc t54 (cc t55 (cc t56 (cc t57 (cc t58 (cc t59 (cc t60 (cc t61 (cc t62 (cc t63 (cc t64 (cc t65 (cc t66 (cc t67 (cc t68 (cc t69 (cc t70 (cc t71 (cc t72 (cc t73 (cc t74 (cc t75 (cc t76 rfl))))))))))))))))))))))))))
end
end Go.AI.T
