/- The evaluation, part 3. -/
import Derived.Test.YtecliakkmgoglaaGreatDoorTabFn
import Derived.KernelRfl
set_option linter.unusedVariables false
set_option linter.unusedSimpArgs false
set_option maxRecDepth 100000
namespace Go.AI.T
open Go Go.RowKit Go.AI
noncomputable section
theorem t77:okS ok_Tab 10 77=true:=by kernel_rfl
theorem t78:okS ok_Tab 10 78=true:=by kernel_rfl
theorem t79:okS ok_Tab 10 79=true:=by kernel_rfl
theorem t80:okS ok_Tab 10 80=true:=by kernel_rfl
theorem t81:okS ok_Tab 10 81=true:=by kernel_rfl
theorem t82:okS ok_Tab 10 82=true:=by kernel_rfl
theorem t83:okS ok_Tab 10 83=true:=by kernel_rfl
theorem t84:okS ok_Tab 10 84=true:=by kernel_rfl
theorem t85:okS ok_Tab 10 85=true:=by kernel_rfl
theorem t86:okS ok_Tab 10 86=true:=by kernel_rfl
theorem t87:okS ok_Tab 10 87=true:=by kernel_rfl
theorem t88:okS ok_Tab 10 88=true:=by kernel_rfl
theorem t89:okS ok_Tab 10 89=true:=by kernel_rfl
theorem t90:okS ok_Tab 10 90=true:=by kernel_rfl
theorem t91:okS ok_Tab 10 91=true:=by kernel_rfl
theorem t92:okS ok_Tab 10 92=true:=by kernel_rfl
theorem t93:okS ok_Tab 10 93=true:=by kernel_rfl
theorem t94:okS ok_Tab 10 94=true:=by kernel_rfl
theorem t95:okS ok_Tab 10 95=true:=by kernel_rfl
theorem t96:okS ok_Tab 10 96=true:=by kernel_rfl
theorem t97:okS ok_Tab 10 97=true:=by kernel_rfl
theorem t98:okS ok_Tab 10 98=true:=by kernel_rfl
theorem t99:okS ok_Tab 10 99=true:=by kernel_rfl
theorem t100:okS ok_Tab 10 100=true:=by kernel_rfl
theorem t101:okS ok_Tab 10 101=true:=by kernel_rfl
theorem t102:okS ok_Tab 10 102=true:=by kernel_rfl
theorem t_3:okL ok_Tab 10 77 26=true:=(cc t77 (cc t78 (cc t79 (cc t80 (cc t81 (cc t82 (cc t83 (cc t84 (cc t85 (cc t86 (cc t87 (cc t88 (cc t89 (cc t90 (cc t91 (cc t92 (cc t93 (cc t94 (cc t95 (cc t96 (cc t97 (cc t98 (cc t99 (cc t100 (cc t101 (cc t102 rfl))))))))))))))))))))))))))
end
end Go.AI.T
