/- The evaluation, part 4. -/
import Derived.Test.YtecliakkmgoglaaGreatDoorTabFn
import Derived.KernelRfl
set_option linter.unusedVariables false
set_option linter.unusedSimpArgs false
set_option maxRecDepth 100000
namespace Go.AI.T
open Go Go.RowKit Go.AI
noncomputable section
theorem t103:okS ok_Tab 10 103=true:=by kernel_rfl
theorem t104:okS ok_Tab 10 104=true:=by kernel_rfl
theorem t105:okS ok_Tab 10 105=true:=by kernel_rfl
theorem t106:okS ok_Tab 10 106=true:=by kernel_rfl
theorem t107:okS ok_Tab 10 107=true:=by kernel_rfl
theorem t108:okS ok_Tab 10 108=true:=by kernel_rfl
theorem t109:okS ok_Tab 10 109=true:=by kernel_rfl
theorem t110:okS ok_Tab 10 110=true:=by kernel_rfl
theorem t111:okS ok_Tab 10 111=true:=by kernel_rfl
theorem t112:okS ok_Tab 10 112=true:=by kernel_rfl
theorem t113:okS ok_Tab 10 113=true:=by kernel_rfl
theorem t114:okS ok_Tab 10 114=true:=by kernel_rfl
theorem t115:okS ok_Tab 10 115=true:=by kernel_rfl
theorem t116:okS ok_Tab 10 116=true:=by kernel_rfl
theorem t117:okS ok_Tab 10 117=true:=by kernel_rfl
theorem t118:okS ok_Tab 10 118=true:=by kernel_rfl
theorem t119:okS ok_Tab 10 119=true:=by kernel_rfl
theorem t120:okS ok_Tab 10 120=true:=by kernel_rfl
theorem t121:okS ok_Tab 10 121=true:=by kernel_rfl
theorem t122:okS ok_Tab 10 122=true:=by kernel_rfl
theorem t123:okS ok_Tab 10 123=true:=by kernel_rfl
theorem t124:okS ok_Tab 10 124=true:=by kernel_rfl
theorem t125:okS ok_Tab 10 125=true:=by kernel_rfl
theorem t126:okS ok_Tab 10 126=true:=by kernel_rfl
theorem t127:okS ok_Tab 10 127=true:=by kernel_rfl
theorem t_4:okL ok_Tab 10 103 25=true:=(cc t103 (cc t104 (cc t105 (cc t106 (cc t107 (cc t108 (cc t109 (cc t110 (cc t111 (cc t112 (cc t113 (cc t114 (cc t115 (cc t116 (cc t117 (cc t118 (cc t119 (cc t120 (cc t121 (cc t122 (cc t123 (cc t124 (cc t125 (cc t126 (cc t127 rfl)))))))))))))))))))))))))
end
end Go.AI.T
