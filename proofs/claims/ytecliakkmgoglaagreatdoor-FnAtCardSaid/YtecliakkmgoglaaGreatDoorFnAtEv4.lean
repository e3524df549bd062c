/- The evaluation, part 4. -/
import Derived.Test.YtecliakkmgoglaaGreatDoorFnAtBad
import Derived.KernelRfl
set_option maxRecDepth 100000
namespace Go.AI.T
open Go Go.RowKit Go.AI
noncomputable section
variable (B:Blk)
theorem w114:okS (ok_FnAt B) 6 114=true:=by kernel_rfl
theorem w115:okS (ok_FnAt B) 6 115=true:=by kernel_rfl
theorem w116:okS (ok_FnAt B) 6 116=true:=by kernel_rfl
theorem w117:okS (ok_FnAt B) 6 117=true:=by kernel_rfl
theorem w118:okS (ok_FnAt B) 6 118=true:=by kernel_rfl
theorem w119:okS (ok_FnAt B) 6 119=true:=by kernel_rfl
theorem w120:okS (ok_FnAt B) 6 120=true:=by kernel_rfl
theorem w121:okS (ok_FnAt B) 6 121=true:=by kernel_rfl
theorem w122:okS (ok_FnAt B) 6 122=true:=by kernel_rfl
theorem w123:okS (ok_FnAt B) 6 123=true:=by kernel_rfl
theorem w124:okS (ok_FnAt B) 6 124=true:=by kernel_rfl
theorem w125:okS (ok_FnAt B) 6 125=true:=by kernel_rfl
theorem w126:okS (ok_FnAt B) 6 126=true:=by kernel_rfl
theorem w127:okS (ok_FnAt B) 6 127=true:=by kernel_rfl
theorem w128:okS (ok_FnAt B) 6 128=true:=by kernel_rfl
theorem w129:okS (ok_FnAt B) 6 129=true:=by kernel_rfl
theorem w130:okS (ok_FnAt B) 6 130=true:=by kernel_rfl
theorem w131:okS (ok_FnAt B) 6 131=true:=by kernel_rfl
theorem w132:okS (ok_FnAt B) 6 132=true:=by kernel_rfl
theorem w133:okS (ok_FnAt B) 6 133=true:=by kernel_rfl
theorem w134:okS (ok_FnAt B) 6 134=true:=by kernel_rfl
theorem w135:okS (ok_FnAt B) 6 135=true:=by kernel_rfl
theorem w136:okS (ok_FnAt B) 6 136=true:=by kernel_rfl
theorem w137:okS (ok_FnAt B) 6 137=true:=by kernel_rfl
theorem w138:okS (ok_FnAt B) 6 138=true:=by kernel_rfl
theorem w139:okS (ok_FnAt B) 6 139=true:=by kernel_rfl
theorem w140:okS (ok_FnAt B) 6 140=true:=by kernel_rfl
theorem w141:okS (ok_FnAt B) 6 141=true:=by kernel_rfl
theorem w_4:okL (ok_FnAt B) 6 114 28=true:=(cc (w114 B) (cc (w115 B) (cc (w116 B) (cc (w117 B) (cc (w118 B) (cc (w119 B) (cc (w120 B) (cc (w121 B) (cc (w122 B) (cc (w123 B) (cc (w124 B) (cc (w125 B) (cc (w126 B) (cc (w127 B) (cc (w128 B) (cc (w129 B) (cc (w130 B) (cc (w131 B) (cc (w132 B) (cc (w133 B) (cc (w134 B) (cc (w135 B) (cc (w136 B) (cc (w137 B) (cc (w138 B) (cc (w139 B) (cc (w140 B) (cc (w141 B) rfl))))))))))))))))))))))))))))
end
end Go.AI.T
