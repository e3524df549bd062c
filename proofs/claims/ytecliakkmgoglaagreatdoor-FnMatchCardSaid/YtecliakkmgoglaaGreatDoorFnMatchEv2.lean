/- The evaluation, part 2. -/
import Derived.Test.YtecliakkmgoglaaGreatDoorFnMatchBad
import Derived.KernelRfl
set_option maxRecDepth 100000
namespace Go.AI.T
open Go Go.RowKit Go.AI
noncomputable section
variable (B:Blk)
theorem w85:okS (oM B) 6 85=true:=by kernel_rfl
theorem w86:okS (oM B) 6 86=true:=by kernel_rfl
theorem w87:okS (oM B) 6 87=true:=by kernel_rfl
theorem w88:okS (oM B) 6 88=true:=by kernel_rfl
theorem w89:okS (oM B) 6 89=true:=by kernel_rfl
theorem w90:okS (oM B) 6 90=true:=by kernel_rfl
theorem w91:okS (oM B) 6 91=true:=by kernel_rfl
theorem w92:okS (oM B) 6 92=true:=by kernel_rfl
theorem w93:okS (oM B) 6 93=true:=by kernel_rfl
theorem w94:okS (oM B) 6 94=true:=by kernel_rfl
theorem w95:okS (oM B) 6 95=true:=by kernel_rfl
theorem w96:okS (oM B) 6 96=true:=by kernel_rfl
theorem w97:okS (oM B) 6 97=true:=by kernel_rfl
theorem w98:okS (oM B) 6 98=true:=by kernel_rfl
theorem w99:okS (oM B) 6 99=true:=by kernel_rfl
theorem w100:okS (oM B) 6 100=true:=by kernel_rfl
theorem w101:okS (oM B) 6 101=true:=by kernel_rfl
theorem w102:okS (oM B) 6 102=true:=by kernel_rfl
theorem w103:okS (oM B) 6 103=true:=by kernel_rfl
theorem w104:okS (oM B) 6 104=true:=by kernel_rfl
theorem w105:okS (oM B) 6 105=true:=by kernel_rfl
theorem w106:okS (oM B) 6 106=true:=by kernel_rfl
theorem w107:okS (oM B) 6 107=true:=by kernel_rfl
theorem w108:okS (oM B) 6 108=true:=by kernel_rfl
theorem w109:okS (oM B) 6 109=true:=by kernel_rfl
theorem w110:okS (oM B) 6 110=true:=by kernel_rfl
theorem w111:okS (oM B) 6 111=true:=by kernel_rfl
theorem w112:okS (oM B) 6 112=true:=by kernel_rfl
theorem w113:okS (oM B) 6 113=true:=by kernel_rfl
theorem w114:okS (oM B) 6 114=true:=by kernel_rfl
theorem w115:okS (oM B) 6 115=true:=by kernel_rfl
theorem w116:okS (oM B) 6 116=true:=by kernel_rfl
theorem w117:okS (oM B) 6 117=true:=by kernel_rfl
theorem w118:okS (oM B) 6 118=true:=by kernel_rfl
theorem w119:okS (oM B) 6 119=true:=by kernel_rfl
theorem w120:okS (oM B) 6 120=true:=by kernel_rfl
theorem w121:okS (oM B) 6 121=true:=by kernel_rfl
theorem w122:okS (oM B) 6 122=true:=by kernel_rfl
theorem w123:okS (oM B) 6 123=true:=by kernel_rfl
theorem w124:okS (oM B) 6 124=true:=by kernel_rfl
theorem w125:okS (oM B) 6 125=true:=by kernel_rfl
theorem w126:okS (oM B) 6 126=true:=by kernel_rfl
theorem w127:okS (oM B) 6 127=true:=by kernel_rfl
theorem w_2:okL (oM B) 6 85 43=true:=(cc (w85 B) (cc (w86 B) (cc (w87 B) (cc (w88 B) (cc (w89 B) (cc (w90 B) (cc (w91 B) (cc (w92 B) (cc (w93 B) (cc (w94 B) (cc (w95 B) (cc (w96 B) (cc (w97 B) (cc (w98 B) (cc (w99 B) (cc (w100 B) (cc (w101 B) (cc (w102 B) (cc (w103 B) (cc (w104 B) (cc (w105 B) (cc (w106 B) (cc (w107 B) (cc (w108 B) (cc (w109 B) (cc (w110 B) (cc (w111 B) (cc (w112 B) (cc (w113 B) (cc (w114 B) (cc (w115 B) (cc (w116 B) (cc (w117 B) (cc (w118 B) (cc (w119 B) (cc (w120 B) (cc (w121 B) (cc (w122 B) (cc (w123 B) (cc (w124 B) (cc (w125 B) (cc (w126 B) (cc (w127 B) rfl)))))))))))))))))))))))))))))))))))))))))))
end
end Go.AI.T
