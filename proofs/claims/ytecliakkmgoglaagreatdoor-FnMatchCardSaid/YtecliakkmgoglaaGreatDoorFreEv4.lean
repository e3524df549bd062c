/- The evaluation, part 4. -/
import Derived.Test.YtecliakkmgoglaaGreatDoorFreFn
import Derived.KernelRfl
set_option linter.unusedVariables false
set_option linter.unusedSimpArgs false
set_option maxRecDepth 100000
namespace Go.AI.T
open Go Go.RowKit Go.AI
noncomputable section
theorem e103:okS ok_Fre 10 103=true:=by kernel_rfl
theorem e104:okS ok_Fre 10 104=true:=by kernel_rfl
theorem e105:okS ok_Fre 10 105=true:=by kernel_rfl
theorem e106:okS ok_Fre 10 106=true:=by kernel_rfl
theorem e107:okS ok_Fre 10 107=true:=by kernel_rfl
theorem e108:okS ok_Fre 10 108=true:=by kernel_rfl
theorem e109:okS ok_Fre 10 109=true:=by kernel_rfl
theorem e110:okS ok_Fre 10 110=true:=by kernel_rfl
theorem e111:okS ok_Fre 10 111=true:=by kernel_rfl
theorem e112:okS ok_Fre 10 112=true:=by kernel_rfl
theorem e113:okS ok_Fre 10 113=true:=by kernel_rfl
theorem e114:okS ok_Fre 10 114=true:=by kernel_rfl
theorem e115:okS ok_Fre 10 115=true:=by kernel_rfl
theorem e116:okS ok_Fre 10 116=true:=by kernel_rfl
theorem e117:okS ok_Fre 10 117=true:=by kernel_rfl
theorem e118:okS ok_Fre 10 118=true:=by kernel_rfl
theorem e119:okS ok_Fre 10 119=true:=by kernel_rfl
theorem e120:okS ok_Fre 10 120=true:=by kernel_rfl
theorem e121:okS ok_Fre 10 121=true:=by kernel_rfl
theorem e122:okS ok_Fre 10 122=true:=by kernel_rfl
theorem e123:okS ok_Fre 10 123=true:=by kernel_rfl
theorem e124:okS ok_Fre 10 124=true:=by kernel_rfl
theorem e125:okS ok_Fre 10 125=true:=by kernel_rfl
theorem e126:okS ok_Fre 10 126=true:=by kernel_rfl
theorem e127:okS ok_Fre 10 127=true:=by kernel_rfl
theorem e_4:okL ok_Fre 10 103 25=true:=(cc e103 (cc e104 (cc e105 (cc e106 (cc e107 (cc e108 (cc e109 (cc e110 (cc e111 (cc e112 (cc e113 (cc e114 (cc e115 (cc e116 (cc e117 (cc e118 (cc e119 (cc e120 (cc e121 (cc e122 (cc e123 (cc e124 (cc e125 (cc e126 (cc e127 rfl)))))))))))))))))))))))))
end
end Go.AI.T
