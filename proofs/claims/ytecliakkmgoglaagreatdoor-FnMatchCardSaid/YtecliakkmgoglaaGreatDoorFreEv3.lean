/- The evaluation, part 3. -/
import Derived.Test.YtecliakkmgoglaaGreatDoorFreFn
import Derived.KernelRfl
set_option linter.unusedVariables false
set_option linter.unusedSimpArgs false
set_option maxRecDepth 100000
namespace Go.AI.T
open Go Go.RowKit Go.AI
noncomputable section
theorem e77:okS ok_Fre 10 77=true:=by kernel_rfl
theorem e78:okS ok_Fre 10 78=true:=by kernel_rfl
theorem e79:okS ok_Fre 10 79=true:=by kernel_rfl
theorem e80:okS ok_Fre 10 80=true:=by kernel_rfl
theorem e81:okS ok_Fre 10 81=true:=by kernel_rfl
theorem e82:okS ok_Fre 10 82=true:=by kernel_rfl
theorem e83:okS ok_Fre 10 83=true:=by kernel_rfl
theorem e84:okS ok_Fre 10 84=true:=by kernel_rfl
theorem e85:okS ok_Fre 10 85=true:=by kernel_rfl
theorem e86:okS ok_Fre 10 86=true:=by kernel_rfl
theorem e87:okS ok_Fre 10 87=true:=by kernel_rfl
theorem e88:okS ok_Fre 10 88=true:=by kernel_rfl
theorem e89:okS ok_Fre 10 89=true:=by kernel_rfl
theorem e90:okS ok_Fre 10 90=true:=by kernel_rfl
theorem e91:okS ok_Fre 10 91=true:=by kernel_rfl
theorem e92:okS ok_Fre 10 92=true:=by kernel_rfl
theorem e93:okS ok_Fre 10 93=true:=by kernel_rfl
theorem e94:okS ok_Fre 10 94=true:=by kernel_rfl
theorem e95:okS ok_Fre 10 95=true:=by kernel_rfl
theorem e96:okS ok_Fre 10 96=true:=by kernel_rfl
theorem e97:okS ok_Fre 10 97=true:=by kernel_rfl
theorem e98:okS ok_Fre 10 98=true:=by kernel_rfl
theorem e99:okS ok_Fre 10 99=true:=by kernel_rfl
theorem e100:okS ok_Fre 10 100=true:=by kernel_rfl
theorem e101:okS ok_Fre 10 101=true:=by kernel_rfl
theorem e102:okS ok_Fre 10 102=true:=by kernel_rfl
theorem e_3:okL ok_Fre 10 77 26=true:=(cc e77 (cc e78 (cc e79 (cc e80 (cc e81 (cc e82 (cc e83 (cc e84 (cc e85 (cc e86 (cc e87 (cc e88 (cc e89 (cc e90 (cc e91 (cc e92 (cc e93 (cc e94 (cc e95 (cc e96 (cc e97 (cc e98 (cc e99 (cc e100 (cc e101 (cc e102 rfl))))))))))))))))))))))))))
end
end Go.AI.T
