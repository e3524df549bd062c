/- The evaluation, part 2. -/
import Derived.Test.YtecliakkmgoglaaGreatDoorFreFn
import Derived.KernelRfl
set_option linter.unusedVariables false
set_option linter.unusedSimpArgs false
set_option maxRecDepth 100000
namespace Go.AI.T
open Go Go.RowKit Go.AI
noncomputable section
theorem e51:okS ok_Fre 10 51=true:=by kernel_rfl
theorem e52:okS ok_Fre 10 52=true:=by kernel_rfl
theorem e53:okS ok_Fre 10 53=true:=by kernel_rfl
theorem e54:okS ok_Fre 10 54=true:=by kernel_rfl
theorem e55:okS ok_Fre 10 55=true:=by kernel_rfl
theorem e56:okS ok_Fre 10 56=true:=by kernel_rfl
theorem e57:okS ok_Fre 10 57=true:=by kernel_rfl
theorem e58:okS ok_Fre 10 58=true:=by kernel_rfl
theorem e59:okS ok_Fre 10 59=true:=by kernel_rfl
theorem e60:okS ok_Fre 10 60=true:=by kernel_rfl
theorem e61:okS ok_Fre 10 61=true:=by kernel_rfl
theorem e62:okS ok_Fre 10 62=true:=by kernel_rfl
theorem e63:okS ok_Fre 10 63=true:=by kernel_rfl
theorem e64:okS ok_Fre 10 64=true:=by kernel_rfl
theorem e65:okS ok_Fre 10 65=true:=by kernel_rfl
theorem e66:okS ok_Fre 10 66=true:=by kernel_rfl
theorem e67:okS ok_Fre 10 67=true:=by kernel_rfl
theorem e68:okS ok_Fre 10 68=true:=by kernel_rfl
theorem e69:okS ok_Fre 10 69=true:=by kernel_rfl
theorem e70:okS ok_Fre 10 70=true:=by kernel_rfl
theorem e71:okS ok_Fre 10 71=true:=by kernel_rfl
theorem e72:okS ok_Fre 10 72=true:=by kernel_rfl
theorem e73:okS ok_Fre 10 73=true:=by kernel_rfl
theorem e74:okS ok_Fre 10 74=true:=by kernel_rfl
theorem e75:okS ok_Fre 10 75=true:=by kernel_rfl
theorem e76:okS ok_Fre 10 76=true:=by kernel_rfl
theorem e_2:okL ok_Fre 10 51 26=true:=(cc e51 (cc e52 (cc e53 (cc e54 (cc e55 (cc e56 (cc e57 (cc e58 (cc e59 (cc e60 (cc e61 (cc e62 (cc e63 (cc e64 (cc e65 (cc e66 (cc e67 (cc e68 (cc e69 (cc e70 (cc e71 (cc e72 (cc e73 (cc e74 (cc e75 (cc e76 rfl))))))))))))))))))))))))))
end
end Go.AI.T
