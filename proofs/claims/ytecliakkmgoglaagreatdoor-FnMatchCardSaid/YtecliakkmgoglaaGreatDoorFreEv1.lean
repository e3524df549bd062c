/- The evaluation, part 1. -/
import Derived.Test.YtecliakkmgoglaaGreatDoorFreFn
import Derived.KernelRfl
set_option linter.unusedVariables false
set_option linter.unusedSimpArgs false
set_option maxRecDepth 100000
namespace Go.AI.T
open Go Go.RowKit Go.AI
noncomputable section
theorem e25:okS ok_Fre 10 25=true:=by kernel_rfl
theorem e26:okS ok_Fre 10 26=true:=by kernel_rfl
theorem e27:okS ok_Fre 10 27=true:=by kernel_rfl
theorem e28:okS ok_Fre 10 28=true:=by kernel_rfl
theorem e29:okS ok_Fre 10 29=true:=by kernel_rfl
theorem e30:okS ok_Fre 10 30=true:=by kernel_rfl
theorem e31:okS ok_Fre 10 31=true:=by kernel_rfl
theorem e32:okS ok_Fre 10 32=true:=by kernel_rfl
theorem e33:okS ok_Fre 10 33=true:=by kernel_rfl
theorem e34:okS ok_Fre 10 34=true:=by kernel_rfl
theorem e35:okS ok_Fre 10 35=true:=by kernel_rfl
theorem e36:okS ok_Fre 10 36=true:=by kernel_rfl
theorem e37:okS ok_Fre 10 37=true:=by kernel_rfl
theorem e38:okS ok_Fre 10 38=true:=by kernel_rfl
theorem e39:okS ok_Fre 10 39=true:=by kernel_rfl
theorem e40:okS ok_Fre 10 40=true:=by kernel_rfl
theorem e41:okS ok_Fre 10 41=true:=by kernel_rfl
theorem e42:okS ok_Fre 10 42=true:=by kernel_rfl
theorem e43:okS ok_Fre 10 43=true:=by kernel_rfl
theorem e44:okS ok_Fre 10 44=true:=by kernel_rfl
theorem e45:okS ok_Fre 10 45=true:=by kernel_rfl
theorem e46:okS ok_Fre 10 46=true:=by kernel_rfl
theorem e47:okS ok_Fre 10 47=true:=by kernel_rfl
theorem e48:okS ok_Fre 10 48=true:=by kernel_rfl
theorem e49:okS ok_Fre 10 49=true:=by kernel_rfl
theorem e50:okS ok_Fre 10 50=true:=by kernel_rfl
theorem e_1:okL ok_Fre 10 25 26=true:=(cc e25 (cc e26 (cc e27 (cc e28 (cc e29 (cc e30 (cc e31 (cc e32 (cc e33 (cc e34 (cc e35 (cc e36 (cc e37 (cc e38 (cc e39 (cc e40 (cc e41 (cc e42 (cc e43 (cc e44 (cc e45 (cc e46 (cc e47 (cc e48 (cc e49 (cc e50 rfl))))))))))))))))))))))))))
end
end Go.AI.T
