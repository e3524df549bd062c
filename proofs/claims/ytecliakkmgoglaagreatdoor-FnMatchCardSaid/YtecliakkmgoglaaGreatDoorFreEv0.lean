/- The evaluation, part 0. -/
import Derived.Test.YtecliakkmgoglaaGreatDoorFreFn
import Derived.KernelRfl
set_option linter.unusedVariables false
set_option linter.unusedSimpArgs false
set_option maxRecDepth 100000
namespace Go.AI.T
open Go Go.RowKit Go.AI
noncomputable section
theorem e0:okS ok_Fre 10 0=true:=by kernel_rfl
theorem e1:okS ok_Fre 10 1=true:=by kernel_rfl
theorem e2:okS ok_Fre 10 2=true:=by kernel_rfl
theorem e3:okS ok_Fre 10 3=true:=by kernel_rfl
theorem e4:okS ok_Fre 10 4=true:=by kernel_rfl
theorem e5:okS ok_Fre 10 5=true:=by kernel_rfl
theorem e6:okS ok_Fre 10 6=true:=by kernel_rfl
theorem e7:okS ok_Fre 10 7=true:=by kernel_rfl
theorem e8:okS ok_Fre 10 8=true:=by kernel_rfl
theorem e9:okS ok_Fre 10 9=true:=by kernel_rfl
theorem e10:okS ok_Fre 10 10=true:=by kernel_rfl
theorem e11:okS ok_Fre 10 11=true:=by kernel_rfl
theorem e12:okS ok_Fre 10 12=true:=by kernel_rfl
theorem e13:okS ok_Fre 10 13=true:=by kernel_rfl
theorem e14:okS ok_Fre 10 14=true:=by kernel_rfl
theorem e15:okS ok_Fre 10 15=true:=by kernel_rfl
theorem e16:okS ok_Fre 10 16=true:=by kernel_rfl
theorem e17:okS ok_Fre 10 17=true:=by kernel_rfl
theorem e18:okS ok_Fre 10 18=true:=by kernel_rfl
theorem e19:okS ok_Fre 10 19=true:=by kernel_rfl
theorem e20:okS ok_Fre 10 20=true:=by kernel_rfl
theorem e21:okS ok_Fre 10 21=true:=by kernel_rfl
theorem e22:okS ok_Fre 10 22=true:=by kernel_rfl
theorem e23:okS ok_Fre 10 23=true:=by kernel_rfl
theorem e24:okS ok_Fre 10 24=true:=by kernel_rfl
theorem e_0:okL ok_Fre 10 0 25=true:=(cc e0 (cc e1 (cc e2 (cc e3 (cc e4 (cc e5 (cc e6 (cc e7 (cc e8 (cc e9 (cc e10 (cc e11 (cc e12 (cc e13 (cc e14 (cc e15 (cc e16 (cc e17 (cc e18 (cc e19 (cc e20 (cc e21 (cc e22 (cc e23 (cc e24 rfl)))))))))))))))))))))))))
end
end Go.AI.T
