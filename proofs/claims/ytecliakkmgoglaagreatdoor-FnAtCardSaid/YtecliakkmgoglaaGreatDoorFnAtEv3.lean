/- The evaluation, part 3. -/
import Derived.Test.YtecliakkmgoglaaGreatDoorFnAtBad
import Derived.KernelRfl
set_option maxRecDepth 100000
namespace Go.AI.T
open Go Go.RowKit Go.AI
noncomputable section
variable (B:Blk)
theorem w85:okS (ok_FnAt B) 6 85=true:=by kernel_rfl
theorem w86:okS (ok_FnAt B) 6 86=true:=by kernel_rfl
theorem w87:okS (ok_FnAt B) 6 87=true:=by kernel_rfl
theorem w88:okS (ok_FnAt B) 6 88=true:=by kernel_rfl
theorem w89:okS (ok_FnAt B) 6 89=true:=by kernel_rfl
theorem w90:okS (ok_FnAt B) 6 90=true:=by kernel_rfl
theorem w91:okS (ok_FnAt B) 6 91=true:=by kernel_rfl
theorem w92:okS (ok_FnAt B) 6 92=true:=by kernel_rfl
theorem w93:okS (ok_FnAt B) 6 93=true:=by kernel_rfl
theorem w94:okS (ok_FnAt B) 6 94=true:=by kernel_rfl
theorem w95:okS (ok_FnAt B) 6 95=true:=by kernel_rfl
theorem w96:okS (ok_FnAt B) 6 96=true:=by kernel_rfl
theorem w97:okS (ok_FnAt B) 6 97=true:=by kernel_rfl
theorem w98:okS (ok_FnAt B) 6 98=true:=by kernel_rfl
theorem w99:okS (ok_FnAt B) 6 99=true:=by kernel_rfl
theorem w100:okS (ok_FnAt B) 6 100=true:=by kernel_rfl
theorem w101:okS (ok_FnAt B) 6 101=true:=by kernel_rfl
theorem w102:okS (ok_FnAt B) 6 102=true:=by kernel_rfl
theorem w103:okS (ok_FnAt B) 6 103=true:=by kernel_rfl
theorem w104:okS (ok_FnAt B) 6 104=true:=by kernel_rfl
theorem w105:okS (ok_FnAt B) 6 105=true:=by kernel_rfl
theorem w106:okS (ok_FnAt B) 6 106=true:=by kernel_rfl
theorem w107:okS (ok_FnAt B) 6 107=true:=by kernel_rfl
theorem w108:okS (ok_FnAt B) 6 108=true:=by kernel_rfl
theorem w109:okS (ok_FnAt B) 6 109=true:=by kernel_rfl
theorem w110:okS (ok_FnAt B) 6 110=true:=by kernel_rfl
theorem w111:okS (ok_FnAt B) 6 111=true:=by kernel_rfl
theorem w112:okS (ok_FnAt B) 6 112=true:=by kernel_rfl
theorem w113:okS (ok_FnAt B) 6 113=true:=by kernel_rfl
theorem w_3:okL (ok_FnAt B) 6 85 29=true:=(cc (w85 B) (cc (w86 B) (cc (w87 B) (cc (w88 B) (cc (w89 B) (cc (w90 B) (cc (w91 B) (cc (w92 B) (cc (w93 B) (cc (w94 B) (cc (w95 B) (cc (w96 B) (cc (w97 B) (cc (w98 B) (cc (w99 B) (cc (w100 B) (cc (w101 B) (cc (w102 B) (cc (w103 B) (cc (w104 B) (cc (w105 B) (cc (w106 B) (cc (w107 B) (cc (w108 B) (cc (w109 B) (cc (w110 B) (cc (w111 B) (cc (w112 B) (cc (w113 B) rfl)))))))))))))))))))))))))))))
end
end Go.AI.T
