/- The evaluation, part 2. -/
import Derived.Test.YtecliakkmgoglaaGreatDoorFnAtBad
import Derived.KernelRfl
set_option maxRecDepth 100000
namespace Go.AI.T
open Go Go.RowKit Go.AI
noncomputable section
variable (B:Blk)
theorem w57:okS (ok_FnAt B) 6 57=true:=by kernel_rfl
theorem w58:okS (ok_FnAt B) 6 58=true:=by kernel_rfl
theorem w59:okS (ok_FnAt B) 6 59=true:=by kernel_rfl
theorem w60:okS (ok_FnAt B) 6 60=true:=by kernel_rfl
theorem w61:okS (ok_FnAt B) 6 61=true:=by kernel_rfl
theorem w62:okS (ok_FnAt B) 6 62=true:=by kernel_rfl
theorem w63:okS (ok_FnAt B) 6 63=true:=by kernel_rfl
theorem w64:okS (ok_FnAt B) 6 64=true:=by kernel_rfl
theorem w65:okS (ok_FnAt B) 6 65=true:=by kernel_rfl
theorem w66:okS (ok_FnAt B) 6 66=true:=by kernel_rfl
theorem w67:okS (ok_FnAt B) 6 67=true:=by kernel_rfl
theorem w68:okS (ok_FnAt B) 6 68=true:=by kernel_rfl
theorem w69:okS (ok_FnAt B) 6 69=true:=by kernel_rfl
theorem w70:okS (ok_FnAt B) 6 70=true:=by kernel_rfl
theorem w71:okS (ok_FnAt B) 6 71=true:=by kernel_rfl
theorem w72:okS (ok_FnAt B) 6 72=true:=by kernel_rfl
theorem w73:okS (ok_FnAt B) 6 73=true:=by kernel_rfl
theorem w74:okS (ok_FnAt B) 6 74=true:=by kernel_rfl
theorem w75:okS (ok_FnAt B) 6 75=true:=by kernel_rfl
theorem w76:okS (ok_FnAt B) 6 76=true:=by kernel_rfl
theorem w77:okS (ok_FnAt B) 6 77=true:=by kernel_rfl
theorem w78:okS (ok_FnAt B) 6 78=true:=by kernel_rfl
theorem w79:okS (ok_FnAt B) 6 79=true:=by kernel_rfl
theorem w80:okS (ok_FnAt B) 6 80=true:=by kernel_rfl
theorem w81:okS (ok_FnAt B) 6 81=true:=by kernel_rfl
theorem w82:okS (ok_FnAt B) 6 82=true:=by kernel_rfl
theorem w83:okS (ok_FnAt B) 6 83=true:=by kernel_rfl
theorem w84:okS (ok_FnAt B) 6 84=true:=by kernel_rfl
theorem w_2:okL (ok_FnAt B) 6 57 28=true:=(cc (w57 B) (cc (w58 B) (cc (w59 B) (cc (w60 B) (cc (w61 B) (cc (w62 B) (cc (w63 B) (cc (w64 B) (cc (w65 B) (cc (w66 B) (cc (w67 B) (cc (w68 B) (cc (w69 B) (cc (w70 B) (cc (w71 B) (cc (w72 B) (cc (w73 B) (cc (w74 B) (cc (w75 B) (cc (w76 B) (cc (w77 B) (cc (w78 B) (cc (w79 B) (cc (w80 B) (cc (w81 B) (cc (w82 B) (cc (w83 B) (cc (w84 B) rfl))))))))))))))))))))))))))))
end
end Go.AI.T
