/- The evaluation, part 1. -/
import Derived.Test.YtecliakkmgoglaaGreatDoorFnMatchBad
import Derived.KernelRfl
set_option maxRecDepth 100000
namespace Go.AI.T
open Go Go.RowKit Go.AI
noncomputable section
variable (B:Blk)
theorem w42:okS (oM B) 6 42=true:=by kernel_rfl
theorem w43:okS (oM B) 6 43=true:=by kernel_rfl
theorem w44:okS (oM B) 6 44=true:=by kernel_rfl
theorem w45:okS (oM B) 6 45=true:=by kernel_rfl
theorem w46:okS (oM B) 6 46=true:=by kernel_rfl
theorem w47:okS (oM B) 6 47=true:=by kernel_rfl
theorem w48:okS (oM B) 6 48=true:=by kernel_rfl
theorem w49:okS (oM B) 6 49=true:=by kernel_rfl
theorem w50:okS (oM B) 6 50=true:=by kernel_rfl
theorem w51:okS (oM B) 6 51=true:=by kernel_rfl
theorem w52:okS (oM B) 6 52=true:=by kernel_rfl
theorem w53:okS (oM B) 6 53=true:=by kernel_rfl
theorem w54:okS (oM B) 6 54=true:=by kernel_rfl
theorem w55:okS (oM B) 6 55=true:=by kernel_rfl
theorem w56:okS (oM B) 6 56=true:=by kernel_rfl
theorem w57:okS (oM B) 6 57=true:=by kernel_rfl
theorem w58:okS (oM B) 6 58=true:=by kernel_rfl
theorem w59:okS (oM B) 6 59=true:=by kernel_rfl
theorem w60:okS (oM B) 6 60=true:=by kernel_rfl
theorem w61:okS (oM B) 6 61=true:=by kernel_rfl
theorem w62:okS (oM B) 6 62=true:=by kernel_rfl
theorem w63:okS (oM B) 6 63=true:=by kernel_rfl
theorem w64:okS (oM B) 6 64=true:=by kernel_rfl
theorem w65:okS (oM B) 6 65=true:=by kernel_rfl
theorem w66:okS (oM B) 6 66=true:=by kernel_rfl
theorem w67:okS (oM B) 6 67=true:=by kernel_rfl
theorem w68:okS (oM B) 6 68=true:=by kernel_rfl
theorem w69:okS (oM B) 6 69=true:=by kernel_rfl
theorem w70:okS (oM B) 6 70=true:=by kernel_rfl
theorem w71:okS (oM B) 6 71=true:=by kernel_rfl
theorem w72:okS (oM B) 6 72=true:=by kernel_rfl
theorem w73:okS (oM B) 6 73=true:=by kernel_rfl
theorem w74:okS (oM B) 6 74=true:=by kernel_rfl
theorem w75:okS (oM B) 6 75=true:=by kernel_rfl
theorem w76:okS (oM B) 6 76=true:=by kernel_rfl
theorem w77:okS (oM B) 6 77=true:=by kernel_rfl
theorem w78:okS (oM B) 6 78=true:=by kernel_rfl
theorem w79:okS (oM B) 6 79=true:=by kernel_rfl
theorem w80:okS (oM B) 6 80=true:=by kernel_rfl
theorem w81:okS (oM B) 6 81=true:=by kernel_rfl
theorem w82:okS (oM B) 6 82=true:=by kernel_rfl
theorem w83:okS (oM B) 6 83=true:=by kernel_rfl
theorem w84:okS (oM B) 6 84=true:=by kernel_rfl
theorem w_1:okL (oM B) 6 42 43=true:=(cc (w42 B) (cc (w43 B) (cc (w44 B) (cc (w45 B) (cc (w46 B) (cc (w47 B) (cc (w48 B) (cc (w49 B) (cc (w50 B) (cc (w51 B) (cc (w52 B) (cc (w53 B) (cc (w54 B) (cc (w55 B) (cc (w56 B) (cc (w57 B) (cc (w58 B) (cc (w59 B) (cc (w60 B) (cc (w61 B) (cc (w62 B) (cc (w63 B) (cc (w64 B) (cc (w65 B) (cc (w66 B) (cc (w67 B) (cc (w68 B) (cc (w69 B) (cc (w70 B) (cc (w71 B) (cc (w72 B) (cc (w73 B) (cc (w74 B) (cc (w75 B) (cc (w76 B) (cc (w77 B) (cc (w78 B) (cc (w79 B) (cc (w80 B) (cc (w81 B) (cc (w82 B) (cc (w83 B) (cc (w84 B) rfl)))))))))))))))))))))))))))))))))))))))))))
end
end Go.AI.T
