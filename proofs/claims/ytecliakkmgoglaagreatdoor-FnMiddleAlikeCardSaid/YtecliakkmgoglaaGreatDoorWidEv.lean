/- The parts of the evaluation together. -/
import Derived.Test.YtecliakkmgoglaaGreatDoorWidEv0
import Derived.Test.YtecliakkmgoglaaGreatDoorWidEv1
set_option linter.unusedVariables false
set_option linter.unusedSimpArgs false
set_option maxRecDepth 100000
namespace Go.AI.T
open Go Go.RowKit Go.AI
noncomputable section
theorem v_all {l:List Nat} (ht:isTree l=true):ok_Wid l=true:=by
 refine okS_all (k:=10) (K:=206) (by omega) (by omega) (fun i hi=>?_) ht
 by_cases h0:i<103
 · exact okL_mem (v_0) i (by omega) (by omega)
 exact okL_mem (v_1) i (by omega) (by omega)
end
end Go.AI.T
