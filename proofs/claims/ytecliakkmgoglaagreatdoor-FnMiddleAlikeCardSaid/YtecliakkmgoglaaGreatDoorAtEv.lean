/- The parts of the evaluation together. -/
import Derived.Test.YtecliakkmgoglaaGreatDoorAtEv0
import Derived.Test.YtecliakkmgoglaaGreatDoorAtEv1
set_option linter.unusedVariables false
set_option linter.unusedSimpArgs false
set_option maxRecDepth 100000
namespace Go.AI.T
open Go Go.RowKit Go.AI
noncomputable section
theorem ua_all {l:List Nat} (ht:isTree l=true):ok_At l=true:=by
 refine okS_all (k:=10) (K:=206) (by omega) (by omega) (fun i hi=>?_) ht
 by_cases h0:i<103
 · exact okL_mem (ua_0) i (by omega) (by omega)
 exact okL_mem (ua_1) i (by omega) (by omega)
end
end Go.AI.T
