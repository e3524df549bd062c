/- The parts of the evaluation together. -/
import Derived.Test.YtecliakkmgoglaaGreatDoorTabEv0
import Derived.Test.YtecliakkmgoglaaGreatDoorTabEv1
import Derived.Test.YtecliakkmgoglaaGreatDoorTabEv2
import Derived.Test.YtecliakkmgoglaaGreatDoorTabEv3
import Derived.Test.YtecliakkmgoglaaGreatDoorTabEv4
import Derived.Test.YtecliakkmgoglaaGreatDoorTabEv5
import Derived.Test.YtecliakkmgoglaaGreatDoorTabEv6
import Derived.Test.YtecliakkmgoglaaGreatDoorTabEv7
set_option linter.unusedVariables false
set_option linter.unusedSimpArgs false
set_option maxRecDepth 100000
namespace Go.AI.T
open Go Go.RowKit Go.AI
noncomputable section
theorem t_all {l:List Nat} (ht:isTree l=true):ok_Tab l=true:=by
 refine okS_all (k:=10) (K:=206) (by omega) (by omega) (fun i hi=>?_) ht
 by_cases h0:i<25
 · exact okL_mem (t_0) i (by omega) (by omega)
 by_cases h1:i<51
 · exact okL_mem (t_1) i (by omega) (by omega)
 by_cases h2:i<77
 · exact okL_mem (t_2) i (by omega) (by omega)
 by_cases h3:i<103
 · exact okL_mem (t_3) i (by omega) (by omega)
 by_cases h4:i<128
 · exact okL_mem (t_4) i (by omega) (by omega)
 by_cases h5:i<154
 · exact okL_mem (t_5) i (by omega) (by omega)
 by_cases h6:i<180
 · exact okL_mem (t_6) i (by omega) (by omega)
 exact okL_mem (t_7) i (by omega) (by omega)
end
end Go.AI.T
