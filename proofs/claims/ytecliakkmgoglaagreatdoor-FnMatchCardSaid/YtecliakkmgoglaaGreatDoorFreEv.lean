/- The parts of the evaluation together. -/
import Derived.Test.YtecliakkmgoglaaGreatDoorFreEv0
import Derived.Test.YtecliakkmgoglaaGreatDoorFreEv1
import Derived.Test.YtecliakkmgoglaaGreatDoorFreEv2
import Derived.Test.YtecliakkmgoglaaGreatDoorFreEv3
import Derived.Test.YtecliakkmgoglaaGreatDoorFreEv4
import Derived.Test.YtecliakkmgoglaaGreatDoorFreEv5
import Derived.Test.YtecliakkmgoglaaGreatDoorFreEv6
import Derived.Test.YtecliakkmgoglaaGreatDoorFreEv7
set_option linter.unusedVariables false
set_option linter.unusedSimpArgs false
set_option maxRecDepth 100000
namespace Go.AI.T
open Go Go.RowKit Go.AI
noncomputable section
theorem e_all {l:List Nat} (ht:isTree l=true):ok_Fre l=true:=by
 refine okS_all (k:=10) (K:=206) (by omega) (by omega) (fun i hi=>?_) ht
 by_cases h0:i<25
 · exact okL_mem (e_0) i (by omega) (by omega)
 by_cases h1:i<51
 · exact okL_mem (e_1) i (by omega) (by omega)
 by_cases h2:i<77
 · exact okL_mem (e_2) i (by omega) (by omega)
 by_cases h3:i<103
 · exact okL_mem (e_3) i (by omega) (by omega)
 by_cases h4:i<128
 · exact okL_mem (e_4) i (by omega) (by omega)
 by_cases h5:i<154
 · exact okL_mem (e_5) i (by omega) (by omega)
 by_cases h6:i<180
 · exact okL_mem (e_6) i (by omega) (by omega)
 exact okL_mem (e_7) i (by omega) (by omega)
end
end Go.AI.T
