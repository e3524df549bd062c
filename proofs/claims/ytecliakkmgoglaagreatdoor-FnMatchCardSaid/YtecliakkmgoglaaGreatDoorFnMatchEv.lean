/- The parts of the evaluation together. -/
import Derived.Test.YtecliakkmgoglaaGreatDoorFnMatchEv0
import Derived.Test.YtecliakkmgoglaaGreatDoorFnMatchEv1
import Derived.Test.YtecliakkmgoglaaGreatDoorFnMatchEv2
import Derived.Test.YtecliakkmgoglaaGreatDoorFnMatchEv3
import Derived.Test.YtecliakkmgoglaaGreatDoorFnMatchEv4
import Derived.Test.YtecliakkmgoglaaGreatDoorFnMatchEv5
import Derived.Test.YtecliakkmgoglaaGreatDoorFnMatchEv6
import Derived.Test.YtecliakkmgoglaaGreatDoorFnMatchEv7
set_option linter.unusedVariables false
set_option linter.unusedSimpArgs false
set_option maxRecDepth 100000
namespace Go.AI.T
open Go Go.RowKit Go.AI
noncomputable section
theorem w_all (B:Blk) {l:List Nat} (ht:isTree l=true):(oM B) l=true:=by
 refine okS_all (k:=6) (K:=343) (by omega) (by omega) (fun i hi=>?_) ht
 by_cases h0:i<42
 · exact okL_mem (w_0 B) i (by omega) (by omega)
 by_cases h1:i<85
 · exact okL_mem (w_1 B) i (by omega) (by omega)
 by_cases h2:i<128
 · exact okL_mem (w_2 B) i (by omega) (by omega)
 by_cases h3:i<171
 · exact okL_mem (w_3 B) i (by omega) (by omega)
 by_cases h4:i<214
 · exact okL_mem (w_4 B) i (by omega) (by omega)
 by_cases h5:i<257
 · exact okL_mem (w_5 B) i (by omega) (by omega)
 by_cases h6:i<300
 · exact okL_mem (w_6 B) i (by omega) (by omega)
 exact okL_mem (w_7 B) i (by omega) (by omega)
end
end Go.AI.T
