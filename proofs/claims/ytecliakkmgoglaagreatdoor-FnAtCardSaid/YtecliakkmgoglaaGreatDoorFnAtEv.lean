/- The parts of the evaluation together. -/
import Derived.Test.YtecliakkmgoglaaGreatDoorFnAtEv0
import Derived.Test.YtecliakkmgoglaaGreatDoorFnAtEv1
import Derived.Test.YtecliakkmgoglaaGreatDoorFnAtEv2
import Derived.Test.YtecliakkmgoglaaGreatDoorFnAtEv3
import Derived.Test.YtecliakkmgoglaaGreatDoorFnAtEv4
import Derived.Test.YtecliakkmgoglaaGreatDoorFnAtEv5
import Derived.Test.YtecliakkmgoglaaGreatDoorFnAtEv6
import Derived.Test.YtecliakkmgoglaaGreatDoorFnAtEv7
import Derived.Test.YtecliakkmgoglaaGreatDoorFnAtEv8
import Derived.Test.YtecliakkmgoglaaGreatDoorFnAtEv9
set_option linter.unusedVariables false
set_option linter.unusedSimpArgs false
set_option maxRecDepth 100000
namespace Go.AI.T
open Go Go.RowKit Go.AI
noncomputable section
theorem w_all (B:Blk) {l:List Nat} (ht:isTree l=true):(ok_FnAt B) l=true:=by
 refine okS_all (k:=6) (K:=343) (by omega) (by omega) (fun i hi=>?_) ht
 by_cases h0:i<28
 · exact okL_mem (w_0 B) i (by omega) (by omega)
 by_cases h1:i<57
 · exact okL_mem (w_1 B) i (by omega) (by omega)
 by_cases h2:i<85
 · exact okL_mem (w_2 B) i (by omega) (by omega)
 by_cases h3:i<114
 · exact okL_mem (w_3 B) i (by omega) (by omega)
 by_cases h4:i<142
 · exact okL_mem (w_4 B) i (by omega) (by omega)
 by_cases h5:i<171
 · exact okL_mem (w_5 B) i (by omega) (by omega)
 by_cases h6:i<200
 · exact okL_mem (w_6 B) i (by omega) (by omega)
 by_cases h7:i<228
 · exact okL_mem (w_7 B) i (by omega) (by omega)
 by_cases h8:i<257
 · exact okL_mem (w_8 B) i (by omega) (by omega)
 by_cases h9:i<285
 · exact okL_mem (w_9 B) i (by omega) (by omega)
 by_cases h10:i<314
 · exact okL_mem (w_10 B) i (by omega) (by omega)
 exact okL_mem (w_11 B) i (by omega) (by omega)
end
end Go.AI.T
