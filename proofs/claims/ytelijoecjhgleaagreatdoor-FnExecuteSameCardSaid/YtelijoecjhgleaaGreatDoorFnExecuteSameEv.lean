/- The parts of the evaluation together. -/
import Derived.Test.YtelijoecjhgleaaGreatDoorFnExecuteSameEv0
import Derived.Test.YtelijoecjhgleaaGreatDoorFnExecuteSameEv1
import Derived.Test.YtelijoecjhgleaaGreatDoorFnExecuteSameEv2
import Derived.Test.YtelijoecjhgleaaGreatDoorFnExecuteSameEv3
import Derived.Test.YtelijoecjhgleaaGreatDoorFnExecuteSameEv4
import Derived.Test.YtelijoecjhgleaaGreatDoorFnExecuteSameEv5
import Derived.Test.YtelijoecjhgleaaGreatDoorFnExecuteSameEv6
import Derived.Test.YtelijoecjhgleaaGreatDoorFnExecuteSameEv7
set_option linter.unusedVariables false
set_option linter.unusedSimpArgs false
set_option maxRecDepth 100000
namespace Go.AI.T
open Go Go.RowKit Go.AI
noncomputable section
theorem e_all (B : Blk) {l : List Nat} (ht : isTree l = true) : (ok_FnExecuteSame B) l = true := by
  refine okS_all (k := 8) (K := 257) (by omega) (by omega) (fun i hi => ?_) ht
  by_cases h0 : i < 32
  · exact okL_mem (e_0 B) i (by omega) (by omega)
  by_cases h1 : i < 64
  · exact okL_mem (e_1 B) i (by omega) (by omega)
  by_cases h2 : i < 96
  · exact okL_mem (e_2 B) i (by omega) (by omega)
  by_cases h3 : i < 128
  · exact okL_mem (e_3 B) i (by omega) (by omega)
  by_cases h4 : i < 160
  · exact okL_mem (e_4 B) i (by omega) (by omega)
  by_cases h5 : i < 192
  · exact okL_mem (e_5 B) i (by omega) (by omega)
  by_cases h6 : i < 224
  · exact okL_mem (e_6 B) i (by omega) (by omega)
  exact okL_mem (e_7 B) i (by omega) (by omega)
end
end Go.AI.T
