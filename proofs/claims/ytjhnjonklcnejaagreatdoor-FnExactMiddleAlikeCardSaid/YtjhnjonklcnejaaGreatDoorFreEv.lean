/- The parts of the evaluation together. -/
import Derived.Test.YtjhnjonklcnejaaGreatDoorFreEv0
import Derived.Test.YtjhnjonklcnejaaGreatDoorFreEv1
import Derived.Test.YtjhnjonklcnejaaGreatDoorFreEv2
import Derived.Test.YtjhnjonklcnejaaGreatDoorFreEv3
import Derived.Test.YtjhnjonklcnejaaGreatDoorFreEv4
import Derived.Test.YtjhnjonklcnejaaGreatDoorFreEv5
import Derived.Test.YtjhnjonklcnejaaGreatDoorFreEv6
import Derived.Test.YtjhnjonklcnejaaGreatDoorFreEv7
import Derived.Test.YtjhnjonklcnejaaGreatDoorFreEv8
import Derived.Test.YtjhnjonklcnejaaGreatDoorFreEv9
import Derived.Test.YtjhnjonklcnejaaGreatDoorFreEv10
import Derived.Test.YtjhnjonklcnejaaGreatDoorFreEv11
import Derived.Test.YtjhnjonklcnejaaGreatDoorFreEv12
import Derived.Test.YtjhnjonklcnejaaGreatDoorFreEv13
import Derived.Test.YtjhnjonklcnejaaGreatDoorFreEv14
import Derived.Test.YtjhnjonklcnejaaGreatDoorFreEv15
import Derived.Test.YtjhnjonklcnejaaGreatDoorFreEv16
import Derived.Test.YtjhnjonklcnejaaGreatDoorFreEv17
import Derived.Test.YtjhnjonklcnejaaGreatDoorFreEv18
import Derived.Test.YtjhnjonklcnejaaGreatDoorFreEv19
set_option linter.unusedVariables false
set_option linter.unusedSimpArgs false
set_option maxRecDepth 100000
namespace Go.AI.T
open Go Go.RowKit Go.AI
noncomputable section
theorem e_all {l : List Nat} (ht : isTree l = true) : ok_Fre l = true := by
  refine okS_all (k := 8) (K := 257) (by omega) (by omega) (fun i hi => ?_) ht
  by_cases h0 : i < 12
  · exact okL_mem (e_0) i (by omega) (by omega)
  by_cases h1 : i < 25
  · exact okL_mem (e_1) i (by omega) (by omega)
  by_cases h2 : i < 38
  · exact okL_mem (e_2) i (by omega) (by omega)
  by_cases h3 : i < 51
  · exact okL_mem (e_3) i (by omega) (by omega)
  by_cases h4 : i < 64
  · exact okL_mem (e_4) i (by omega) (by omega)
  by_cases h5 : i < 77
  · exact okL_mem (e_5) i (by omega) (by omega)
  by_cases h6 : i < 89
  · exact okL_mem (e_6) i (by omega) (by omega)
  by_cases h7 : i < 102
  · exact okL_mem (e_7) i (by omega) (by omega)
  by_cases h8 : i < 115
  · exact okL_mem (e_8) i (by omega) (by omega)
  by_cases h9 : i < 128
  · exact okL_mem (e_9) i (by omega) (by omega)
  by_cases h10 : i < 141
  · exact okL_mem (e_10) i (by omega) (by omega)
  by_cases h11 : i < 154
  · exact okL_mem (e_11) i (by omega) (by omega)
  by_cases h12 : i < 167
  · exact okL_mem (e_12) i (by omega) (by omega)
  by_cases h13 : i < 179
  · exact okL_mem (e_13) i (by omega) (by omega)
  by_cases h14 : i < 192
  · exact okL_mem (e_14) i (by omega) (by omega)
  by_cases h15 : i < 205
  · exact okL_mem (e_15) i (by omega) (by omega)
  by_cases h16 : i < 218
  · exact okL_mem (e_16) i (by omega) (by omega)
  by_cases h17 : i < 231
  · exact okL_mem (e_17) i (by omega) (by omega)
  by_cases h18 : i < 244
  · exact okL_mem (e_18) i (by omega) (by omega)
  exact okL_mem (e_19) i (by omega) (by omega)
end
end Go.AI.T
