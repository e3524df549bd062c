/- The law FnCodeTree is true whatever the code. -/
import Derived.Test.YthoidonmlfibfabFnCodeTreeEv0
import Derived.Test.YthoidonmlfibfabFnCodeTreeEv1
import Derived.Test.YthoidonmlfibfabFnCodeTreeEv2
import Derived.Test.YthoidonmlfibfabFnCodeTreeEv3
import Derived.Test.YthoidonmlfibfabFnCodeTreeEv4
import Derived.Test.YthoidonmlfibfabFnCodeTreeEv5
import Derived.Test.YthoidonmlfibfabFnCodeTreeEv6
import Derived.Test.YthoidonmlfibfabFnCodeTreeEv7
namespace Go.AI.T
open Go Go.RowKit Go.AI
set_option linter.unusedVariables false
set_option linter.unusedSimpArgs false
set_option maxRecDepth 100000
noncomputable section
theorem law_FnCodeTree : CodeLaw (c_laws_FnCodeTree 2097152 20) := by
  intro a0 n L B ha hB hb
  have hlen : ∀ (h : H) (k : AV → H → Option R), aLenK 1 a0 h k = k (nI n) h := fun h k => by rcases ha with ⟨rfl, rfl⟩ | rfl <;> rfl
  apply tells_some
  delta c_laws_FnCodeTree
  by_cases h20 : 1048576 < n
  · rw [hlen, gtrN, withBool_bool, ble_true (show Nat.succ 1048576 ≤ n from h20), bc_true]; rfl
  · rw [hlen, gtrN, withBool_bool, ble_false (show n < Nat.succ 1048576 by omega), bc_false]
    obtain ⟨v, hv, e⟩ := draw_FnCodeTree 2097152 20 ha hB hb
    rw [e, bindR_some']
    by_cases h0 : v < 100
    · have h := allB_spec _ _ (evFnCodeTree_0 B) (v - 0) (by omega)
      rw [show 0 + (v - 0) = v by omega] at h; exact h
    by_cases h1 : v < 200
    · have h := allB_spec _ _ (evFnCodeTree_1 B) (v - 100) (by omega)
      rw [show 100 + (v - 100) = v by omega] at h; exact h
    by_cases h2 : v < 300
    · have h := allB_spec _ _ (evFnCodeTree_2 B) (v - 200) (by omega)
      rw [show 200 + (v - 200) = v by omega] at h; exact h
    by_cases h3 : v < 400
    · have h := allB_spec _ _ (evFnCodeTree_3 B) (v - 300) (by omega)
      rw [show 300 + (v - 300) = v by omega] at h; exact h
    by_cases h4 : v < 500
    · have h := allB_spec _ _ (evFnCodeTree_4 B) (v - 400) (by omega)
      rw [show 400 + (v - 400) = v by omega] at h; exact h
    by_cases h5 : v < 600
    · have h := allB_spec _ _ (evFnCodeTree_5 B) (v - 500) (by omega)
      rw [show 500 + (v - 500) = v by omega] at h; exact h
    by_cases h6 : v < 700
    · have h := allB_spec _ _ (evFnCodeTree_6 B) (v - 600) (by omega)
      rw [show 600 + (v - 600) = v by omega] at h; exact h
    by_cases h7 : v < 800
    · have h := allB_spec _ _ (evFnCodeTree_7 B) (v - 700) (by omega)
      rw [show 700 + (v - 700) = v by omega] at h; exact h
    by_cases h8 : v < 900
    · have h := allB_spec _ _ (evFnCodeTree_8 B) (v - 800) (by omega)
      rw [show 800 + (v - 800) = v by omega] at h; exact h
    by_cases h9 : v < 1000
    · have h := allB_spec _ _ (evFnCodeTree_9 B) (v - 900) (by omega)
      rw [show 900 + (v - 900) = v by omega] at h; exact h
    by_cases h10 : v < 1100
    · have h := allB_spec _ _ (evFnCodeTree_10 B) (v - 1000) (by omega)
      rw [show 1000 + (v - 1000) = v by omega] at h; exact h
    by_cases h11 : v < 1200
    · have h := allB_spec _ _ (evFnCodeTree_11 B) (v - 1100) (by omega)
      rw [show 1100 + (v - 1100) = v by omega] at h; exact h
    by_cases h12 : v < 1300
    · have h := allB_spec _ _ (evFnCodeTree_12 B) (v - 1200) (by omega)
      rw [show 1200 + (v - 1200) = v by omega] at h; exact h
    by_cases h13 : v < 1400
    · have h := allB_spec _ _ (evFnCodeTree_13 B) (v - 1300) (by omega)
      rw [show 1300 + (v - 1300) = v by omega] at h; exact h
    by_cases h14 : v < 1500
    · have h := allB_spec _ _ (evFnCodeTree_14 B) (v - 1400) (by omega)
      rw [show 1400 + (v - 1400) = v by omega] at h; exact h
    by_cases h15 : v < 1600
    · have h := allB_spec _ _ (evFnCodeTree_15 B) (v - 1500) (by omega)
      rw [show 1500 + (v - 1500) = v by omega] at h; exact h
    by_cases h16 : v < 1700
    · have h := allB_spec _ _ (evFnCodeTree_16 B) (v - 1600) (by omega)
      rw [show 1600 + (v - 1600) = v by omega] at h; exact h
    by_cases h17 : v < 1800
    · have h := allB_spec _ _ (evFnCodeTree_17 B) (v - 1700) (by omega)
      rw [show 1700 + (v - 1700) = v by omega] at h; exact h
    by_cases h18 : v < 1900
    · have h := allB_spec _ _ (evFnCodeTree_18 B) (v - 1800) (by omega)
      rw [show 1800 + (v - 1800) = v by omega] at h; exact h
    by_cases h19 : v < 2000
    · have h := allB_spec _ _ (evFnCodeTree_19 B) (v - 1900) (by omega)
      rw [show 1900 + (v - 1900) = v by omega] at h; exact h
    by_cases h20 : v < 2100
    · have h := allB_spec _ _ (evFnCodeTree_20 B) (v - 2000) (by omega)
      rw [show 2000 + (v - 2000) = v by omega] at h; exact h
    by_cases h21 : v < 2200
    · have h := allB_spec _ _ (evFnCodeTree_21 B) (v - 2100) (by omega)
      rw [show 2100 + (v - 2100) = v by omega] at h; exact h
    by_cases h22 : v < 2300
    · have h := allB_spec _ _ (evFnCodeTree_22 B) (v - 2200) (by omega)
      rw [show 2200 + (v - 2200) = v by omega] at h; exact h
    by_cases h23 : v < 2400
    · have h := allB_spec _ _ (evFnCodeTree_23 B) (v - 2300) (by omega)
      rw [show 2300 + (v - 2300) = v by omega] at h; exact h
    by_cases h24 : v < 2500
    · have h := allB_spec _ _ (evFnCodeTree_24 B) (v - 2400) (by omega)
      rw [show 2400 + (v - 2400) = v by omega] at h; exact h
    by_cases h25 : v < 2600
    · have h := allB_spec _ _ (evFnCodeTree_25 B) (v - 2500) (by omega)
      rw [show 2500 + (v - 2500) = v by omega] at h; exact h
    by_cases h26 : v < 2700
    · have h := allB_spec _ _ (evFnCodeTree_26 B) (v - 2600) (by omega)
      rw [show 2600 + (v - 2600) = v by omega] at h; exact h
    by_cases h27 : v < 2800
    · have h := allB_spec _ _ (evFnCodeTree_27 B) (v - 2700) (by omega)
      rw [show 2700 + (v - 2700) = v by omega] at h; exact h
    by_cases h28 : v < 2900
    · have h := allB_spec _ _ (evFnCodeTree_28 B) (v - 2800) (by omega)
      rw [show 2800 + (v - 2800) = v by omega] at h; exact h
    by_cases h29 : v < 3000
    · have h := allB_spec _ _ (evFnCodeTree_29 B) (v - 2900) (by omega)
      rw [show 2900 + (v - 2900) = v by omega] at h; exact h
    by_cases h30 : v < 3100
    · have h := allB_spec _ _ (evFnCodeTree_30 B) (v - 3000) (by omega)
      rw [show 3000 + (v - 3000) = v by omega] at h; exact h
    by_cases h31 : v < 3200
    · have h := allB_spec _ _ (evFnCodeTree_31 B) (v - 3100) (by omega)
      rw [show 3100 + (v - 3100) = v by omega] at h; exact h
    by_cases h32 : v < 3300
    · have h := allB_spec _ _ (evFnCodeTree_32 B) (v - 3200) (by omega)
      rw [show 3200 + (v - 3200) = v by omega] at h; exact h
    by_cases h33 : v < 3400
    · have h := allB_spec _ _ (evFnCodeTree_33 B) (v - 3300) (by omega)
      rw [show 3300 + (v - 3300) = v by omega] at h; exact h
    by_cases h34 : v < 3500
    · have h := allB_spec _ _ (evFnCodeTree_34 B) (v - 3400) (by omega)
      rw [show 3400 + (v - 3400) = v by omega] at h; exact h
    by_cases h35 : v < 3600
    · have h := allB_spec _ _ (evFnCodeTree_35 B) (v - 3500) (by omega)
      rw [show 3500 + (v - 3500) = v by omega] at h; exact h
    by_cases h36 : v < 3700
    · have h := allB_spec _ _ (evFnCodeTree_36 B) (v - 3600) (by omega)
      rw [show 3600 + (v - 3600) = v by omega] at h; exact h
    by_cases h37 : v < 3800
    · have h := allB_spec _ _ (evFnCodeTree_37 B) (v - 3700) (by omega)
      rw [show 3700 + (v - 3700) = v by omega] at h; exact h
    by_cases h38 : v < 3900
    · have h := allB_spec _ _ (evFnCodeTree_38 B) (v - 3800) (by omega)
      rw [show 3800 + (v - 3800) = v by omega] at h; exact h
    by_cases h39 : v < 4000
    · have h := allB_spec _ _ (evFnCodeTree_39 B) (v - 3900) (by omega)
      rw [show 3900 + (v - 3900) = v by omega] at h; exact h
    by_cases h40 : v < 4100
    · have h := allB_spec _ _ (evFnCodeTree_40 B) (v - 4000) (by omega)
      rw [show 4000 + (v - 4000) = v by omega] at h; exact h
    by_cases h41 : v < 4200
    · have h := allB_spec _ _ (evFnCodeTree_41 B) (v - 4100) (by omega)
      rw [show 4100 + (v - 4100) = v by omega] at h; exact h
    by_cases h42 : v < 4300
    · have h := allB_spec _ _ (evFnCodeTree_42 B) (v - 4200) (by omega)
      rw [show 4200 + (v - 4200) = v by omega] at h; exact h
    by_cases h43 : v < 4400
    · have h := allB_spec _ _ (evFnCodeTree_43 B) (v - 4300) (by omega)
      rw [show 4300 + (v - 4300) = v by omega] at h; exact h
    by_cases h44 : v < 4500
    · have h := allB_spec _ _ (evFnCodeTree_44 B) (v - 4400) (by omega)
      rw [show 4400 + (v - 4400) = v by omega] at h; exact h
    by_cases h45 : v < 4600
    · have h := allB_spec _ _ (evFnCodeTree_45 B) (v - 4500) (by omega)
      rw [show 4500 + (v - 4500) = v by omega] at h; exact h
    by_cases h46 : v < 4700
    · have h := allB_spec _ _ (evFnCodeTree_46 B) (v - 4600) (by omega)
      rw [show 4600 + (v - 4600) = v by omega] at h; exact h
    by_cases h47 : v < 4800
    · have h := allB_spec _ _ (evFnCodeTree_47 B) (v - 4700) (by omega)
      rw [show 4700 + (v - 4700) = v by omega] at h; exact h
    by_cases h48 : v < 4900
    · have h := allB_spec _ _ (evFnCodeTree_48 B) (v - 4800) (by omega)
      rw [show 4800 + (v - 4800) = v by omega] at h; exact h
    by_cases h49 : v < 5000
    · have h := allB_spec _ _ (evFnCodeTree_49 B) (v - 4900) (by omega)
      rw [show 4900 + (v - 4900) = v by omega] at h; exact h
    by_cases h50 : v < 5100
    · have h := allB_spec _ _ (evFnCodeTree_50 B) (v - 5000) (by omega)
      rw [show 5000 + (v - 5000) = v by omega] at h; exact h
    have h := allB_spec _ _ (evFnCodeTree_51 B) (v - 5100) (by omega)
    rw [show 5100 + (v - 5100) = v by omega] at h; exact h
end
end Go.AI.T
