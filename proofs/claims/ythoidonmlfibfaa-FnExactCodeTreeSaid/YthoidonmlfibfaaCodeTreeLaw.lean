/- The law FnExactCodeTree is true of every number. -/
import Derived.Test.YthoidonmlfibfaaCodeTreeEv0
import Derived.Test.YthoidonmlfibfaaCodeTreeEv1
import Derived.Test.YthoidonmlfibfaaCodeTreeEv2
import Derived.Test.YthoidonmlfibfaaCodeTreeEv3
import Derived.Test.YthoidonmlfibfaaCodeTreeEv4
import Derived.Test.YthoidonmlfibfaaCodeTreeEv5
import Derived.Test.YthoidonmlfibfaaCodeTreeEv6
import Derived.Test.YthoidonmlfibfaaCodeTreeEv7
import Derived.KernelRfl
namespace Go.AI.T
open Go Go.RowKit Go.AI
set_option linter.unusedVariables false
set_option linter.unusedSimpArgs false
set_option maxRecDepth 100000
noncomputable section
theorem law_num (n : Int) : tells (c_laws_FnExactCodeTree 2097152 20 (.int 3 n) H0) = true := by
  cases n with
  | negSucc m => kernel_rfl
  | ofNat m =>
    by_cases h0 : m < 100
    · have h := allB_spec _ _ evCodeTree_0 (m - 0) (by omega)
      rw [show 0 + (m - 0) = m by omega] at h; exact h
    by_cases h1 : m < 200
    · have h := allB_spec _ _ evCodeTree_1 (m - 100) (by omega)
      rw [show 100 + (m - 100) = m by omega] at h; exact h
    by_cases h2 : m < 300
    · have h := allB_spec _ _ evCodeTree_2 (m - 200) (by omega)
      rw [show 200 + (m - 200) = m by omega] at h; exact h
    by_cases h3 : m < 400
    · have h := allB_spec _ _ evCodeTree_3 (m - 300) (by omega)
      rw [show 300 + (m - 300) = m by omega] at h; exact h
    by_cases h4 : m < 500
    · have h := allB_spec _ _ evCodeTree_4 (m - 400) (by omega)
      rw [show 400 + (m - 400) = m by omega] at h; exact h
    by_cases h5 : m < 600
    · have h := allB_spec _ _ evCodeTree_5 (m - 500) (by omega)
      rw [show 500 + (m - 500) = m by omega] at h; exact h
    by_cases h6 : m < 700
    · have h := allB_spec _ _ evCodeTree_6 (m - 600) (by omega)
      rw [show 600 + (m - 600) = m by omega] at h; exact h
    by_cases h7 : m < 800
    · have h := allB_spec _ _ evCodeTree_7 (m - 700) (by omega)
      rw [show 700 + (m - 700) = m by omega] at h; exact h
    by_cases h8 : m < 900
    · have h := allB_spec _ _ evCodeTree_8 (m - 800) (by omega)
      rw [show 800 + (m - 800) = m by omega] at h; exact h
    by_cases h9 : m < 1000
    · have h := allB_spec _ _ evCodeTree_9 (m - 900) (by omega)
      rw [show 900 + (m - 900) = m by omega] at h; exact h
    by_cases h10 : m < 1100
    · have h := allB_spec _ _ evCodeTree_10 (m - 1000) (by omega)
      rw [show 1000 + (m - 1000) = m by omega] at h; exact h
    by_cases h11 : m < 1200
    · have h := allB_spec _ _ evCodeTree_11 (m - 1100) (by omega)
      rw [show 1100 + (m - 1100) = m by omega] at h; exact h
    by_cases h12 : m < 1300
    · have h := allB_spec _ _ evCodeTree_12 (m - 1200) (by omega)
      rw [show 1200 + (m - 1200) = m by omega] at h; exact h
    by_cases h13 : m < 1400
    · have h := allB_spec _ _ evCodeTree_13 (m - 1300) (by omega)
      rw [show 1300 + (m - 1300) = m by omega] at h; exact h
    by_cases h14 : m < 1500
    · have h := allB_spec _ _ evCodeTree_14 (m - 1400) (by omega)
      rw [show 1400 + (m - 1400) = m by omega] at h; exact h
    by_cases h15 : m < 1600
    · have h := allB_spec _ _ evCodeTree_15 (m - 1500) (by omega)
      rw [show 1500 + (m - 1500) = m by omega] at h; exact h
    by_cases h16 : m < 1700
    · have h := allB_spec _ _ evCodeTree_16 (m - 1600) (by omega)
      rw [show 1600 + (m - 1600) = m by omega] at h; exact h
    by_cases h17 : m < 1800
    · have h := allB_spec _ _ evCodeTree_17 (m - 1700) (by omega)
      rw [show 1700 + (m - 1700) = m by omega] at h; exact h
    by_cases h18 : m < 1900
    · have h := allB_spec _ _ evCodeTree_18 (m - 1800) (by omega)
      rw [show 1800 + (m - 1800) = m by omega] at h; exact h
    by_cases h19 : m < 2000
    · have h := allB_spec _ _ evCodeTree_19 (m - 1900) (by omega)
      rw [show 1900 + (m - 1900) = m by omega] at h; exact h
    by_cases h20 : m < 2100
    · have h := allB_spec _ _ evCodeTree_20 (m - 2000) (by omega)
      rw [show 2000 + (m - 2000) = m by omega] at h; exact h
    by_cases h21 : m < 2200
    · have h := allB_spec _ _ evCodeTree_21 (m - 2100) (by omega)
      rw [show 2100 + (m - 2100) = m by omega] at h; exact h
    by_cases h22 : m < 2300
    · have h := allB_spec _ _ evCodeTree_22 (m - 2200) (by omega)
      rw [show 2200 + (m - 2200) = m by omega] at h; exact h
    by_cases h23 : m < 2400
    · have h := allB_spec _ _ evCodeTree_23 (m - 2300) (by omega)
      rw [show 2300 + (m - 2300) = m by omega] at h; exact h
    by_cases h24 : m < 2500
    · have h := allB_spec _ _ evCodeTree_24 (m - 2400) (by omega)
      rw [show 2400 + (m - 2400) = m by omega] at h; exact h
    by_cases h25 : m < 2600
    · have h := allB_spec _ _ evCodeTree_25 (m - 2500) (by omega)
      rw [show 2500 + (m - 2500) = m by omega] at h; exact h
    by_cases h26 : m < 2700
    · have h := allB_spec _ _ evCodeTree_26 (m - 2600) (by omega)
      rw [show 2600 + (m - 2600) = m by omega] at h; exact h
    by_cases h27 : m < 2800
    · have h := allB_spec _ _ evCodeTree_27 (m - 2700) (by omega)
      rw [show 2700 + (m - 2700) = m by omega] at h; exact h
    by_cases h28 : m < 2900
    · have h := allB_spec _ _ evCodeTree_28 (m - 2800) (by omega)
      rw [show 2800 + (m - 2800) = m by omega] at h; exact h
    by_cases h29 : m < 3000
    · have h := allB_spec _ _ evCodeTree_29 (m - 2900) (by omega)
      rw [show 2900 + (m - 2900) = m by omega] at h; exact h
    by_cases h30 : m < 3100
    · have h := allB_spec _ _ evCodeTree_30 (m - 3000) (by omega)
      rw [show 3000 + (m - 3000) = m by omega] at h; exact h
    by_cases h31 : m < 3200
    · have h := allB_spec _ _ evCodeTree_31 (m - 3100) (by omega)
      rw [show 3100 + (m - 3100) = m by omega] at h; exact h
    by_cases h32 : m < 3300
    · have h := allB_spec _ _ evCodeTree_32 (m - 3200) (by omega)
      rw [show 3200 + (m - 3200) = m by omega] at h; exact h
    by_cases h33 : m < 3400
    · have h := allB_spec _ _ evCodeTree_33 (m - 3300) (by omega)
      rw [show 3300 + (m - 3300) = m by omega] at h; exact h
    by_cases h34 : m < 3500
    · have h := allB_spec _ _ evCodeTree_34 (m - 3400) (by omega)
      rw [show 3400 + (m - 3400) = m by omega] at h; exact h
    by_cases h35 : m < 3600
    · have h := allB_spec _ _ evCodeTree_35 (m - 3500) (by omega)
      rw [show 3500 + (m - 3500) = m by omega] at h; exact h
    by_cases h36 : m < 3700
    · have h := allB_spec _ _ evCodeTree_36 (m - 3600) (by omega)
      rw [show 3600 + (m - 3600) = m by omega] at h; exact h
    by_cases h37 : m < 3800
    · have h := allB_spec _ _ evCodeTree_37 (m - 3700) (by omega)
      rw [show 3700 + (m - 3700) = m by omega] at h; exact h
    by_cases h38 : m < 3900
    · have h := allB_spec _ _ evCodeTree_38 (m - 3800) (by omega)
      rw [show 3800 + (m - 3800) = m by omega] at h; exact h
    by_cases h39 : m < 4000
    · have h := allB_spec _ _ evCodeTree_39 (m - 3900) (by omega)
      rw [show 3900 + (m - 3900) = m by omega] at h; exact h
    by_cases h40 : m < 4100
    · have h := allB_spec _ _ evCodeTree_40 (m - 4000) (by omega)
      rw [show 4000 + (m - 4000) = m by omega] at h; exact h
    by_cases h41 : m < 4200
    · have h := allB_spec _ _ evCodeTree_41 (m - 4100) (by omega)
      rw [show 4100 + (m - 4100) = m by omega] at h; exact h
    by_cases h42 : m < 4300
    · have h := allB_spec _ _ evCodeTree_42 (m - 4200) (by omega)
      rw [show 4200 + (m - 4200) = m by omega] at h; exact h
    by_cases h43 : m < 4400
    · have h := allB_spec _ _ evCodeTree_43 (m - 4300) (by omega)
      rw [show 4300 + (m - 4300) = m by omega] at h; exact h
    by_cases h44 : m < 4500
    · have h := allB_spec _ _ evCodeTree_44 (m - 4400) (by omega)
      rw [show 4400 + (m - 4400) = m by omega] at h; exact h
    by_cases h45 : m < 4600
    · have h := allB_spec _ _ evCodeTree_45 (m - 4500) (by omega)
      rw [show 4500 + (m - 4500) = m by omega] at h; exact h
    by_cases h46 : m < 4700
    · have h := allB_spec _ _ evCodeTree_46 (m - 4600) (by omega)
      rw [show 4600 + (m - 4600) = m by omega] at h; exact h
    by_cases h47 : m < 4800
    · have h := allB_spec _ _ evCodeTree_47 (m - 4700) (by omega)
      rw [show 4700 + (m - 4700) = m by omega] at h; exact h
    by_cases h48 : m < 4900
    · have h := allB_spec _ _ evCodeTree_48 (m - 4800) (by omega)
      rw [show 4800 + (m - 4800) = m by omega] at h; exact h
    by_cases h49 : m < 5000
    · have h := allB_spec _ _ evCodeTree_49 (m - 4900) (by omega)
      rw [show 4900 + (m - 4900) = m by omega] at h; exact h
    by_cases h50 : m < 5001
    · have h := allB_spec _ _ evCodeTree_50 (m - 5000) (by omega)
      rw [show 5000 + (m - 5000) = m by omega] at h; exact h
    have hin : ∀ (F g : Nat) (h : H), c_spec_l6In F g (nI m) (nI 1) (nI 5000) h = some (.bool (bc (Nat.ble 1 m) (Nat.ble m 5000) false), h) := fun F g h => by
      delta c_spec_l6In
      show guardB true (.bool (Nat.ble 1 m)) (aCmpI ile (nI m) (nI 5000) h fun x5 h => c_spec_l6In_j1 F g [.bool (Nat.ble 1 m), x5] h) (c_spec_l6In_j1 F g [.bool (Nat.ble 1 m), .one .tup (.leaf .nil)] h) = _
      cases Nat.ble 1 m <;> rfl
    have his : ∀ (F g : Nat) (h : H), c_impl_isCode F g (nI m) h = some (.bool (bc (Nat.ble 1 m) (Nat.ble m 5000) false), h) := fun F g h => by
      delta c_impl_isCode
      show guardB true (.bool (Nat.ble 1 m)) (aCmpI ile (nI m) (nI 5000) h fun x5 h => c_impl_isCode_j1 F g [.bool (Nat.ble 1 m), x5] h) (c_impl_isCode_j1 F g [.bool (Nat.ble 1 m), .one .tup (.leaf .nil)] h) = _
      cases Nat.ble 1 m <;> rfl
    have hb : bc (Nat.ble 1 m) (Nat.ble m 5000) false = false := by
      rw [ble_true (show 1 ≤ m by omega), bc_true, ble_false (by omega)]
    delta c_laws_FnExactCodeTree c_spec_CodeTree c_impl_CodeTree
    rw [show AV.int 3 (Int.ofNat m) = nI m from rfl, show AV.int 3 (Int.ofNat 1) = nI 1 from rfl, show AV.int 3 (Int.ofNat 5000) = nI 5000 from rfl, hin, bindR_some', hb, aNot_b, bnot_f, withBool_bool, bc_true, bindR_some', aExtract_0, aExtract_1, his, bindR_some', hb]
    rfl
end
end Go.AI.T
