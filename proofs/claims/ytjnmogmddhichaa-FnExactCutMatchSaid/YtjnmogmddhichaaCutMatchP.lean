/- For every text the law FnExactCutMatch returns true, and leaves the text as it was; no condition. -/
import Derived.Test.YtjnmogmddhichaaRows
import Derived.Test.YtjnmogmddhichaaHead
import Derived.Test.YtjnmogmddhichaaCutMatchEv
import Derived.WalkKit
import Derived.ProofKit
import Derived.OpenShut
import Derived.ShutString
namespace Go.Proofs.Ytjnmogmddhichaa.fnExactCutMatch
open Go.ChangeShapes Go.WideShapes Go.ChangeAt Go.RowKit
open Go.ChangeMaps (open_string shut_string)
set_option linter.unusedVariables false      -- a walk need not use every 'w<i>' (that an integer argument fits its kind)

theorem own : ownKnob Try.prog.godebug = none := by kernel_rfl

theorem walk (a0 : ByteArray) (w0 : a0.size ≤ maxLen) (w : World) :
    Calls Try.prog 6 #[.string a0] w fun e w' => e = .returned (.bool true) ∧ Below w.heap.size w w' := by
  have hl : Go.AI.lenL (a0.data.toList.map UInt8.toNat) = a0.size := by rw [Go.AI.lenL_eq]; simp
  have key : ∃ h', Go.AI.T.c_laws_FnExactCutMatch 2097152 20 (.str (a0.data.toList.map UInt8.toNat) a0.size) Go.AI.H0 = some (.bool true, h') := by
    apply Go.AI.T.tells_some
    cases ht : Go.AI.isTree (a0.data.toList.map UInt8.toNat) with
    | false => exact Go.AI.T.bad_CutMatch hl ht
    | true =>
      have hm := Go.AI.isTree_mem ht
      obtain ⟨r, hr, he⟩ := List.mem_map.1 hm
      have h1 := Go.AI.allR_mem Go.AI.T.ok_CutMatch 17 1 1 (fun l => 40 :: l) Go.AI.T.evCutMatch_all r hr
      rw [show (40 :: r) = _ from he] at h1
      unfold Go.AI.T.ok_CutMatch at h1
      rw [hl] at h1
      exact h1
  obtain ⟨h', e⟩ := key
  exact Go.AI.law_true (Go.AI.T.s_laws_FnExactCutMatch 2097152 20 [_] _ _ e) (.cons ⟨a0, rfl, rfl, rfl, w0⟩ .nil) w

set_option maxRecDepth 100000 in
theorem lifted (os : Os) (started : os.Started) (H : Type) (enc : TypeId × Value → H) :
    ReturnsInHanded {} Try.checked os 6 .any (Rows.fnExactCutMatchSpec.pre6 enc Try.prog Try.f6 Rows.fnExactCutMatchRow.domain false) (Rows.fnExactCutMatchSpec.post enc Try.prog Try.f6 false true false false) := by
  refine returnsInHanded_of_change (C := Try.checked) own started (by kernel_rfl) Try.func6
    (ChangeSpec.witness6 (enc := enc) (C := Try.checked) false ⟨#[], #[.string ByteArray.empty], []⟩ 8 (by kernel_rfl) (by kernel_rfl) (by kernel_rfl) (by kernel_rfl)) ?_
  intro W base args ds gs before hval0 hW hcnd _
  have hval : ∀ (j : Nat) t v, Try.f6.params[j]? = some t → args[j]? = some v → Value.okWide Try.prog W .any base t v := hval0
  have hW' := hW
  obtain ⟨p, q, hA0, hV, rfl, hfz, hnd⟩ := hW
  have hA : DataW.TrodAll enc Try.prog W 0 (fun _ => true) true Try.f6.params.toList args.toList ds p := hA0
  rw [Try.params6] at hA hval
  obtain ⟨v0, vs0, d0, ds0, p0, q0, hargs, rfl, rfl, h0, r0⟩ := trodAll_cons hA
  obtain ⟨rfl, rfl, rfl⟩ := trodAll_nil r0
  obtain rfl : args = #[v0] := by cases args; simp_all
  obtain ⟨rfl, rfl⟩ := trodVars_none hV
  obtain ⟨a0, rfl, rfl, rfl, w0⟩ := open_string Try.underlying9 (hval 0 9 v0 rfl rfl) h0
  clear hA0 hval0
  simp only [List.append_nil] at hW'
  refine (walk a0 w0 W).mono fun e W' ⟨he, hg⟩ => ?_
  subst he
  exact ⟨_, rfl, Go.AI.post_under (pa := []) (pv := []) hW' (fun _ _ _ => (trodAll_cons_mk (shut_bool Try.underlying4 _) trodAll_mk0)) (fun sp _ => (trodAll_cons_mk (shut_string Try.underlying9 w0) trodAll_mk0)) (fun _ _ => rfl) rfl
    hg (ok_one (by kernel_rfl) rfl (okWide_bool_mk Try.underlying4 _))⟩

theorem closed : joinedFacts Try.prog 6 Try.f6 Rows.fnExactCutMatchSpec Rows.fnExactCutMatchRow = true := by
  unfold joinedFacts; rw [Go.AI.head_make, Go.AI.head_enter, Go.AI.head_lifts]; kernel_rfl

theorem over : Rows.fnExactCutMatchRow.holds Try.pinned (OpenSpec.ofChange Rows.fnExactCutMatchSpec) :=
  OpenClaim.holds_of_wide 6 Try.f6 rfl rfl rfl rfl rfl rfl rfl ⟨rfl, rfl, rfl, rfl, rfl⟩ rfl rfl rfl rfl rfl (by kernel_rfl) Try.func6 closed
    (of_decide_eq_true (by kernel_rfl)) (by unfold Func.isWrapper; first | (rw [if_pos (by decide +kernel)]; kernel_rfl) | (rw [if_neg (by decide +kernel)]; exact ⟨rfl, rfl⟩))
    (fun os started H enc _ => lifted os started H enc)

theorem proved : Rows.FnExactCutMatchSaid :=
  over
end Go.Proofs.Ytjnmogmddhichaa.fnExactCutMatch
