/- For every number the law FnExactStreamLeast returns true; no condition. -/
import Derived.Test.YtojcncloeikjlabRows
import Derived.Test.YtojcncloeikjlabHead
import Derived.Test.YtojcncloeikjlabStreamLeastEv0
import Derived.Test.YtojcncloeikjlabStreamLeastEv1
import Derived.Test.YtojcncloeikjlabStreamLeastEv2
import Derived.Test.YtojcncloeikjlabStreamLeastEv3
import Derived.WalkKit
import Derived.ProofKit
import Derived.OpenShut
import Derived.ShutString
namespace Go.Proofs.Ytojcncloeikjlab.fnExactStreamLeast
open Go.ChangeShapes Go.WideShapes Go.ChangeAt Go.RowKit
open Go.ChangeMaps (open_string shut_string)
set_option linter.unusedVariables false      -- a walk need not use every 'w<i>' (that an integer argument fits its kind)

theorem own : ownKnob Try.prog.godebug = none := by kernel_rfl

theorem walk (a0 : Int) (w0 : (Lit.int .i64 a0).wf = true) (w : World) :
    Calls Try.prog 5 #[.int .i64 a0] w fun e w' => e = .returned (.bool true) ∧ Below w.heap.size w w' := by
  have key : ∃ h', Go.AI.X.c_laws_FnExactStreamLeast 2097152 20 (.int 3 a0) Go.AI.H0 = some (.bool true, h') := by
    apply Go.AI.X.tells_some
    by_cases hn : a0 < 1 ∨ 10 < a0
    · exact Go.AI.X.law_out hn
    · have hc : a0 = 1 ∨ a0 = 2 ∨ a0 = 3 ∨ a0 = 4 ∨ a0 = 5 ∨ a0 = 6 ∨ a0 = 7 ∨ a0 = 8 ∨ a0 = 9 ∨ a0 = 10 := by omega
      rcases hc with rfl | rfl | rfl | rfl | rfl | rfl | rfl | rfl | rfl | rfl
      · exact Go.AI.X.evStreamLeast_1
      · exact Go.AI.X.evStreamLeast_2
      · exact Go.AI.X.evStreamLeast_3
      · exact Go.AI.X.evStreamLeast_4
      · exact Go.AI.X.evStreamLeast_5
      · exact Go.AI.X.evStreamLeast_6
      · exact Go.AI.X.evStreamLeast_7
      · exact Go.AI.X.evStreamLeast_8
      · exact Go.AI.X.evStreamLeast_9
      · exact Go.AI.X.evStreamLeast_10
  obtain ⟨h', e⟩ := key
  exact Go.AI.law_true (Go.AI.X.s_laws_FnExactStreamLeast 2097152 20 [_] _ _ e) (.cons rfl .nil) w

set_option maxRecDepth 100000 in
theorem lifted (os : Os) (started : os.Started) (H : Type) (enc : TypeId × Value → H) :
    ReturnsInHanded {} Try.checked os 5 .any (Rows.fnExactStreamLeastSpec.pre6 enc Try.prog Try.f5 Rows.fnExactStreamLeastRow.domain false) (Rows.fnExactStreamLeastSpec.post enc Try.prog Try.f5 false true false false) := by
  refine returnsInHanded_of_change (C := Try.checked) own started (by kernel_rfl) Try.func5
    (ChangeSpec.witness6 (enc := enc) (C := Try.checked) false ⟨#[], #[.int .i64 0], []⟩ 8 (by kernel_rfl) (by kernel_rfl) (by kernel_rfl) (by kernel_rfl)) ?_
  intro W base args ds gs before hval0 hW hcnd _
  have hval : ∀ (j : Nat) t v, Try.f5.params[j]? = some t → args[j]? = some v → Value.okWide Try.prog W .any base t v := hval0
  have hW' := hW
  obtain ⟨p, q, hA0, hV, rfl, hfz, hnd⟩ := hW
  have hA : DataW.TrodAll enc Try.prog W 0 (fun _ => true) true Try.f5.params.toList args.toList ds p := hA0
  rw [Try.params5] at hA hval
  obtain ⟨v0, vs0, d0, ds0, p0, q0, hargs, rfl, rfl, h0, r0⟩ := trodAll_cons hA
  obtain ⟨rfl, rfl, rfl⟩ := trodAll_nil r0
  obtain rfl : args = #[v0] := by cases args; simp_all
  obtain ⟨rfl, rfl⟩ := trodVars_none hV
  obtain ⟨a0, rfl, rfl, rfl, w0⟩ := open_int Try.underlying3 (hval 0 3 v0 rfl rfl) h0
  clear hA0 hval0
  simp only [List.append_nil] at hW'
  refine (walk a0 w0 W).mono fun e W' ⟨he, hg⟩ => ?_
  subst he
  exact ⟨_, rfl, Go.AI.post_under (pa := []) (pv := []) hW' (fun _ _ _ => (trodAll_cons_mk (shut_bool Try.underlying4 _) trodAll_mk0)) (fun sp _ => (trodAll_cons_mk (shut_int Try.underlying3 w0) trodAll_mk0)) (fun _ _ => rfl) rfl
    hg (ok_one (by kernel_rfl) rfl (okWide_bool_mk Try.underlying4 _))⟩

theorem closed : joinedFacts Try.prog 5 Try.f5 Rows.fnExactStreamLeastSpec Rows.fnExactStreamLeastRow = true := by
  unfold joinedFacts; rw [Go.AI.head_make, Go.AI.head_enter, Go.AI.head_lifts]; kernel_rfl

theorem over : Rows.fnExactStreamLeastRow.holds Try.pinned (OpenSpec.ofChange Rows.fnExactStreamLeastSpec) :=
  OpenClaim.holds_of_wide 5 Try.f5 rfl rfl rfl rfl rfl rfl rfl ⟨rfl, rfl, rfl, rfl, rfl⟩ rfl rfl rfl rfl rfl (by kernel_rfl) Try.func5 closed
    (of_decide_eq_true (by kernel_rfl)) (by unfold Func.isWrapper; first | (rw [if_pos (by decide +kernel)]; kernel_rfl) | (rw [if_neg (by decide +kernel)]; exact ⟨rfl, rfl⟩))
    (fun os started H enc _ => lifted os started H enc)

theorem proved : Rows.FnExactStreamLeastSaid :=
  over
end Go.Proofs.Ytojcncloeikjlab.fnExactStreamLeast
