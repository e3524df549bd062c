/- For every text the law FnExactCutPieces returns true, on every schedule, and leaves the text as it was; no condition. -/
import Derived.Test.YthheobnfkfdocaaRows
import Derived.Test.YthheobnfkfdocaaHead
import Derived.Test.YthheobnfkfdocaaCutPiecesEv
import Derived.WalkKit
import Derived.Conc.LeavingOf
import Derived.ProofKit
import Derived.Conc.Holds
import Derived.SizedLaws
import Derived.Test.YthheobnfkfdocaaAi2
import Derived.OpenShut
import Derived.ShutString
namespace Go.Proofs.Ythheobnfkfdocaa.fnExactCutPieces
open Go.ChangeShapes Go.WideShapes Go.ChangeAt Go.RowKit
open Go.ChangeMaps (open_string shut_string)
set_option linter.unusedVariables false      -- a walk need not use every 'w<i>' (that an integer argument fits its kind)

theorem own : ownKnob Try.prog.godebug = none := by kernel_rfl

theorem walk (a0 : ByteArray) (w0 : a0.size ≤ maxLen) (W : World) : Go.Co.Walk Try.prog Go.Co.Cnt.tW (fun v w' => v = .bool true ∧ Below W.heap.size W w') true (Go.Co.lgLaw W) (Go.Conc.G (Frame.enter Try.prog 12 #[.string a0] .normal) []) W := by
  have hl : Go.AI.lenL (a0.data.toList.map UInt8.toNat) = a0.size := by rw [Go.AI.lenL_eq]; simp
  have key : ∃ h', Go.AI.T.c_laws_FnExactCutPieces 2097152 20 (.str (a0.data.toList.map UInt8.toNat) a0.size) Go.AI.H0 = some (.bool true, h') := by
    apply Go.AI.T.tells_some
    cases ht : Go.AI.isTree (a0.data.toList.map UInt8.toNat) with
    | false => exact Go.AI.T.bad_CutPieces hl ht
    | true =>
      have hm := Go.AI.isTree_mem ht
      obtain ⟨r, hr, he⟩ := List.mem_map.1 hm
      have h1 := Go.AI.allR_mem Go.AI.T.ok_CutPieces 17 1 1 (fun l => 40 :: l) Go.AI.T.evCutPieces_all r hr
      rw [show (40 :: r) = _ from he] at h1
      unfold Go.AI.T.ok_CutPieces at h1
      rw [hl] at h1
      exact h1
  obtain ⟨h', e⟩ := key
  exact Go.AI.T.root_laws_FnExactCutPieces 2097152 20 e (Go.AI.Rel.empty W) (Go.Co.cov_empty _) (.cons ⟨a0, rfl, rfl, rfl, w0⟩ .nil)

set_option maxRecDepth 100000 in
theorem lifted (os : Os) (started : os.Started) (H : Type) (enc : TypeId × Value → H) :
    ReturnsInLeavingWide {} Try.checked os 12 .any (Rows.fnExactCutPiecesSpec.pre6 enc Try.prog Try.f12 Rows.fnExactCutPiecesRow.domain false) (Rows.fnExactCutPiecesSpec.post enc Try.prog Try.f12 false true false false) := by
  refine returnsInLeavingWide_of_change_sized (C := Try.checked) own started Try.func12
    (ChangeSpec.witness6 (enc := enc) (C := Try.checked) false ⟨#[], #[.string ByteArray.empty], []⟩ 8 (by kernel_rfl) (by kernel_rfl) (by kernel_rfl) (by kernel_rfl)) ?_
  intro W base args ds gs before hval0 hW hcnd _ _
  have hval : ∀ (j : Nat) t v, Try.f12.params[j]? = some t → args[j]? = some v → Value.okWide Try.prog W .any base t v := hval0
  have hW' := hW
  obtain ⟨p, q, hA0, hV, rfl, hfz, hnd⟩ := hW
  have hA : DataW.TrodAll enc Try.prog W 0 (fun _ => true) true Try.f12.params.toList args.toList ds p := hA0
  rw [Try.params12] at hA hval
  obtain ⟨v0, vs0, d0, ds0, p0, q0, hargs, rfl, rfl, h0, r0⟩ := trodAll_cons hA
  obtain ⟨rfl, rfl, rfl⟩ := trodAll_nil r0
  obtain rfl : args = #[v0] := by cases args; simp_all
  obtain ⟨rfl, rfl⟩ := trodVars_none hV
  obtain ⟨a0, rfl, rfl, rfl, w0⟩ := open_string Try.underlying9 (hval 0 9 v0 rfl rfl) h0
  clear hA0 hval0
  simp only [List.append_nil] at hW'
  obtain ⟨N, last, o, w', t', h1, h2, h3, h4⟩ := Go.Co.co_ends (walk a0 w0 W) (fun b h => h.elim) (fun b h => h.elim (fun h => h.elim) id)
  refine ⟨N, last, o, w', t', h1, h2, h3, h4.mono fun v ⟨he, hg⟩ => ?_⟩
  subst he
  exact Go.AI.post_under (pa := []) (pv := []) hW' (fun _ _ _ => (trodAll_cons_mk (shut_bool Try.underlying4 _) trodAll_mk0)) (fun sp _ => (trodAll_cons_mk (shut_string Try.underlying9 w0) trodAll_mk0)) (fun _ _ => rfl) rfl
    hg (ok_one (by kernel_rfl) rfl (okWide_bool_mk Try.underlying4 _))

theorem closed : joinedFacts Try.prog 12 Try.f12 Rows.fnExactCutPiecesSpec Rows.fnExactCutPiecesRow = true := by
  unfold joinedFacts; rw [Go.AI.head_make, Go.AI.head_enter, Go.AI.head_lifts]; kernel_rfl

theorem over : Rows.fnExactCutPiecesRow.holds Try.pinned (OpenSpec.ofChange Rows.fnExactCutPiecesSpec) :=
  OpenClaim.holds_of_wide_leaving 12 Try.f12 rfl rfl rfl rfl rfl rfl rfl ⟨rfl, rfl, rfl, rfl, rfl⟩ rfl rfl rfl rfl rfl (by kernel_rfl) Try.func12 closed
    (of_decide_eq_true (by kernel_rfl)) (by unfold Func.isWrapper; first | (rw [if_pos (by decide +kernel)]; kernel_rfl) | (rw [if_neg (by decide +kernel)]; exact ⟨rfl, rfl⟩))
    (fun os started H enc _ => lifted os started H enc)

theorem proved : Rows.FnExactCutPiecesSaid :=
  over
end Go.Proofs.Ythheobnfkfdocaa.fnExactCutPieces
