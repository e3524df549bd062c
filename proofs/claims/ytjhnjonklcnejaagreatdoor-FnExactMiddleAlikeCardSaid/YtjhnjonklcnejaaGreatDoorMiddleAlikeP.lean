/- For every text (and every other) the law FnExactMiddleAlike returns true, on every schedule, and leaves what it is given as it was; no condition. -/
import Derived.Test.YtjhnjonklcnejaaGreatDoorRows
import Derived.Test.YtjhnjonklcnejaaGreatDoorCards
import Derived.Test.YtjhnjonklcnejaaGreatDoorTie
import Derived.Test.YtjhnjonklcnejaaGreatDoorLw
import Derived.SevenTiedAt
import Derived.Test.YtjhnjonklcnejaaGreatDoorHead
import Derived.Test.YtjhnjonklcnejaaGreatDoorMiddleAlikeKey
import Derived.WalkKit
import Derived.Conc.LeavingOf
import Derived.ProofKit
import Derived.Conc.Holds
import Derived.SizedLaws
import Derived.Test.YtjhnjonklcnejaaGreatDoorAi2
import Derived.OpenShut
import Derived.ShutString
set_option linter.unusedVariables false
set_option linter.unusedSimpArgs false
set_option maxRecDepth 100000
namespace Go.Proofs.YtjhnjonklcnejaaGreatDoor.fnExactMiddleAlike
open Go.ChangeShapes Go.WideShapes Go.ChangeAt Go.RowKit
open Go.ChangeMaps (open_string shut_string)
set_option linter.unusedVariables false      -- a walk need not use every 'w<i>' (that an integer argument fits its kind)
theorem own : ownKnob Tryz.prog.godebug = none := by kernel_rfl
theorem walk (a0 : ByteArray) (w0 : a0.size <= maxLen) (a1 : ByteArray) (w1 : a1.size <= maxLen) (W : World) : Go.Co.Walk Tryz.prog Go.Co.Cnt.tW (fun v w' => v = .bool true /\ Below W.heap.size W w') true (Go.Co.lgLaw W) (Go.Conc.G (Frame.enter Tryz.prog 7 #[.string a0, .string a1] .normal) []) W := by
  have hl : Go.AI.lenL (a0.data.toList.map UInt8.toNat) = a0.size := by rw [Go.AI.zabb]; simp
  have hk : Go.AI.lenL (a1.data.toList.map UInt8.toNat) = a1.size := by rw [Go.AI.zabb]; simp
  obtain ⟨h', e⟩ := Go.AI.T.zatc (Go.AI.T.key_MiddleAlike hl hk)
  exact Go.AI.T.root_laws_FnExactMiddleAlike 2097152 20 e (Go.AI.Rel.empty W) (Go.Co.zaqp _) (.cons ⟨a0, rfl, rfl, rfl, w0⟩ (.cons ⟨a1, rfl, rfl, rfl, w1⟩ .nil))
set_option maxRecDepth 100000 in
theorem lifted (os : Os) (started : os.Started) (H : Type) (enc : TypeId × Value -> H) :
    ReturnsInLeavingWide {} Tryz.checked os 7 .any (fun w args => (Rows.fnExactMiddleAlikeSpec.pre enc Tryz.prog Tryz.f7 [] false w args /\ laidMetH Tryz.prog Rows.fnExactMiddleAlikeRow.laid w) /\ sizedMet enc Tryz.prog Tryz.f7 (OpenSpec.ofChange Rows.fnExactMiddleAlikeSpec) false w args) (Rows.fnExactMiddleAlikeSpec.post enc Tryz.prog Tryz.f7 false true false false) := by
  refine leavingWide_and (C := Tryz.checked) (X := fun w _ => laidMetH Tryz.prog Rows.fnExactMiddleAlikeRow.laid w) own started Tryz.func7
    (ChangeSpec.witness_at (enc := enc) (C := Tryz.checked) (os := os) (X := fun w _ => laidMetH Tryz.prog Rows.fnExactMiddleAlikeRow.laid w) false (Laid.world os) #[.string ByteArray.empty, .string ByteArray.empty] 8 rfl (by kernel_rfl) (by kernel_rfl) (by kernel_rfl) (by kernel_rfl) (by kernel_rfl) (Laid.world_met os _)) ?_
  intro W base args ds gs before hval0 hW hcnd _ _
  have hval : ∀ (j : Nat) t v, Tryz.f7.params[j]? = some t -> args[j]? = some v -> Value.okWide Tryz.prog W .any base t v := hval0
  have hW' := hW
  obtain ⟨p, q, hA0, hV, rfl, hfz, hnd⟩ := hW
  have hA : DataW.TrodAll enc Tryz.prog W 0 (fun _ => true) true Tryz.f7.params.toList args.toList ds p := hA0
  rw [Tryz.params7] at hA hval
  obtain ⟨v0, vs0, d0, ds0, p0, q0, hargs, rfl, rfl, h0, r0⟩ := trodAll_cons hA
  obtain ⟨v1, vs1, d1, ds1, p1, q1, rfl, rfl, rfl, h1, r1⟩ := trodAll_cons r0
  obtain ⟨rfl, rfl, rfl⟩ := trodAll_nil r1
  obtain rfl : args = #[v0, v1] := by cases args; simp_all
  obtain ⟨rfl, rfl⟩ := trodVars_none hV
  obtain ⟨a0, rfl, rfl, rfl, w0⟩ := open_string Tryz.underlying9 (hval 0 9 v0 rfl rfl) h0
  obtain ⟨a1, rfl, rfl, rfl, w1⟩ := open_string Tryz.underlying9 (hval 1 9 v1 rfl rfl) h1
  clear hA0 hval0
  simp only [List.append_nil] at hW'
  obtain ⟨N, last, o, w', t', h1, h2, h3, h4⟩ := Go.Co.zauy (walk a0 w0 a1 w1 W) (fun b h => h.elim) (fun b h => h.elim (fun h => h.elim) id)
  refine ⟨N, last, o, w', t', h1, h2, h3, h4.mono fun v ⟨he, hg⟩ => ?_⟩
  subst he
  exact Go.AI.post_under (pa := []) (pv := []) hW' (fun _ _ _ => (trodAll_cons_mk (shut_bool Tryz.underlying4 _) trodAll_mk0)) (fun sp _ => (trodAll_cons_mk (shut_string Tryz.underlying9 w0) (trodAll_cons_mk (shut_string Tryz.underlying9 w1) trodAll_mk0))) (fun _ _ => rfl) rfl
    hg (ok_one (by kernel_rfl) rfl (okWide_bool_mk Tryz.underlying4 _))
theorem closed : joinedFacts Tryz.prog 7 Tryz.f7 Rows.fnExactMiddleAlikeSpec Rows.fnExactMiddleAlikeRow = true := by
  unfold joinedFacts; rw [Go.AI.head_make, Go.AI.head_enter, Go.AI.head_lifts]; kernel_rfl
theorem over : Rows.fnExactMiddleAlikeRow.holds Tryz.pinned (OpenSpec.ofChange Rows.fnExactMiddleAlikeSpec) :=
  OpenClaim.holds_of_wide_leaving 7 Tryz.f7 rfl rfl rfl rfl rfl rfl rfl ⟨rfl, rfl, rfl, rfl, rfl⟩ rfl rfl rfl rfl rfl (by kernel_rfl) Tryz.func7 closed
    (of_decide_eq_true (by kernel_rfl)) (by unfold Func.isWrapper; first | (rw [if_pos (by decide +kernel)]; kernel_rfl) | (rw [if_neg (by decide +kernel)]; exact ⟨rfl, rfl⟩))
    (fun os started H enc _ => lifted os started H enc)
theorem proved : Rows.FnExactMiddleAlikeCardSaid :=
  ⟨Claim7.tied_new_at .later [.handle] true (Claim7.new_of_sixth over (true, "3a913eda1e3536ee1a0a9bc5282176faf2328727173ffaf0cc18288c595e9555") true rfl ⟨rfl, rfl⟩ (by kernel_rfl) rfl (fun f fn hf hfn => by
      obtain rfl : f = 7 := Option.some.inj ((show Tryz.prog.funcNamed Rows.fnExactMiddleAlikeRow.func = some 7 by kernel_rfl).symm.trans hf) |>.symm
      obtain rfl : fn = Tryz.f7 := (Option.some.inj (Tryz.func7.symm.trans hfn)).symm
      exact ⟨by kernel_rfl, fun j t ht => by
        have all : Tryz.f7.params.toList.all (fun t => !Tryz.prog.wantsStandIn t) = true := by kernel_rfl
        have := List.all_eq_true.1 all t (Array.mem_toList_iff.2 (Array.mem_of_getElem? ht))
        exact (by simpa using this : Tryz.prog.wantsStandIn t = false)⟩)) (by kernel_rfl), fun _ h => (by cases h), fnExactMiddleAlike_row_tie, fun h => (by cases h), by kernel_rfl⟩
end Go.Proofs.YtjhnjonklcnejaaGreatDoor.fnExactMiddleAlike
