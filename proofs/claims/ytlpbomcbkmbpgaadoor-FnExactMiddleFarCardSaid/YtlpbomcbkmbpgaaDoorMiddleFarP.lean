/- For every text and every number the law FnExactMiddleFar returns true, and leaves the text as it was; no condition. -/
import Derived.Test.YtlpbomcbkmbpgaaDoorRows
import Derived.Test.YtlpbomcbkmbpgaaDoorCards
import Derived.Test.YtlpbomcbkmbpgaaDoorTie
import Derived.Test.YtlpbomcbkmbpgaaDoorLw
import Derived.Test.YtlpbomcbkmbpgaaDoorHead
import Derived.SevenTiedAt
import Derived.Test.YtlpbomcbkmbpgaaDoorMiddleFarEv
import Derived.WalkKit
import Derived.Conc.Holds
import Derived.SizedLaws
import Derived.ProofKit
import Derived.OpenShut
import Derived.ShutString
namespace Go.AI
open Go
theorem leaving_of_alone {P : Program} {last : Machine} {w : World} {t : Trace} (h : aloneAtReturn P last w t) : leavingAtReturn P last w t := by
  obtain ⟨⟨h1, h2⟩, h3, h4⟩ := h
  refine ⟨h3, ⟨fun g hg => ⟨0, ?_⟩, h2⟩, h4⟩
  unfold Machine.othersDone at h1
  exact eq_of_beq (List.all_eq_true.1 h1 g hg)
theorem leaving_of_handed {a : Assume} {C : Checked} {os : Os} {f : FuncId} {r : Reach} {Pre : World → Array Value → Prop} {Post : World → Array Value → Value → World → Prop}
    (h : ReturnsInHanded a C os f r Pre Post) : ReturnsInLeavingWide a C os f r Pre Post := fun enter =>
  ReturnsInOpen.mono (fun _ _ _ x => leaving_of_alone x) (fun _ x => x) (h enter)
end Go.AI
namespace Go.Proofs.YtlpbomcbkmbpgaaDoor.fnExactMiddleFar
open Go.ChangeShapes Go.WideShapes Go.ChangeAt Go.RowKit
open Go.ChangeMaps (open_string shut_string)
set_option linter.unusedVariables false      -- a walk need not use every 'w<i>' (that an integer argument fits its kind)

theorem own : ownKnob Tryd.prog.godebug = none := by kernel_rfl

theorem walk (a0 : ByteArray) (a1 : Int) (w0 : a0.size ≤ maxLen) (w1 : (Lit.int .i64 a1).wf = true) (w : World) (hg : w.cell? ⟨0, 0, none⟩ = some (.iface 111 (.agg #[.pointer (some ⟨1, 47, none⟩)]))) :
    Calls Tryd.prog 6 #[.string a0, .int .i64 a1] w fun e w' => e = .returned (.bool true) ∧ Below w.heap.size w w' := by
  have hl : Go.AI.lenL (a0.data.toList.map UInt8.toNat) = a0.size := by rw [Go.AI.lenL_eq]; simp
  have key : ∃ h', Go.AI.T.c_laws_FnExactMiddleFar 2097152 20 (.str (a0.data.toList.map UInt8.toNat) a0.size) (.int 3 a1) (Go.AI.Hp 111 47) = some (.bool true, h') := by
    apply Go.AI.T.tells_some
    cases ht : Go.AI.isTree (a0.data.toList.map UInt8.toNat) with
    | false => exact Go.AI.T.bad_MiddleFar a1 hl ht
    | true =>
      have hm := Go.AI.isTree_mem ht
      obtain ⟨r, hr, he⟩ := List.mem_map.1 hm
      have h1 := fun j => Go.AI.allR_mem (Go.AI.T.ok_MiddleFar j) 17 1 1 (fun l => 40 :: l) (Go.AI.T.evMiddleFar_all j) r hr
      rw [show (40 :: r) = _ from he] at h1
      have h2 := Go.AI.T.ok_MiddleFar_one h1 a1
      unfold Go.AI.T.one_MiddleFar at h2
      rw [hl] at h2
      exact h2
  obtain ⟨h', e⟩ := key
  exact Go.AI.law_trueP (by decide) (Go.AI.T.s_laws_FnExactMiddleFar 2097152 20 [_, _] _ _ e) (fun _ => .cons ⟨a0, rfl, rfl, rfl, w0⟩ (.cons rfl .nil)) w hg

set_option maxRecDepth 100000 in
theorem lifted (os : Os) (started : os.Started) (H : Type) (enc : TypeId × Value → H) :
    ReturnsInHanded {} Tryd.checked os 6 .any (fun w args => (Rows.fnExactMiddleFarSpec.pre enc Tryd.prog Tryd.f6 [] false w args ∧ laidMetH Tryd.prog Rows.fnExactMiddleFarRow.laid w) ∧ sizedMet enc Tryd.prog Tryd.f6 (OpenSpec.ofChange Rows.fnExactMiddleFarSpec) false w args) (Rows.fnExactMiddleFarSpec.post enc Tryd.prog Tryd.f6 false true false false) := by
  refine returnsInHanded_of_change_and (C := Tryd.checked) (X := fun w _ => laidMetH Tryd.prog Rows.fnExactMiddleFarRow.laid w) (fun _ _ _ hh h => h.of_heap hh) own started (by kernel_rfl) Tryd.func6
    (ChangeSpec.witness_at (enc := enc) (C := Tryd.checked) (os := os) (X := fun w _ => laidMetH Tryd.prog Rows.fnExactMiddleFarRow.laid w) false (Laid.world os) #[.string ByteArray.empty, .int .i64 0] 8 rfl (by kernel_rfl) (by kernel_rfl) (by kernel_rfl) (by kernel_rfl) (by kernel_rfl) (Laid.world_met os _)) ?_
  intro W base args ds gs before hval0 hW hcnd _ hL _
  have hval : ∀ (j : Nat) t v, Tryd.f6.params[j]? = some t → args[j]? = some v → Value.okWide Tryd.prog W .any base t v := hval0
  have hW' := hW
  obtain ⟨p, q, hA0, hV, rfl, hfz, hnd⟩ := hW
  have hA : DataW.TrodAll enc Tryd.prog W 0 (fun _ => true) true Tryd.f6.params.toList args.toList ds p := hA0
  rw [Tryd.params6] at hA hval
  obtain ⟨v0, vs0, d0, ds0, p0, q0, hargs, rfl, rfl, h0, r0⟩ := trodAll_cons hA
  obtain ⟨v1, vs1, d1, ds1, p1, q1, rfl, rfl, rfl, h1, r1⟩ := trodAll_cons r0
  obtain ⟨rfl, rfl, rfl⟩ := trodAll_nil r1
  obtain rfl : args = #[v0, v1] := by cases args; simp_all
  obtain ⟨rfl, rfl⟩ := trodVars_none hV
  obtain ⟨a0, rfl, rfl, rfl, w0⟩ := open_string Tryd.underlying9 (hval 0 9 v0 rfl rfl) h0
  obtain ⟨a1, rfl, rfl, rfl, w1⟩ := open_int Tryd.underlying3 (hval 1 3 v1 rfl rfl) h1
  clear hA0 hval0
  simp only [List.append_nil] at hW'
  refine (walk a0 a1 w0 w1 W (Laid.cell hL)).mono fun e W' ⟨he, hg⟩ => ?_
  subst he
  exact ⟨_, rfl, Go.AI.post_under (pa := []) (pv := []) hW' (fun _ _ _ => (trodAll_cons_mk (shut_bool Tryd.underlying4 _) trodAll_mk0)) (fun sp _ => (trodAll_cons_mk (shut_string Tryd.underlying9 w0) (trodAll_cons_mk (shut_int Tryd.underlying3 w1) trodAll_mk0))) (fun _ _ => rfl) rfl
    hg (ok_one (by kernel_rfl) rfl (okWide_bool_mk Tryd.underlying4 _))⟩

theorem closed : joinedFacts Tryd.prog 6 Tryd.f6 Rows.fnExactMiddleFarSpec Rows.fnExactMiddleFarRow = true := by
  unfold joinedFacts; rw [Go.AI.head_make, Go.AI.head_enter, Go.AI.head_lifts]; kernel_rfl

theorem over : Rows.fnExactMiddleFarRow.holds Tryd.pinned (OpenSpec.ofChange Rows.fnExactMiddleFarSpec) :=
  OpenClaim.holds_of_wide_leaving 6 Tryd.f6 rfl rfl rfl rfl rfl rfl rfl ⟨rfl, rfl, rfl, rfl, rfl⟩ rfl rfl rfl rfl rfl (by kernel_rfl) Tryd.func6 closed
    (of_decide_eq_true (by kernel_rfl)) (by unfold Func.isWrapper; first | (rw [if_pos (by decide +kernel)]; kernel_rfl) | (rw [if_neg (by decide +kernel)]; exact ⟨rfl, rfl⟩))
    (fun os started H enc _ => Go.AI.leaving_of_handed (lifted os started H enc))

theorem proved : Rows.FnExactMiddleFarCardSaid :=
  ⟨Claim7.tied_new_at .later [.handle] true (Claim7.new_of_sixth over (true, "a2603b1afd7dbcd07f3ce7af3573d855a787fbba4128fbb83240b1868eb2a3b7") true rfl ⟨rfl, rfl⟩ (by kernel_rfl) rfl (fun f fn hf hfn => by
      obtain rfl : f = 6 := Option.some.inj ((show Tryd.prog.funcNamed Rows.fnExactMiddleFarRow.func = some 6 by kernel_rfl).symm.trans hf) |>.symm
      obtain rfl : fn = Tryd.f6 := (Option.some.inj (Tryd.func6.symm.trans hfn)).symm
      exact ⟨by kernel_rfl, fun j t ht => by
        have all : Tryd.f6.params.toList.all (fun t => !Tryd.prog.wantsStandIn t) = true := by kernel_rfl
        have := List.all_eq_true.1 all t (Array.mem_toList_iff.2 (Array.mem_of_getElem? ht))
        exact (by simpa using this : Tryd.prog.wantsStandIn t = false)⟩)) (by kernel_rfl), fun _ h => (by cases h), fnExactMiddleFar_row_tie, fun h => (by cases h), by kernel_rfl⟩
end Go.Proofs.YtlpbomcbkmbpgaaDoor.fnExactMiddleFar
