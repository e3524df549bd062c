/- For every code the law FnExecuteSame returns true, on every schedule, and leaves the code as it was; no condition. -/
import Derived.Test.YtelijoecjhgleaaGreatDoorRows
import Derived.Test.YtelijoecjhgleaaGreatDoorCards
import Derived.Test.YtelijoecjhgleaaGreatDoorTie
import Derived.Test.YtelijoecjhgleaaGreatDoorLw
import Derived.SevenTiedAt
import Derived.LaidMore
import Derived.Lay
import Derived.HandedShaped
import Derived.Test.YtelijoecjhgleaaGreatDoorHead
import Derived.Test.YtelijoecjhgleaaGreatDoorFnExecuteSameLaw
import Derived.WalkKit
import Derived.Conc.LeavingOf
import Derived.ProofKit
import Derived.Conc.Holds
import Derived.SizedLaws
import Derived.Test.YtelijoecjhgleaaGreatDoorAi2
import Derived.OpenShut
import Derived.ShutString
import Derived.ChangeOld
import Derived.Below
set_option linter.unusedVariables false
set_option linter.unusedSimpArgs false
set_option maxRecDepth 100000
namespace Go.Proofs.YtelijoecjhgleaaGreatDoor.fnExecuteSame
open Go.ChangeShapes Go.WideShapes Go.ChangeAt Go.RowKit
open Go.ChangeMaps (open_string shut_string)
theorem own : ownKnob Tryz.prog.godebug = none := by kernel_rfl
theorem laidOut : laidOutB Tryz.prog = true := by kernel_rfl
def IsRow (k : IntKind) (w : World) (a : Option Addr) (len cap : Nat) (zs : List Int) : Prop :=
  (a = none /\ len = 0 /\ cap = 0 /\ zs = []) \/
  ∃ x, a = some x /\ len <= cap /\ cap <= maxLen /\ zs.length = cap /\ (∀ i, i < zs.length -> w.cell? (x.add i) = some (.int k (zs.getD i 0))) /\ ∀ n ∈ zs, (Lit.int k n).wf = true
theorem walk (a0 : Option Addr) (len0 cap0 : Nat) (z0 : List Int) (W : World) (w0 : IsRow .u8 W a0 len0 cap0 z0) (hg : Go.AI.TabW W.heap[1]?) : Go.Co.Walk Tryz.prog Go.Co.Cnt.tW (fun v w' => v = .bool true /\ Below W.heap.size W w') true (Go.Co.lgLaw W) (Go.Conc.G (Frame.enter Tryz.prog 3 #[.slice a0 len0 cap0] .normal) []) W := by
  obtain ⟨ι, a, h', B, hR, hB, hv, e⟩ := Go.AI.zaq9 Go.AI.T.law_FnExecuteSame hg w0
  exact Go.AI.T.root_laws_FnExecuteSame 2097152 20 e hR (Go.Co.zauv hR (Go.AI.zaut hB)) (.cons hv .nil)
set_option maxRecDepth 100000 in
theorem lifted (os : Os) (started : os.Started) (H : Type) (enc : TypeId × Value -> H) :
    ReturnsInLeavingWide {} Tryz.checked os 3 .any (fun w args => (Rows.fnExecuteSameSpec.pre enc Tryz.prog Tryz.f3 [] false w args /\ laidMetH Tryz.prog Rows.fnExecuteSameRow.laid w) /\ sizedMet enc Tryz.prog Tryz.f3 (OpenSpec.ofChange Rows.fnExecuteSameSpec) false w args) (Rows.fnExecuteSameSpec.post enc Tryz.prog Tryz.f3 false true false false) := by
  refine leavingWide_andX (C := Tryz.checked) (X := fun w _ => laidMetH Tryz.prog Rows.fnExecuteSameRow.laid w) (fun _ _ _ hh h => h.of_heap hh.symm) own started Tryz.func3
    (ChangeSpec.witness_shaped (enc := enc) (C := Tryz.checked) (os := os) (X := fun w _ => laidMetH Tryz.prog Rows.fnExecuteSameRow.laid w) false (Laid.world os) #[.slice none 0 0] 8 (Laid.world_os _)
      (World.shaped_of_ZipB (by kernel_rfl) (by kernel_rfl)) (by kernel_rfl) (by kernel_rfl) (by kernel_rfl)
      (Laid.world_met os _)) ?_
  intro W base args ds gs before hval0 hW hcnd _ hL _
  have hval : ∀ (j : Nat) t v, Tryz.f3.params[j]? = some t -> args[j]? = some v -> Value.okWide Tryz.prog W .any base t v := hval0
  have hW' := hW
  obtain ⟨p, q, hA0, hV, rfl, hfz, hnd⟩ := hW
  have hA : DataW.TrodAll enc Tryz.prog W 0 (fun _ => true) true Tryz.f3.params.toList args.toList ds p := hA0
  rw [Tryz.params3] at hA hval
  obtain ⟨v0, vs0, d0, ds0, p0, q0, hargs, rfl, rfl, h0, r0⟩ := trodAll_cons hA
  obtain ⟨rfl, rfl, rfl⟩ := trodAll_nil r0
  obtain rfl : args = #[v0] := by cases args; simp_all
  obtain ⟨rfl, rfl⟩ := trodVars_none hV
  obtain ⟨a0, len0, cap0, rfl⟩ := okWide_slice Tryz.underlying22 (hval 0 22 v0 rfl rfl)
  have k0 := h0
  have lt0 : ∀ x ∈ p0, x.block < W.heap.size := by obtain ⟨m, hm⟩ := k0; exact DataW.trod_lt m _ _ _ hm
  obtain ⟨z0, w0⟩ : ∃ zs, IsRow .u8 W a0 len0 cap0 zs := by
    obtain ⟨fuel, hf⟩ := h0
    rcases open_ints Tryz.underlying22 Tryz.underlying5 (by kernel_rfl) hf with ⟨hcs, _⟩ | ⟨x, l, c, zs, hcs, _, hl, hm, hz, _, hcell, hwz⟩
    · simp [Value.cells] at hcs
      obtain ⟨rfl, rfl, rfl⟩ := hcs
      exact ⟨[], .inl ⟨rfl, rfl, rfl, rfl⟩⟩
    · simp [Value.cells] at hcs
      obtain ⟨rfl, rfl, rfl⟩ := hcs
      exact ⟨zs, .inr ⟨_, rfl, hl, hm, by simpa using hz, hcell, hwz⟩⟩
  clear hA0 hval0
  obtain ⟨N, last, o, w', t', h1, h2, h3, h4⟩ := Go.Co.zaur (walk a0 len0 cap0 z0 W w0 (Laid.tab hL)) (fun b h => h.elim) (fun b h => h.elim (fun h => h.elim) id)
  refine ⟨N, last, o, w', t', h1, h2, h3, h4.mono fun v ⟨he, bel⟩ => ?_⟩
  subst he
  exact ⟨_, _, _, [], _, [], hW', trodAll_mk1 (shut_bool Tryz.underlying4 _), (trodAll_cons_mk (Below.trod laidOut (by kernel_rfl) (of_decide_eq_true (by kernel_rfl)) k0 bel lt0) trodAll_mk0), rfl, bel.frame _, fun h => by cases h⟩
theorem closed : joinedFacts Tryz.prog 3 Tryz.f3 Rows.fnExecuteSameSpec Rows.fnExecuteSameRow = true := by
  unfold joinedFacts; rw [Go.AI.head_make, Go.AI.head_enter, Go.AI.head_lifts]; kernel_rfl
theorem over : Rows.fnExecuteSameRow.holds Tryz.pinned (OpenSpec.ofChange Rows.fnExecuteSameSpec) :=
  OpenClaim.holds_of_wide_leaving 3 Tryz.f3 rfl rfl rfl rfl rfl rfl rfl ⟨rfl, rfl, rfl, rfl, rfl⟩ rfl rfl rfl rfl rfl (by kernel_rfl) Tryz.func3 closed
    (of_decide_eq_true (by kernel_rfl)) (by unfold Func.isWrapper; first | (rw [if_pos (by decide +kernel)]; kernel_rfl) | (rw [if_neg (by decide +kernel)]; exact ⟨rfl, rfl⟩))
    (fun os started H enc _ => lifted os started H enc)
theorem proved : Rows.FnExecuteSameCardSaid :=
  ⟨Claim7.tied_new_at .later [.data, .data, .data, .data, .handle, .pinned] true (Claim7.new_of_sixth over (true, "4e5f2f04cac6ac4a547351db0da0bae7d53134bf25b3435107163517f01a5aa5") true rfl ⟨rfl, rfl⟩ (by kernel_rfl) rfl (fun f fn hf hfn => by
      obtain rfl : f = 3 := Option.some.inj ((show Tryz.prog.funcNamed Rows.fnExecuteSameRow.func = some 3 by kernel_rfl).symm.trans hf) |>.symm
      obtain rfl : fn = Tryz.f3 := (Option.some.inj (Tryz.func3.symm.trans hfn)).symm
      exact ⟨by kernel_rfl, fun j t ht => by
        have all : Tryz.f3.params.toList.all (fun t => !Tryz.prog.wantsStandIn t) = true := by kernel_rfl
        have := List.all_eq_true.1 all t (Array.mem_toList_iff.2 (Array.mem_of_getElem? ht))
        exact (by simpa using this : Tryz.prog.wantsStandIn t = false)⟩)) (by kernel_rfl), fun _ h => (by cases h), fnExecuteSame_row_tie, fun h => (by cases h), by kernel_rfl⟩
end Go.Proofs.YtelijoecjhgleaaGreatDoor.fnExecuteSame
