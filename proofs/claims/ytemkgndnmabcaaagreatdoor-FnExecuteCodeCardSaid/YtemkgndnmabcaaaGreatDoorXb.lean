/- A script's line that is not malformed: the deferred function finds nothing to recover. -/
import Derived.Test.YtemkgndnmabcaaaGreatDoorXa
import Derived.Tactics2
import Derived.Defers
import Derived.Recover
import Derived.Below
import Derived.Laws.Pointers
import Derived.WalkKit
import Derived.KernelRfl
set_option linter.unusedVariables false
set_option linter.unusedSimpArgs false
set_option maxRecDepth 100000
namespace Go.AI.T
open Go Go.RowKit Go.AI Go.Proofs
theorem run_ta (w : World) : (Instr.typeAssert .nilIface 20 58 true).run Tryz.prog w = .ok (.tuple #[.agg #[.string ByteArray.empty], .bool false]) w := by kernel_rfl
theorem catch_idle (p : Value) (w : World) :
    CallsD Tryz.prog 29 #[p] .returning w fun e u' w' => e = .returned (.tuple #[]) ∧ u' = .returning ∧ Below w.heap.size w w' := by
  refine callsD_of_wpS Tryz.func29 rfl fun c₀ cs hu => ?_
  apply wpS_seq
  apply wpS_region
  simp [wpOpsS, go_sem, recoverD, hu, Tryz.ntmps29, Exit.thenS, run_ta, Result.andThen]
  apply wpS_seq
  apply wpS_region
  simp [wpOpsS, go_sem, Exit.thenS]
  refine wpS_cond (t := false) (by simp [Act.eval, Array.replicate]) ?_
  simp only [Bool.false_eq_true, if_false]
  refine wpS_of_wp (wp_skip ?_)
  have hb : Below w.heap.size w (w.alloc (Obj.cells #[Value.string ByteArray.empty] 58)) := (Below.refl _ _).alloc (Nat.le_refl _) _
  cases c₀
  simp_all [bodyPostS, results, Tryz.results29]
noncomputable section
noncomputable def cL : Code → Code | .seq a _ => a | c => c
noncomputable def cR : Code → Code | .seq _ b => b | c => c
noncomputable def b_ans : Code := bodyOf Go.Proofs.Tryz.f18
noncomputable def r0 : Code := cL b_ans
noncomputable def r2 : Code := cL (cR (cR b_ans))
noncomputable def E0 (F g : Nat) : Env := (Env.add (Env.add (Env.add (fun _ _ _ => none : Env) 86 (u2 (c_impl_workbench_tree F g))) 65 (u1 (c_impl_workbench_number F g))) 53 (u1 (c_impl_workbench_sorted F g)))
theorem sE0 (F g : Nat) : Sound Go.Proofs.Tryz.prog (E0 F g) := (Sound.add (Sound.add (Sound.add (Sound.none _) (s_impl_workbench_tree F g)) (s_impl_workbench_number F g)) (s_impl_workbench_sorted F g))
noncomputable def EA (F g : Nat) : Env := Env.add (fun _ _ _ => none : Env) 30 (u2 (c_impl_workbench_carryOut F g (E0 F g)))
theorem sEA (F g : Nat) : Sound Go.Proofs.Tryz.prog (EA F g) := Sound.add (Sound.none _) (s_impl_workbench_carryOut F g (E0 F g) (sE0 F g))
noncomputable def finA (st : St) (h : H) : Option R := aLoad (get st 4) h fun x h => some (x, h)
noncomputable def noK : St → H → Option R := fun _ _ => none
noncomputable def dAns (F g : Nat) (args : List AV) (h : H) : Option R := den Go.Proofs.Tryz.prog (EA F g) 9 F r0 .o (mkInit 0 args) h
  (fun st h => putO 9 (some 5) (.func (.func 29) (AV.ofL []) (AV.ofL [get st 4])) st fun st => den Go.Proofs.Tryz.prog (EA F g) 9 F r2 .o st h finA (fun _ => noK) noK) (fun _ => noK) noK
noncomputable def c_impl_workbench_answer (F g : Nat) (a0 a1 : AV) (h : H) : Option R := aAlloc [AV.str [] 0] h fun x4 h => bindR (c_impl_workbench_carryOut F g (E0 F g) a0 a1 h) fun x8 h => aStore x4 x8 h fun _ h => aLoad x4 h fun x h => some (x, h)
theorem k_ans (F g : Nat) (a0 a1 : AV) (h : H) : dAns F g [a0, a1] h = c_impl_workbench_answer F g a0 a1 h := by kernel_rfl
noncomputable def ops1 : Array Oper := #[{ dst := some 5, op := .makeFunc (.func 29) #[] #[.tmp 4], type := 1, pos := "l9_command.go:206", after := #[], guard := none }, { dst := none, op := .defer ⟨.value (.tmp 5), #[], #[]⟩, type := 0, pos := "l9_command.go:206", after := #[{ on := 0, ground := .data }], guard := none }]
theorem r1_eq : cL (cR b_ans) = Code.region 1 ops1 false := by kernel_rfl
theorem body_ans : Go.Proofs.Tryz.f18.body = some (.seq r0 (.seq (cL (cR b_ans)) (.seq r2 .ret))) := by kernel_rfl
theorem s_impl_workbench_answer (F g : Nat) : ∀ args h r, u2 (c_impl_workbench_answer F g) args h = some r → Tri Go.Proofs.Tryz.prog 18 args h r := by
  intro args h r e
  obtain ⟨a0, a1, rfl, e1⟩ := u2_some e
  have e2 : dAns F g [a0, a1] h = some r := (k_ans F g a0 a1 h).trans e1
  refine ⟨⟨_, Go.Proofs.Tryz.func18, by kernel_rfl, by kernel_rfl⟩, fun ι w vs hR hV => ?_⟩
  have hlen : vs.length = 2 := by have := hV.length; simp at this; omega
  refine calls_of_wp_defers Go.Proofs.Tryz.func18 body_ans ?_
  have hnt : Go.Proofs.Tryz.f18.ntmps = 9 := Go.Proofs.Tryz.ntmps18
  have hS : StR ι 9 (mkInit 0 [a0, a1]) { tmps := vs.toArray ++ Array.replicate (Go.Proofs.Tryz.f18.ntmps - vs.toArray.size) undef, defers := [] } := by
    refine ⟨by simp [hnt]; omega, mkInit_rel 0 hV fun j v hj => ?_⟩
    have hlt := (List.getElem?_eq_some_iff.1 hj).1
    rw [Array.getD_eq_getD_getElem?, Nat.zero_add, Array.getElem?_append_left (by simpa using hlt)]
    simp [hj]
  refine wp_seq (wp_mono (den_sound (sEA F g) r0 _ _ _ _ _ _ _ e2 ι _ w hR hS) fun ex a1 w1 hp => ?_)
  obtain ⟨ι1, st1, h1, hE1, hR1, hS1, hd1, hk⟩ := hp
  cases ex with
  | normal =>
    obtain ⟨st2, hk2, hput⟩ := putO_some hk
    have hd1 : a1.defers = [] := hd1
    have h5 : 5 < a1.tmps.size := by have := hS1.size; omega
    have key : (Code.seq r2 .ret).wp Tryz.prog (bodyPostD Tryz.prog Tryz.f18 (fun e w' => ∃ v ι', e = .returned v ∧ VR ι' r.1 v ∧ Ext ι h w ι' r.2 w' ∧ Rel ι' r.2 w')) { tmps := a1.tmps.setIfInBounds 5 (.func (.func 29) #[] #[a1.tmps[4]?.getD undef]), defers := [{ target := .fn (.func 29) #[a1.tmps[4]?.getD undef], args := #[] }] } w1 := by
      have hS2 := hput (v := .func (.func 29) #[] #[a1.tmps[4]?.getD undef]) hS1 ⟨#[], #[a1.tmps[4]?.getD undef], rfl, by rw [AV.ofL_eq]; exact VX.of_list .nil, by
        rw [AV.ofL_eq]
        have := hS1.at_ 4
        rw [Array.getD_eq_getD_getElem?] at this
        exact VX.of_list (.cons this .nil)⟩
      have hS2 : StR ι1 9 st2 { tmps := a1.tmps.setIfInBounds 5 (.func (.func 29) #[] #[a1.tmps[4]?.getD undef]), defers := [{ target := .fn (.func 29) #[a1.tmps[4]?.getD undef], args := #[] }] } := ⟨hS2.size, hS2.at_⟩
      refine wp_seq (wp_mono (den_sound (sEA F g) r2 _ _ _ _ _ _ _ hk2 ι1 _ w1 hR1 hS2) fun ex a3 w3 hp => ?_)
      obtain ⟨ι3, st3, h3, hE3, hR3, hS3, hd3, hk3⟩ := hp
      cases ex with
      | normal =>
        refine wp_ret ?_
        have hd3 : a3.defers = [{ target := .fn (.func 29) #[a1.tmps[4]?.getD undef], args := #[] }] := hd3
        have hk3 : finA st3 h3 = some r := hk3
        unfold finA at hk3
        obtain ⟨b, q, hb, e3⟩ := withPtr_some hk3
        obtain ⟨fl, l, hl, e4⟩ := withCells_some e3
        obtain ⟨y, hy, e5⟩ := onSome_some e4
        rw [nthO_eq] at hy
        cases e5
        have hv := hS3.at_ 4
        rw [hb] at hv
        obtain ⟨B, base, sz, ib, ex⟩ := hv.ptr
        obtain ⟨c, ty, lo, hi, hh, _, hc, _⟩ := hR3.cells hl ib
        obtain ⟨v, hv1, hv2⟩ := hc q y hy
        show Leaves _ _ _ _ a3.defers _ _
        rw [hd3]
        refine leaves_cons (f := 29) (args := #[a1.tmps[4]?.getD undef]) (by simp) (by simp [go_sem]) ?_
        refine (catch_idle _ _).mono ?_
        rintro e u' w4 ⟨rfl, rfl, hbw⟩
        rw [Array.getD_eq_getD_getElem?] at ex
        have hcell : w4.cell? ⟨B, base + q, none⟩ = some v := by rw [cell_row ((hbw.block _ (hR3.lt _ _ _ _ ib)).trans hh)]; exact hv1
        refine ⟨v, ?_, v, ι3, rfl, hv2, (hE1.trans hE3).trans (Ext.grow hR3 hbw), hR3.grow hbw⟩
        simp [results, Tryz.results18, ex, asAddr, loadVar, run_isAggT (show isAggT Tryz.prog 9 = some false by kernel_rfl), hcell, go_sem]
      | _ => exact absurd hk3 (by simp [noK])
    show (Code.seq (cL (cR b_ans)) (.seq r2 .ret)).wp _ _ a1 w1
    rw [r1_eq]
    refine wp_seq (wp_region ?_)
    revert key
    generalize bodyPostD _ _ _ = Q
    intro key
    have hmf : ∀ (fn : Fn) (first cap : Array Value) (w : World), (Instr.makeFunc fn first cap).run Tryz.prog w = .ok (.func fn first cap) w := fun _ _ _ _ => rfl
    simp [wpOps, ops1, go_sem, hmf, Exit.then, h5, hd1, Result.andThen]
    exact .inl (.inl key)
  | _ => exact absurd hk (by simp [noK])
end
end Go.AI.T
