/- The functions that the law FnExactLevelsPlane reaches, as the evaluator reads them. -/
import Derived.Test.YtmknipepkjbgjaaAi2
import Derived.KernelRfl
import Derived.Test.YtmknipepkjbgjaaProg
namespace Go.AI.X
open Go Go.RowKit Go.AI
set_option linter.unusedVariables false
set_option linter.unusedSimpArgs false
set_option maxRecDepth 100000
noncomputable section
-- "loop.example/treenumbers/spec.l6In"
noncomputable def c_spec_l6In_j1 (F g : Nat) (vs : List AV) (h : H) : Option R := (fun x2 x3 => aPick x2 x3 (AV.bool false) h fun x4 h => some (x4, h)) (hd vs) (hd (tl vs))
noncomputable def c_spec_l6In (F g : Nat) (a0 a1 a2 : AV) (h : H) : Option R := aCmpI (fun a b => ile b a) a0 a1 h fun x1 h => guardB true x1 (aCmpI ile a0 a2 h fun x5 h => (c_spec_l6In_j1 F g) [x1, x5] h) ((c_spec_l6In_j1 F g) [x1, (AV.one .tup (AV.leaf .nil))] h)
noncomputable def A_spec_l6In : An := (.two .o (.two (.at_ [10, 13] .o .o) .o))
noncomputable def b_spec_l6In : Code := bodyOf Go.Proofs.Try.f67
theorem k_spec_l6In (F g : Nat) (a0 a1 a2 : AV) (h : H) : callD Go.Proofs.Try.prog (fun _ _ _ => none : Env) 15 F b_spec_l6In [6] A_spec_l6In [a0, a1, a2] h = c_spec_l6In F g a0 a1 a2 h := by kernel_rfl
theorem s_spec_l6In (F g : Nat) : ∀ args h r, u3 (c_spec_l6In F g) args h = some r → Tri Go.Proofs.Try.prog 67 args h r := by
  intro args h r e; obtain ⟨a0, a1, a2, rfl, e1⟩ := u3_some e; exact fn_sound Go.Proofs.Try.func67 rfl rfl rfl Go.Proofs.Try.ntmps67 (Sound.none _) ((k_spec_l6In F g a0 a1 a2 h).trans e1)

-- "loop.example/treenumbers/spec.LevelsPlane"
noncomputable def c_spec_LevelsPlane_l1 (F g : Nat) : List AV → H → (List AV → H → Option R) → Option R := fun vs h kc4 => (fun x5 x6 x7 => aCmpI ilt x7 x5 h fun x8 h => withBool x8 fun t9 => bc t9 (aArith imul (AV.int 3 (Int.ofNat 4)) x7 h fun x10 h => aArith isub x10 (AV.int 3 (Int.ofNat 2)) h fun x11 h => aArith imul x6 x11 h fun x12 h => aArith iadd x7 (AV.int 3 (Int.ofNat 1)) h fun x13 h => aQuo x12 x13 h fun x14 h => aArith iadd x7 (AV.int 3 (Int.ofNat 1)) h fun x15 h => kc4 [x5, x14, x15] h) (some (AV.one .tup (AV.cons x6 (AV.cons (AV.bool true) (AV.leaf .nil))), h))) (hd vs) (hd (tl vs)) (hd (tl (tl vs)))
noncomputable def c_spec_LevelsPlane (F g : Nat) (a0 : AV) (h : H) : Option R := bindR (c_spec_l6In F g a0 (AV.int 3 (Int.ofNat 1)) (AV.int 3 (Int.ofNat 12)) h) fun x1 h => aNot x1 h fun x2 h => withBool x2 fun t3 => bc t3 (some (AV.one .tup (AV.cons (AV.int 3 (Int.ofNat 0)) (AV.cons (AV.bool false) (AV.leaf .nil))), h)) (loopD F (c_spec_LevelsPlane_l1 F g) [a0, (AV.int 3 (Int.ofNat 1)), (AV.int 3 (Int.ofNat 1))] h)
noncomputable def A_spec_LevelsPlane : An := (.two .o (.two (.two .o (.two (.two .o .o) .o)) (.two .o (.two (.two .o (.two (.at_ [0, 4, 5] (.two (.two .o (.two .o .o)) (.two (.two .o .o) .o)) .o) .o)) (.two .o .o)))))
noncomputable def b_spec_LevelsPlane : Code := bodyOf Go.Proofs.Try.f50
theorem k_spec_LevelsPlane (F g : Nat) (a0 : AV) (h : H) : callD Go.Proofs.Try.prog (Env.add (fun _ _ _ => none : Env) 67 (u3 (c_spec_l6In F g))) 23 F b_spec_LevelsPlane [2, 3] A_spec_LevelsPlane [a0] h = c_spec_LevelsPlane F g a0 h := by kernel_rfl
theorem s_spec_LevelsPlane (F g : Nat) : ∀ args h r, u1 (c_spec_LevelsPlane F g) args h = some r → Tri Go.Proofs.Try.prog 50 args h r := by
  intro args h r e; obtain ⟨a0, rfl, e1⟩ := u1_some e; exact fn_sound Go.Proofs.Try.func50 rfl rfl rfl Go.Proofs.Try.ntmps50 (Sound.add (Sound.none _) (s_spec_l6In F g)) ((k_spec_LevelsPlane F g a0 h).trans e1)

-- "loop.example/treenumbers/impl.LevelsPlane"
noncomputable def c_impl_LevelsPlane_l1 (F g : Nat) (kc8 : List AV → H → Option R) : List AV → H → (List AV → H → Option R) → Option R := fun vs h kc14 => (fun x15 x16 x17 x18 x19 => aCmpI ilt x19 x17 h fun x20 h => withBool x20 fun t21 => bc t21 (aIdxAddr 1 x16 x19 h fun x22 _ => aLoad x22 h fun x23 _ => aArith isub x17 x19 h fun x24 _ => aIdxAddr 1 x16 x24 h fun x25 _ => aLoad x25 h fun x26 _ => aArith imul x23 x26 h fun x27 _ => aArith iadd x18 x27 h fun x28 _ => aArith iadd x19 (AV.int 3 (Int.ofNat 1)) h fun x29 h => kc14 [x15, x16, x17, x28, x29] h) (aBuildSlice 1 1 [(0, 1, x18)] h fun x30 h => aAppend 1 8 x16 x30 h fun x31 h => aArith iadd x17 (AV.int 3 (Int.ofNat 1)) h fun x32 h => kc8 [x15, x31, x32] h)) (hd vs) (hd (tl vs)) (hd (tl (tl vs))) (hd (tl (tl (tl vs)))) (hd (tl (tl (tl (tl vs)))))
noncomputable def c_impl_LevelsPlane_l2 (F g : Nat) : List AV → H → (List AV → H → Option R) → Option R := fun vs h kc8 => (fun x9 x10 x11 => aCmpI ile x11 x9 h fun x12 h => withBool x12 fun t13 => bc t13 (loopD F (c_impl_LevelsPlane_l1 F g kc8) [x9, x10, x11, (AV.int 3 (Int.ofNat 0)), (AV.int 3 (Int.ofNat 1))] h) (aIdxAddr 1 x10 x9 h fun x33 h => aLoad x33 h fun x34 h => some (AV.one .tup (AV.cons x34 (AV.cons (AV.bool true) (AV.leaf .nil))), h))) (hd vs) (hd (tl vs)) (hd (tl (tl vs)))
noncomputable def c_impl_LevelsPlane_j3 (F g : Nat) (vs : List AV) (h : H) : Option R := (fun x2 x3 x4 => aPick x3 (AV.bool true) x4 h fun x5 h => withBool x5 fun t6 => bc t6 (some (AV.one .tup (AV.cons (AV.int 3 (Int.ofNat 0)) (AV.cons (AV.bool false) (AV.leaf .nil))), h)) (aBuildSlice 2 1 [(0, 1, (AV.int 3 (Int.ofNat 0))), (1, 1, (AV.int 3 (Int.ofNat 1)))] h fun x7 h => loopD F (c_impl_LevelsPlane_l2 F g) [x2, x7, (AV.int 3 (Int.ofNat 2))] h)) (hd vs) (hd (tl vs)) (hd (tl (tl vs)))
noncomputable def c_impl_LevelsPlane (F g : Nat) (a0 : AV) (h : H) : Option R := aCmpI ilt a0 (AV.int 3 (Int.ofNat 1)) h fun x1 h => guardB false x1 (aCmpI (fun a b => ilt b a) a0 (AV.int 3 (Int.ofNat 12)) h fun x35 h => (c_impl_LevelsPlane_j3 F g) [a0, x1, x35] h) ((c_impl_LevelsPlane_j3 F g) [a0, x1, (AV.one .tup (AV.leaf .nil))] h)
noncomputable def A_impl_LevelsPlane : An := (.two .o (.two (.two (.at_ [0, 10, 12] .o .o) (.two (.two .o .o) .o)) (.two .o (.two (.two .o (.two (.at_ [0, 4, 5] (.two (.two .o (.two .o .o)) (.two (.two (.two .o (.two (.two .o (.two (.at_ [0, 4, 5, 6, 7] (.two (.two .o (.two .o .o)) (.two (.two .o .o) .o)) .o) .o)) .o)) .o) .o)) .o) .o)) (.two .o .o)))))
noncomputable def b_impl_LevelsPlane : Code := bodyOf Go.Proofs.Try.f51
theorem k_impl_LevelsPlane (F g : Nat) (a0 : AV) (h : H) : callD Go.Proofs.Try.prog (fun _ _ _ => none : Env) 46 F b_impl_LevelsPlane [2, 3] A_impl_LevelsPlane [a0] h = c_impl_LevelsPlane F g a0 h := by kernel_rfl
theorem s_impl_LevelsPlane (F g : Nat) : ∀ args h r, u1 (c_impl_LevelsPlane F g) args h = some r → Tri Go.Proofs.Try.prog 51 args h r := by
  intro args h r e; obtain ⟨a0, rfl, e1⟩ := u1_some e; exact fn_sound Go.Proofs.Try.func51 rfl rfl rfl Go.Proofs.Try.ntmps51 (Sound.none _) ((k_impl_LevelsPlane F g a0 h).trans e1)

-- "loop.example/treenumbers/laws.FnExactLevelsPlane"
noncomputable def c_laws_FnExactLevelsPlane_j1 (F g : Nat) (vs : List AV) (h : H) : Option R := (fun x8 x9 => aPick x8 (AV.bool true) x9 h fun x10 h => withBool x10 fun t11 => bc t11 (some ((AV.bool false), h)) (some ((AV.bool true), h))) (hd vs) (hd (tl vs))
noncomputable def c_laws_FnExactLevelsPlane (F g : Nat) (a0 : AV) (h : H) : Option R := bindR (c_spec_LevelsPlane F g a0 h) fun x1 h => aExtract x1 0 h fun x2 h => aExtract x1 1 h fun x3 h => bindR (c_impl_LevelsPlane F g a0 h) fun x4 h => aExtract x4 0 h fun x5 h => aExtract x4 1 h fun x6 h => aCmpI (fun a b => bnot (ieq a b)) x5 x2 h fun x7 h => guardB false x7 (aEq true 0 x6 x3 h fun x12 h => (c_laws_FnExactLevelsPlane_j1 F g) [x7, x12] h) ((c_laws_FnExactLevelsPlane_j1 F g) [x7, (AV.one .tup (AV.leaf .nil))] h)
noncomputable def A_laws_FnExactLevelsPlane : An := (.two .o (.two .o (.two .o (.two (.two (.at_ [20, 23] .o .o) (.two (.two .o .o) .o)) (.two .o .o)))))
noncomputable def b_laws_FnExactLevelsPlane : Code := bodyOf Go.Proofs.Try.f15
theorem k_laws_FnExactLevelsPlane (F g : Nat) (a0 : AV) (h : H) : callD Go.Proofs.Try.prog (Env.add (Env.add (fun _ _ _ => none : Env) 50 (u1 (c_spec_LevelsPlane F g))) 51 (u1 (c_impl_LevelsPlane F g))) 25 F b_laws_FnExactLevelsPlane [2] A_laws_FnExactLevelsPlane [a0] h = c_laws_FnExactLevelsPlane F g a0 h := by kernel_rfl
theorem s_laws_FnExactLevelsPlane (F g : Nat) : ∀ args h r, u1 (c_laws_FnExactLevelsPlane F g) args h = some r → Tri Go.Proofs.Try.prog 15 args h r := by
  intro args h r e; obtain ⟨a0, rfl, e1⟩ := u1_some e; exact fn_sound Go.Proofs.Try.func15 rfl rfl rfl Go.Proofs.Try.ntmps15 (Sound.add (Sound.add (Sound.none _) (s_spec_LevelsPlane F g)) (s_impl_LevelsPlane F g)) ((k_laws_FnExactLevelsPlane F g a0 h).trans e1)

end
end Go.AI.X
