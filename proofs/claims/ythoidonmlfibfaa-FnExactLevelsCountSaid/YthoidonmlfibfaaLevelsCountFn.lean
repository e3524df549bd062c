/- The functions that the law FnExactLevelsCount reaches, and that it is true of every number. -/
import Derived.Test.YthoidonmlfibfaaLcGiv
import Derived.Test.YthoidonmlfibfaaProg
import Derived.KernelRfl
namespace Go.AI.T
open Go Go.RowKit Go.AI
set_option linter.unusedVariables false
set_option linter.unusedSimpArgs false
set_option maxRecDepth 100000
noncomputable section
-- "loop.example/treenumbers/spec.l6In"
noncomputable def c_spec_l6In_j1 (F g : Nat) (vs : List AV) (h : H) : Option R := (fun x2 x3 => aPick x2 x3 (AV.bool false) h fun x4 h => some (x4, h)) (hd vs) (hd (tl vs))
noncomputable def c_spec_l6In (F g : Nat) (a0 a1 a2 : AV) (h : H) : Option R := aCmpI (fun a b => ile b a) a0 a1 h fun x1 h => guardB true x1 (aCmpI ile a0 a2 h fun x5 h => (c_spec_l6In_j1 F g) [x1, x5] h) ((c_spec_l6In_j1 F g) [x1, (AV.one .tup (AV.leaf .nil))] h)
noncomputable def A_spec_l6In : An := (.two .o (.two (.at_ [10, 13] .o .o) .o))
noncomputable def b_spec_l6In : Code := bodyOf Go.Proofs.Try.f49
theorem k_spec_l6In (F g : Nat) (a0 a1 a2 : AV) (h : H) : callD Go.Proofs.Try.prog (fun _ _ _ => none : Env) 15 F b_spec_l6In [6] A_spec_l6In [a0, a1, a2] h = c_spec_l6In F g a0 a1 a2 h := by kernel_rfl
theorem s_spec_l6In (F g : Nat) : ∀ args h r, u3 (c_spec_l6In F g) args h = some r → Tri Go.Proofs.Try.prog 49 args h r := by
  intro args h r e; obtain ⟨a0, a1, a2, rfl, e1⟩ := u3_some e; exact fn_sound Go.Proofs.Try.func49 rfl rfl rfl Go.Proofs.Try.ntmps49 (Sound.none _) ((k_spec_l6In F g a0 a1 a2 h).trans e1)

-- "loop.example/treenumbers/spec.LevelsCount"
noncomputable def c_spec_LevelsCount_j1 (F g : Nat) (kc19 : List AV → H → Option R) (vs : List AV) (h : H) : Option R := (fun x29 x30 x31 x32 x33 x34 x35 => aArith iadd x35 (AV.int 3 (Int.ofNat 1)) h fun x36 h => kc19 [x29, x30, x31, x32, x33, x34, x36] h) (hd vs) (hd (tl vs)) (hd (tl (tl vs))) (hd (tl (tl (tl vs)))) (hd (tl (tl (tl (tl vs))))) (hd (tl (tl (tl (tl (tl vs)))))) (hd (tl (tl (tl (tl (tl (tl vs)))))))
noncomputable def c_spec_LevelsCount_l2 (F g : Nat) (kc11 : List AV → H → Option R) : List AV → H → (List AV → H → Option R) → Option R := fun vs h kc19 => (fun x20 x21 x22 x23 x24 x25 x26 => aCmpI ile x26 x24 h fun x27 h => withBool x27 fun t28 => bc t28 (aRem x24 x26 h fun x37 h => aCmpI ieq x37 (AV.int 3 (Int.ofNat 0)) h fun x38 h => withBool x38 fun t39 => bc t39 (aIdxAddr 1 x21 x26 h fun x40 h => aLoad x40 h fun x41 h => aArith imul x26 x41 h fun x42 h => aArith iadd x25 x42 h fun x43 h => (c_spec_LevelsCount_j1 F g kc19) [x20, x21, x22, x23, x24, x43, x26] h) ((c_spec_LevelsCount_j1 F g kc19) [x20, x21, x22, x23, x24, x25, x26] h)) (aArith isub x22 x24 h fun x44 h => aArith iadd x44 (AV.int 3 (Int.ofNat 1)) h fun x45 h => aIdxAddr 1 x21 x45 h fun x46 h => aLoad x46 h fun x47 h => aArith imul x25 x47 h fun x48 h => aArith iadd x23 x48 h fun x49 h => aArith iadd x24 (AV.int 3 (Int.ofNat 1)) h fun x50 h => kc11 [x20, x21, x22, x49, x50] h)) (hd vs) (hd (tl vs)) (hd (tl (tl vs))) (hd (tl (tl (tl vs)))) (hd (tl (tl (tl (tl vs))))) (hd (tl (tl (tl (tl (tl vs)))))) (hd (tl (tl (tl (tl (tl (tl vs)))))))
noncomputable def c_spec_LevelsCount_l3 (F g : Nat) (kc5 : List AV → H → Option R) : List AV → H → (List AV → H → Option R) → Option R := fun vs h kc11 => (fun x12 x13 x14 x15 x16 => aCmpI ile x16 x14 h fun x17 h => withBool x17 fun t18 => bc t18 (loopD F (c_spec_LevelsCount_l2 F g kc11) [x12, x13, x14, x15, x16, (AV.int 3 (Int.ofNat 0)), (AV.int 3 (Int.ofNat 1))] h) (aQuo x15 x14 h fun x51 h => aBuildSlice 1 1 [(0, 1, x51)] h fun x52 h => aAppend 1 8 x13 x52 h fun x53 h => aArith iadd x14 (AV.int 3 (Int.ofNat 1)) h fun x54 h => kc5 [x12, x53, x54] h)) (hd vs) (hd (tl vs)) (hd (tl (tl vs))) (hd (tl (tl (tl vs)))) (hd (tl (tl (tl (tl vs)))))
noncomputable def c_spec_LevelsCount_l4 (F g : Nat) : List AV → H → (List AV → H → Option R) → Option R := fun vs h kc5 => (fun x6 x7 x8 => aCmpI ilt x8 x6 h fun x9 h => withBool x9 fun t10 => bc t10 (loopD F (c_spec_LevelsCount_l3 F g kc5) [x6, x7, x8, (AV.int 3 (Int.ofNat 0)), (AV.int 3 (Int.ofNat 1))] h) (aIdxAddr 1 x7 x6 h fun x55 h => aLoad x55 h fun x56 h => some (AV.one .tup (AV.cons x56 (AV.cons (AV.bool true) (AV.leaf .nil))), h))) (hd vs) (hd (tl vs)) (hd (tl (tl vs)))
noncomputable def c_spec_LevelsCount (F g : Nat) (a0 : AV) (h : H) : Option R := bindR (c_spec_l6In F g a0 (AV.int 3 (Int.ofNat 1)) (AV.int 3 (Int.ofNat 12)) h) fun x1 h => aNot x1 h fun x2 h => withBool x2 fun t3 => bc t3 (some (AV.one .tup (AV.cons (AV.int 3 (Int.ofNat 0)) (AV.cons (AV.bool false) (AV.leaf .nil))), h)) (aBuildSlice 2 1 [(0, 1, (AV.int 3 (Int.ofNat 0))), (1, 1, (AV.int 3 (Int.ofNat 1)))] h fun x4 h => loopD F (c_spec_LevelsCount_l4 F g) [a0, x4, (AV.int 3 (Int.ofNat 1))] h)
noncomputable def A_spec_LevelsCount : An := (.two .o (.two (.two .o (.two (.two .o .o) .o)) (.two .o (.two (.two .o (.two (.at_ [0, 4, 5] (.two (.two .o (.two .o .o)) (.two (.two (.two .o (.two (.two .o (.two (.at_ [0, 4, 5, 6, 7] (.two (.two .o (.two .o .o)) (.two (.two (.two .o (.two (.two .o (.two (.at_ [0, 4, 5, 6, 7, 8, 9] (.two (.two .o (.two .o .o)) (.at_ [0, 4, 5, 6, 7, 8, 9] (.two (.two .o (.two .o .o)) .o) .o)) .o) .o)) .o)) .o) .o)) .o) .o)) .o)) .o) .o)) .o) .o)) (.two .o .o)))))
noncomputable def b_spec_LevelsCount : Code := bodyOf Go.Proofs.Try.f38
theorem k_spec_LevelsCount (F g : Nat) (a0 : AV) (h : H) : callD Go.Proofs.Try.prog (Env.add (fun _ _ _ => none : Env) 49 (u3 (c_spec_l6In F g))) 62 F b_spec_LevelsCount [2, 3] A_spec_LevelsCount [a0] h = c_spec_LevelsCount F g a0 h := by kernel_rfl
theorem s_spec_LevelsCount (F g : Nat) : ∀ args h r, u1 (c_spec_LevelsCount F g) args h = some r → Tri Go.Proofs.Try.prog 38 args h r := by
  intro args h r e; obtain ⟨a0, rfl, e1⟩ := u1_some e; exact fn_sound Go.Proofs.Try.func38 rfl rfl rfl Go.Proofs.Try.ntmps38 (Sound.add (Sound.none _) (s_spec_l6In F g)) ((k_spec_LevelsCount F g a0 h).trans e1)

-- "loop.example/treenumbers/laws.FnExactLevelsCount"
noncomputable def c_laws_FnExactLevelsCount_j1 (F g : Nat) (vs : List AV) (h : H) : Option R := (fun x8 x9 => aPick x8 (AV.bool true) x9 h fun x10 h => withBool x10 fun t11 => bc t11 (some ((AV.bool false), h)) (some ((AV.bool true), h))) (hd vs) (hd (tl vs))
noncomputable def c_laws_FnExactLevelsCount (F g : Nat) (a0 : AV) (h : H) : Option R := bindR (c_spec_LevelsCount F g a0 h) fun x1 h => aExtract x1 0 h fun x2 h => aExtract x1 1 h fun x3 h => bindR (c_impl_LevelsCount F g a0 h) fun x4 h => aExtract x4 0 h fun x5 h => aExtract x4 1 h fun x6 h => aCmpI (fun a b => bnot (ieq a b)) x5 x2 h fun x7 h => guardB false x7 (aEq true 0 x6 x3 h fun x12 h => (c_laws_FnExactLevelsCount_j1 F g) [x7, x12] h) ((c_laws_FnExactLevelsCount_j1 F g) [x7, (AV.one .tup (AV.leaf .nil))] h)
noncomputable def A_laws_FnExactLevelsCount : An := (.two .o (.two .o (.two .o (.two (.two (.at_ [20, 23] .o .o) (.two (.two .o .o) .o)) (.two .o .o)))))
noncomputable def b_laws_FnExactLevelsCount : Code := bodyOf Go.Proofs.Try.f12
theorem k_laws_FnExactLevelsCount (F g : Nat) (a0 : AV) (h : H) : callD Go.Proofs.Try.prog (Env.add (Env.add (fun _ _ _ => none : Env) 38 (u1 (c_spec_LevelsCount F g))) 39 (u1 (c_impl_LevelsCount F g))) 25 F b_laws_FnExactLevelsCount [2] A_laws_FnExactLevelsCount [a0] h = c_laws_FnExactLevelsCount F g a0 h := by kernel_rfl
theorem s_laws_FnExactLevelsCount (F g : Nat) : ∀ args h r, u1 (c_laws_FnExactLevelsCount F g) args h = some r → Tri Go.Proofs.Try.prog 12 args h r := by
  intro args h r e; obtain ⟨a0, rfl, e1⟩ := u1_some e; exact fn_sound Go.Proofs.Try.func12 rfl rfl rfl Go.Proofs.Try.ntmps12 (Sound.add (Sound.add (Sound.none _) (s_spec_LevelsCount F g)) (s_impl_LevelsCount F g)) ((k_laws_FnExactLevelsCount F g a0 h).trans e1)

end
end Go.AI.T
namespace Go.AI.T
open Go Go.RowKit Go.AI
set_option linter.unusedVariables false
set_option linter.unusedSimpArgs false
set_option maxRecDepth 100000
noncomputable section
theorem num0 : tells (c_laws_FnExactLevelsCount 2097152 20 (.int 3 (.ofNat 0)) H0) = true := by kernel_rfl
theorem num1 : tells (c_laws_FnExactLevelsCount 2097152 20 (.int 3 (.ofNat 1)) H0) = true := by kernel_rfl
theorem num2 : tells (c_laws_FnExactLevelsCount 2097152 20 (.int 3 (.ofNat 2)) H0) = true := by kernel_rfl
theorem num3 : tells (c_laws_FnExactLevelsCount 2097152 20 (.int 3 (.ofNat 3)) H0) = true := by kernel_rfl
theorem num4 : tells (c_laws_FnExactLevelsCount 2097152 20 (.int 3 (.ofNat 4)) H0) = true := by kernel_rfl
theorem num5 : tells (c_laws_FnExactLevelsCount 2097152 20 (.int 3 (.ofNat 5)) H0) = true := by kernel_rfl
theorem num6 : tells (c_laws_FnExactLevelsCount 2097152 20 (.int 3 (.ofNat 6)) H0) = true := by kernel_rfl
theorem num7 : tells (c_laws_FnExactLevelsCount 2097152 20 (.int 3 (.ofNat 7)) H0) = true := by kernel_rfl
theorem num8 : tells (c_laws_FnExactLevelsCount 2097152 20 (.int 3 (.ofNat 8)) H0) = true := by kernel_rfl
theorem num9 : tells (c_laws_FnExactLevelsCount 2097152 20 (.int 3 (.ofNat 9)) H0) = true := by kernel_rfl
theorem num10 : tells (c_laws_FnExactLevelsCount 2097152 20 (.int 3 (.ofNat 10)) H0) = true := by kernel_rfl
theorem num11 : tells (c_laws_FnExactLevelsCount 2097152 20 (.int 3 (.ofNat 11)) H0) = true := by kernel_rfl
theorem num12 : tells (c_laws_FnExactLevelsCount 2097152 20 (.int 3 (.ofNat 12)) H0) = true := by kernel_rfl
theorem law_num {n : Int} : tells (c_laws_FnExactLevelsCount 2097152 20 (.int 3 n) H0) = true := by
  cases n with
  | negSucc m => kernel_rfl
  | ofNat m =>
    by_cases hn : 13 ≤ m
    · obtain ⟨k, rfl⟩ : ∃ k, m = k + 13 := ⟨m - 13, by omega⟩
      kernel_rfl
    · match m, hn with
      | 0, _ => exact num0
      | 1, _ => exact num1
      | 2, _ => exact num2
      | 3, _ => exact num3
      | 4, _ => exact num4
      | 5, _ => exact num5
      | 6, _ => exact num6
      | 7, _ => exact num7
      | 8, _ => exact num8
      | 9, _ => exact num9
      | 10, _ => exact num10
      | 11, _ => exact num11
      | 12, _ => exact num12
      | n + 13, h => exact absurd (by omega) h
end
end Go.AI.T
