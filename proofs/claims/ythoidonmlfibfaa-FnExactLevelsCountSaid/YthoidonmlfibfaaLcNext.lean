/- The step from one list of levels to the next, over a memory with that list alone. -/
import Derived.Test.YthoidonmlfibfaaVr
import Derived.Test.YthoidonmlfibfaaPr4
import Derived.Test.YthoidonmlfibfaaProg
import Derived.KernelRfl
namespace Go.AI.W
open Go Go.RowKit Go.AI
set_option linter.unusedVariables false
set_option linter.unusedSimpArgs false
set_option maxRecDepth 100000
noncomputable section
-- "slices.Clone[loop.example/treenumbers/impl.levels,int]"
noncomputable def c_slices_Clone_234c (F g : Nat) (a0 : AV) (h : H) : Option R := aEq false 2 a0 (AV.leaf .nils) h fun x1 h => withBool x1 fun t2 => bc t2 (some ((AV.leaf .nils), h)) (aBuildSlice 0 1 [] h fun x3 h => aAppend 1 8 x3 a0 h fun x4 h => some (x4, h))
noncomputable def A_slices_Clone_234c : An := (.two .o (.two (.two .o (.two (.two .o .o) .o)) (.two .o .o)))
noncomputable def b_slices_Clone_234c : Code := bodyOf Go.Proofs.Try.f97
theorem k_slices_Clone_234c (F g : Nat) (a0 : AV) (h : H) : callD Go.Proofs.Try.prog (fun _ _ _ => none : Env) 8 F b_slices_Clone_234c [2] A_slices_Clone_234c [a0] h = c_slices_Clone_234c F g a0 h := by kernel_rfl
theorem s_slices_Clone_234c (F g : Nat) : ∀ args h r, u1 (c_slices_Clone_234c F g) args h = some r → Tri Go.Proofs.Try.prog 97 args h r := by
  intro args h r e; obtain ⟨a0, rfl, e1⟩ := u1_some e; exact fn_sound Go.Proofs.Try.func97 rfl rfl rfl Go.Proofs.Try.ntmps97 (Sound.none _) ((k_slices_Clone_234c F g a0 h).trans e1)

-- "(loop.example/treenumbers/impl.levels).next"
noncomputable def c_impl_levels_next_l1 (F g : Nat) : List AV → H → (List AV → H → Option R) → Option R := fun vs h kc29 => (fun x30 x31 x32 x33 => aLenK 1 x32 h fun x34 h => aCmpI ilt x33 x34 h fun x35 h => withBool x35 fun t36 => bc t36 (aArith isub x33 x30 h fun x37 h => aArith iadd x37 x31 h fun x38 h => aIdxAddr 1 x32 x38 h fun x39 h => aLoad x39 h fun x40 h => aIdxAddr 1 x32 x33 h fun x41 h => aStore x41 x40 h fun x42 h => aArith iadd x33 (AV.int 3 (Int.ofNat 1)) h fun x43 h => kc29 [x30, x31, x32, x43] h) (some (AV.one .tup (AV.cons x32 (AV.cons (AV.bool true) (AV.leaf .nil))), h))) (hd vs) (hd (tl vs)) (hd (tl (tl vs))) (hd (tl (tl (tl vs))))
noncomputable def c_impl_levels_next_l2 (F g : Nat) : List AV → H → (List AV → H → Option R) → Option R := fun vs h kc17 => (fun x18 x19 x20 => aIdxAddr 1 x18 x20 h fun x21 _ => aLoad x21 h fun x22 _ => aIdxAddr 1 x18 x19 h fun x23 _ => aLoad x23 h fun x24 _ => aCmpI (fun a b => ile b a) x22 x24 h fun x25 _ => withBool x25 fun t26 => bc t26 (aArith isub x20 (AV.int 3 (Int.ofNat 1)) h fun x27 h => kc17 [x18, x19, x27] h) (bindR (c_slices_Clone_234c F g x18 h) fun x28 h => loopD F (c_impl_levels_next_l1 F g) [x19, x20, x28, x19] h)) (hd vs) (hd (tl vs)) (hd (tl (tl vs)))
noncomputable def c_impl_levels_next_j3 (F g : Nat) (kc3 : List AV → H → Option R) (vs : List AV) (h : H) : Option R := (fun x7 x8 x9 x10 => aPick x9 x10 (AV.bool false) h fun x11 h => withBool x11 fun t12 => bc t12 (aArith isub x8 (AV.int 3 (Int.ofNat 1)) h fun x13 h => kc3 [x7, x13] h) (aCmpI ilt x8 (AV.int 3 (Int.ofNat 1)) h fun x14 h => withBool x14 fun t15 => bc t15 (some (AV.one .tup (AV.cons (AV.leaf .nils) (AV.cons (AV.bool false) (AV.leaf .nil))), h)) (aArith isub x8 (AV.int 3 (Int.ofNat 1)) h fun x16 h => loopD F (c_impl_levels_next_l2 F g) [x7, x8, x16] h))) (hd vs) (hd (tl vs)) (hd (tl (tl vs))) (hd (tl (tl (tl vs))))
noncomputable def c_impl_levels_next_l4 (F g : Nat) : List AV → H → (List AV → H → Option R) → Option R := fun vs h kc3 => (fun x4 x5 => aCmpI (fun a b => ilt b a) x5 (AV.int 3 (Int.ofNat 0)) h fun x6 h => guardB true x6 (aIdxAddr 1 x4 x5 h fun x44 h => aLoad x44 h fun x45 h => aCmpI ieq x45 (AV.int 3 (Int.ofNat 1)) h fun x46 h => (c_impl_levels_next_j3 F g kc3) [x4, x5, x6, x46] h) ((c_impl_levels_next_j3 F g kc3) [x4, x5, x6, (AV.one .tup (AV.leaf .nil))] h)) (hd vs) (hd (tl vs))
noncomputable def c_impl_levels_next (F g : Nat) (a0 : AV) (h : H) : Option R := aLenK 1 a0 h fun x1 h => aArith isub x1 (AV.int 3 (Int.ofNat 1)) h fun x2 h => loopD F (c_impl_levels_next_l4 F g) [a0, x2] h
noncomputable def A_impl_levels_next : An := (.two .o (.two .o (.two (.two (.at_ [0, 4] (.two (.two (.at_ [0, 4, 13, 18] .o .o) (.two .o .o)) (.two .o .o)) .o) .o) (.two (.two .o (.two (.two .o .o) .o)) (.two .o (.two (.two (.at_ [0, 4, 5] (.two (.two .o (.two .o .o)) (.two .o .o)) .o) .o) (.two .o (.two (.two .o (.two (.at_ [4, 5, 6, 7] (.two (.two .o (.two .o .o)) (.two (.two .o .o) .o)) .o) .o)) (.two .o .o)))))))))
noncomputable def b_impl_levels_next : Code := bodyOf Go.Proofs.Try.f86
theorem k_impl_levels_next (F g : Nat) (a0 : AV) (h : H) : callD Go.Proofs.Try.prog (Env.add (fun _ _ _ => none : Env) 97 (u1 (c_slices_Clone_234c F g))) 58 F b_impl_levels_next [2, 3] A_impl_levels_next [a0] h = c_impl_levels_next F g a0 h := by kernel_rfl
theorem s_impl_levels_next (F g : Nat) : ∀ args h r, u1 (c_impl_levels_next F g) args h = some r → Tri Go.Proofs.Try.prog 86 args h r := by
  intro args h r e; obtain ⟨a0, rfl, e1⟩ := u1_some e; exact fn_sound Go.Proofs.Try.func86 rfl rfl rfl Go.Proofs.Try.ntmps86 (Sound.add (Sound.none _) (s_slices_Clone_234c F g)) ((k_impl_levels_next F g a0 h).trans e1)

end
end Go.AI.W
namespace Go.AI.T
open Go Go.RowKit Go.AI
set_option linter.unusedVariables false
set_option linter.unusedSimpArgs false
set_option maxRecDepth 100000
noncomputable section
def c_impl_levels_next (F g : Nat) (a0 : AV) (h : H) : Option R := viewC (Go.AI.W.c_impl_levels_next 100 20) a0 h
theorem s_impl_levels_next (F g : Nat) : ∀ args h r, u1 (c_impl_levels_next F g) args h = some r → Tri Go.Proofs.Try.prog id_impl_levels_next args h r := viewC_sound (Go.AI.W.s_impl_levels_next 100 20)
end
end Go.AI.T
namespace Go.AI.X
open Go Go.RowKit Go.AI
set_option linter.unusedVariables false
set_option linter.unusedSimpArgs false
set_option maxRecDepth 100000
noncomputable section
-- "loop.example/treenumbers/impl.firstLevels"
noncomputable def c_impl_firstLevels_l1 (F g : Nat) : List AV → H → (List AV → H → Option R) → Option R := fun vs h kc2 => (fun x3 x4 x5 => aCmpI ilt x5 x4 h fun x6 h => withBool x6 fun t7 => bc t7 (aBuildSlice 1 1 [(0, 1, x5)] h fun x8 h => aAppend 1 8 x3 x8 h fun x9 h => aArith iadd x5 (AV.int 3 (Int.ofNat 1)) h fun x10 h => kc2 [x9, x4, x10] h) (some (x3, h))) (hd vs) (hd (tl vs)) (hd (tl (tl vs)))
noncomputable def c_impl_firstLevels (F g : Nat) (a0 : AV) (h : H) : Option R := aBuildSlice 0 1 [] h fun x1 h => loopD F (c_impl_firstLevels_l1 F g) [x1, a0, (AV.int 3 (Int.ofNat 0))] h
noncomputable def A_impl_firstLevels : An := (.two .o (.two .o (.two (.two .o (.two (.at_ [3, 6, 7] (.two .o (.two (.two .o .o) (.two (.two (.two .o .o) .o) .o))) .o) .o)) (.two .o .o))))
noncomputable def b_impl_firstLevels : Code := bodyOf Go.Proofs.Try.f85
theorem k_impl_firstLevels (F g : Nat) (a0 : AV) (h : H) : callD Go.Proofs.Try.prog (fun _ _ _ => none : Env) 16 F b_impl_firstLevels [2] A_impl_firstLevels [a0] h = c_impl_firstLevels F g a0 h := by kernel_rfl
theorem s_impl_firstLevels (F g : Nat) : ∀ args h r, u1 (c_impl_firstLevels F g) args h = some r → Tri Go.Proofs.Try.prog 85 args h r := by
  intro args h r e; obtain ⟨a0, rfl, e1⟩ := u1_some e; exact fn_sound Go.Proofs.Try.func85 rfl rfl rfl Go.Proofs.Try.ntmps85 (Sound.none _) ((k_impl_firstLevels F g a0 h).trans e1)

-- "loop.example/treenumbers/impl.allLevels"
noncomputable def c_impl_allLevels_l1 (F g : Nat) : List AV → H → (List AV → H → Option R) → Option R := fun vs h kc3 => (fun x4 x5 x6 => withBool x6 fun t7 => bc t7 (aBuildSlice 1 1 [(0, 1, x5)] h fun x8 h => aAppend 1 24 x4 x8 h fun x9 h => bindR (Go.AI.T.c_impl_levels_next F g x5 h) fun x10 h => aExtract x10 0 h fun x11 h => aExtract x10 1 h fun x12 h => kc3 [x9, x11, x12] h) (some (x4, h))) (hd vs) (hd (tl vs)) (hd (tl (tl vs)))
noncomputable def c_impl_allLevels (F g : Nat) (a0 : AV) (h : H) : Option R := aBuildSlice 0 1 [] h fun x1 h => bindR (c_impl_firstLevels F g a0 h) fun x2 h => loopD F (c_impl_allLevels_l1 F g) [x1, x2, (AV.bool true)] h
noncomputable def A_impl_allLevels : An := (.two .o (.two .o (.two .o (.two (.two (.at_ [3, 4, 5] (.two (.two .o (.two .o .o)) (.two (.two .o .o) .o)) .o) .o) (.two .o .o)))))
noncomputable def b_impl_allLevels : Code := bodyOf Go.Proofs.Try.f67
theorem k_impl_allLevels (F g : Nat) (a0 : AV) (h : H) : callD Go.Proofs.Try.prog (Env.add (Env.add (fun _ _ _ => none : Env) 85 (u1 (c_impl_firstLevels F g))) 86 (u1 (Go.AI.T.c_impl_levels_next F g))) 20 F b_impl_allLevels [2] A_impl_allLevels [a0] h = c_impl_allLevels F g a0 h := by kernel_rfl
theorem s_impl_allLevels (F g : Nat) : ∀ args h r, u1 (c_impl_allLevels F g) args h = some r → Tri Go.Proofs.Try.prog 67 args h r := by
  intro args h r e; obtain ⟨a0, rfl, e1⟩ := u1_some e; exact fn_sound Go.Proofs.Try.func67 rfl rfl rfl Go.Proofs.Try.ntmps67 (Sound.add (Sound.add (Sound.none _) (s_impl_firstLevels F g)) (Go.AI.T.s_impl_levels_next F g)) ((k_impl_allLevels F g a0 h).trans e1)

-- "loop.example/treenumbers/impl.LevelsCount"
noncomputable def c_impl_LevelsCount_j1 (F g : Nat) (vs : List AV) (h : H) : Option R := (fun x2 x3 x4 => aPick x3 (AV.bool true) x4 h fun x5 h => withBool x5 fun t6 => bc t6 (some (AV.one .tup (AV.cons (AV.int 3 (Int.ofNat 0)) (AV.cons (AV.bool false) (AV.leaf .nil))), h)) (bindR (c_impl_allLevels F g x2 h) fun x7 h => aLenK 1 x7 h fun x8 h => some (AV.one .tup (AV.cons x8 (AV.cons (AV.bool true) (AV.leaf .nil))), h))) (hd vs) (hd (tl vs)) (hd (tl (tl vs)))
noncomputable def c_impl_LevelsCount (F g : Nat) (a0 : AV) (h : H) : Option R := aCmpI ilt a0 (AV.int 3 (Int.ofNat 1)) h fun x1 h => guardB false x1 (aCmpI (fun a b => ilt b a) a0 (AV.int 3 (Int.ofNat 12)) h fun x9 h => (c_impl_LevelsCount_j1 F g) [a0, x1, x9] h) ((c_impl_LevelsCount_j1 F g) [a0, x1, (AV.one .tup (AV.leaf .nil))] h)
noncomputable def A_impl_LevelsCount : An := (.two .o (.two (.two (.at_ [0, 6, 8] .o .o) (.two (.two .o .o) .o)) (.two .o .o)))
noncomputable def b_impl_LevelsCount : Code := bodyOf Go.Proofs.Try.f39
theorem k_impl_LevelsCount (F g : Nat) (a0 : AV) (h : H) : callD Go.Proofs.Try.prog (Env.add (fun _ _ _ => none : Env) 67 (u1 (c_impl_allLevels F g))) 13 F b_impl_LevelsCount [2, 3] A_impl_LevelsCount [a0] h = c_impl_LevelsCount F g a0 h := by kernel_rfl
theorem s_impl_LevelsCount (F g : Nat) : ∀ args h r, u1 (c_impl_LevelsCount F g) args h = some r → Tri Go.Proofs.Try.prog 39 args h r := by
  intro args h r e; obtain ⟨a0, rfl, e1⟩ := u1_some e; exact fn_sound Go.Proofs.Try.func39 rfl rfl rfl Go.Proofs.Try.ntmps39 (Sound.add (Sound.none _) (s_impl_allLevels F g)) ((k_impl_LevelsCount F g a0 h).trans e1)

end
end Go.AI.X
