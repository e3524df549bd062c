/- Functions on levels as given functions. -/
import Derived.Test.YthoidonmlfibfabGiv
import Derived.Test.YthoidonmlfibfabLGiv
import Derived.Test.YthoidonmlfibfabRow2
import Derived.Test.YthoidonmlfibfabProg
import Derived.KernelRfl
namespace Go.AI.V
open Go Go.RowKit Go.AI
set_option linter.unusedVariables false
set_option linter.unusedSimpArgs false
set_option maxRecDepth 100000
noncomputable section
-- "loop.example/treenumbers/impl.firstLevels"
noncomputable def c_impl_firstLevels_l1 (F g : Nat) : List AV → H → (List AV → H → Option R) → Option R := fun vs h kc2 => (fun x3 x4 x5 => aCmpI ilt x5 x4 h fun x6 h => withBool x6 fun t7 => bc t7 (aBuildSlice 1 1 [(0, 1, x5)] h fun x8 h => aAppend 1 8 x3 x8 h fun x9 h => aArith iadd x5 (AV.int 3 (Int.ofNat 1)) h fun x10 h => kc2 [x9, x4, x10] h) (some (x3, h))) (hd vs) (hd (tl vs)) (hd (tl (tl vs)))
noncomputable def c_impl_firstLevels (F g : Nat) (a0 : AV) (h : H) : Option R := aBuildSlice 0 1 [] h fun x1 h => loopD F (c_impl_firstLevels_l1 F g) [x1, a0, (AV.int 3 (Int.ofNat 0))] h
noncomputable def A_impl_firstLevels : An := (.two .o (.two .o (.two (.two .o (.two (.at_ [3, 6, 7] (.two .o (.two (.two .o .o) (.two (.two (.two .o .o) .o) .o))) .o) .o)) (.two .o .o))))
noncomputable def b_impl_firstLevels : Code := bodyOf Go.Proofs.Try.f82
theorem k_impl_firstLevels (F g : Nat) (a0 : AV) (h : H) : callD Go.Proofs.Try.prog (fun _ _ _ => none : Env) 16 F b_impl_firstLevels [2] A_impl_firstLevels [a0] h = c_impl_firstLevels F g a0 h := by kernel_rfl
theorem s_impl_firstLevels (F g : Nat) : ∀ args h r, u1 (c_impl_firstLevels F g) args h = some r → Tri Go.Proofs.Try.prog 82 args h r := by
  intro args h r e; obtain ⟨a0, rfl, e1⟩ := u1_some e; exact fn_sound Go.Proofs.Try.func82 rfl rfl rfl Go.Proofs.Try.ntmps82 (Sound.none _) ((k_impl_firstLevels F g a0 h).trans e1)

-- "slices.Clone[loop.example/treenumbers/impl.levels,int]"
noncomputable def c_slices_Clone_234c (F g : Nat) (a0 : AV) (h : H) : Option R := aEq false 2 a0 (AV.leaf .nils) h fun x1 h => withBool x1 fun t2 => bc t2 (some ((AV.leaf .nils), h)) (aBuildSlice 0 1 [] h fun x3 h => aAppend 1 8 x3 a0 h fun x4 h => some (x4, h))
noncomputable def A_slices_Clone_234c : An := (.two .o (.two (.two .o (.two (.two .o .o) .o)) (.two .o .o)))
noncomputable def b_slices_Clone_234c : Code := bodyOf Go.Proofs.Try.f89
theorem k_slices_Clone_234c (F g : Nat) (a0 : AV) (h : H) : callD Go.Proofs.Try.prog (fun _ _ _ => none : Env) 8 F b_slices_Clone_234c [2] A_slices_Clone_234c [a0] h = c_slices_Clone_234c F g a0 h := by kernel_rfl
theorem s_slices_Clone_234c (F g : Nat) : ∀ args h r, u1 (c_slices_Clone_234c F g) args h = some r → Tri Go.Proofs.Try.prog 89 args h r := by
  intro args h r e; obtain ⟨a0, rfl, e1⟩ := u1_some e; exact fn_sound Go.Proofs.Try.func89 rfl rfl rfl Go.Proofs.Try.ntmps89 (Sound.none _) ((k_slices_Clone_234c F g a0 h).trans e1)

-- "(loop.example/treenumbers/impl.levels).next"
noncomputable def c_impl_levels_next_l1 (F g : Nat) : List AV → H → (List AV → H → Option R) → Option R := fun vs h kc29 => (fun x30 x31 x32 x33 => aLenK 1 x32 h fun x34 h => aCmpI ilt x33 x34 h fun x35 h => withBool x35 fun t36 => bc t36 (aArith isub x33 x30 h fun x37 h => aArith iadd x37 x31 h fun x38 h => aIdxAddr 1 x32 x38 h fun x39 h => aLoad x39 h fun x40 h => aIdxAddr 1 x32 x33 h fun x41 h => aStore x41 x40 h fun x42 h => aArith iadd x33 (AV.int 3 (Int.ofNat 1)) h fun x43 h => kc29 [x30, x31, x32, x43] h) (some (AV.one .tup (AV.cons x32 (AV.cons (AV.bool true) (AV.leaf .nil))), h))) (hd vs) (hd (tl vs)) (hd (tl (tl vs))) (hd (tl (tl (tl vs))))
noncomputable def c_impl_levels_next_l2 (F g : Nat) : List AV → H → (List AV → H → Option R) → Option R := fun vs h kc17 => (fun x18 x19 x20 => aIdxAddr 1 x18 x20 h fun x21 _ => aLoad x21 h fun x22 _ => aIdxAddr 1 x18 x19 h fun x23 _ => aLoad x23 h fun x24 _ => aCmpI (fun a b => ile b a) x22 x24 h fun x25 _ => withBool x25 fun t26 => bc t26 (aArith isub x20 (AV.int 3 (Int.ofNat 1)) h fun x27 h => kc17 [x18, x19, x27] h) (bindR (c_slices_Clone_234c F g x18 h) fun x28 h => loopD F (c_impl_levels_next_l1 F g) [x19, x20, x28, x19] h)) (hd vs) (hd (tl vs)) (hd (tl (tl vs)))
noncomputable def c_impl_levels_next_j3 (F g : Nat) (kc3 : List AV → H → Option R) (vs : List AV) (h : H) : Option R := (fun x7 x8 x9 x10 => aPick x9 x10 (AV.bool false) h fun x11 h => withBool x11 fun t12 => bc t12 (aArith isub x8 (AV.int 3 (Int.ofNat 1)) h fun x13 h => kc3 [x7, x13] h) (aCmpI ilt x8 (AV.int 3 (Int.ofNat 1)) h fun x14 h => withBool x14 fun t15 => bc t15 (some (AV.one .tup (AV.cons (AV.leaf .nils) (AV.cons (AV.bool false) (AV.leaf .nil))), h)) (aArith isub x8 (AV.int 3 (Int.ofNat 1)) h fun x16 h => loopD F (c_impl_levels_next_l2 F g) [x7, x8, x16] h))) (hd vs) (hd (tl vs)) (hd (tl (tl vs))) (hd (tl (tl (tl vs))))
noncomputable def c_impl_levels_next_l4 (F g : Nat) : List AV → H → (List AV → H → Option R) → Option R := fun vs h kc3 => (fun x4 x5 => aCmpI (fun a b => ilt b a) x5 (AV.int 3 (Int.ofNat 0)) h fun x6 h => guardB true x6 (aIdxAddr 1 x4 x5 h fun x44 h => aLoad x44 h fun x45 h => aCmpI ieq x45 (AV.int 3 (Int.ofNat 1)) h fun x46 h => (c_impl_levels_next_j3 F g kc3) [x4, x5, x6, x46] h) ((c_impl_levels_next_j3 F g kc3) [x4, x5, x6, (AV.one .tup (AV.leaf .nil))] h)) (hd vs) (hd (tl vs))
noncomputable def c_impl_levels_next (F g : Nat) (a0 : AV) (h : H) : Option R := aLenK 1 a0 h fun x1 h => aArith isub x1 (AV.int 3 (Int.ofNat 1)) h fun x2 h => loopD F (c_impl_levels_next_l4 F g) [a0, x2] h
noncomputable def A_impl_levels_next : An := (.two .o (.two .o (.two (.two (.at_ [0, 4] (.two (.two (.at_ [0, 4, 13, 18] .o .o) (.two .o .o)) (.two .o .o)) .o) .o) (.two (.two .o (.two (.two .o .o) .o)) (.two .o (.two (.two (.at_ [0, 4, 5] (.two (.two .o (.two .o .o)) (.two .o .o)) .o) .o) (.two .o (.two (.two .o (.two (.at_ [4, 5, 6, 7] (.two (.two .o (.two .o .o)) (.two (.two .o .o) .o)) .o) .o)) (.two .o .o)))))))))
noncomputable def b_impl_levels_next : Code := bodyOf Go.Proofs.Try.f61
theorem k_impl_levels_next (F g : Nat) (a0 : AV) (h : H) : callD Go.Proofs.Try.prog (Env.add (fun _ _ _ => none : Env) 89 (u1 (c_slices_Clone_234c F g))) 58 F b_impl_levels_next [2, 3] A_impl_levels_next [a0] h = c_impl_levels_next F g a0 h := by kernel_rfl
theorem s_impl_levels_next (F g : Nat) : ∀ args h r, u1 (c_impl_levels_next F g) args h = some r → Tri Go.Proofs.Try.prog 61 args h r := by
  intro args h r e; obtain ⟨a0, rfl, e1⟩ := u1_some e; exact fn_sound Go.Proofs.Try.func61 rfl rfl rfl Go.Proofs.Try.ntmps61 (Sound.add (Sound.none _) (s_slices_Clone_234c F g)) ((k_impl_levels_next F g a0 h).trans e1)

-- "loop.example/treenumbers/impl.allLevels"
noncomputable def c_impl_allLevels_l1 (F g : Nat) : List AV → H → (List AV → H → Option R) → Option R := fun vs h kc3 => (fun x4 x5 x6 => withBool x6 fun t7 => bc t7 (aBuildSlice 1 1 [(0, 1, x5)] h fun x8 h => aAppend 1 24 x4 x8 h fun x9 h => bindR (c_impl_levels_next F g x5 h) fun x10 h => aExtract x10 0 h fun x11 h => aExtract x10 1 h fun x12 h => kc3 [x9, x11, x12] h) (some (x4, h))) (hd vs) (hd (tl vs)) (hd (tl (tl vs)))
noncomputable def c_impl_allLevels (F g : Nat) (a0 : AV) (h : H) : Option R := aBuildSlice 0 1 [] h fun x1 h => bindR (c_impl_firstLevels F g a0 h) fun x2 h => loopD F (c_impl_allLevels_l1 F g) [x1, x2, (AV.bool true)] h
noncomputable def A_impl_allLevels : An := (.two .o (.two .o (.two .o (.two (.two (.at_ [3, 4, 5] (.two (.two .o (.two .o .o)) (.two (.two .o .o) .o)) .o) .o) (.two .o .o)))))
noncomputable def b_impl_allLevels : Code := bodyOf Go.Proofs.Try.f53
theorem k_impl_allLevels (F g : Nat) (a0 : AV) (h : H) : callD Go.Proofs.Try.prog (Env.add (Env.add (fun _ _ _ => none : Env) 82 (u1 (c_impl_firstLevels F g))) 61 (u1 (c_impl_levels_next F g))) 20 F b_impl_allLevels [2] A_impl_allLevels [a0] h = c_impl_allLevels F g a0 h := by kernel_rfl
theorem s_impl_allLevels (F g : Nat) : ∀ args h r, u1 (c_impl_allLevels F g) args h = some r → Tri Go.Proofs.Try.prog 53 args h r := by
  intro args h r e; obtain ⟨a0, rfl, e1⟩ := u1_some e; exact fn_sound Go.Proofs.Try.func53 rfl rfl rfl Go.Proofs.Try.ntmps53 (Sound.add (Sound.add (Sound.none _) (s_impl_firstLevels F g)) (s_impl_levels_next F g)) ((k_impl_allLevels F g a0 h).trans e1)

-- "(loop.example/treenumbers/impl.levels).text"
noncomputable def c_impl_levels_text_l1 (F g : Nat) : List AV → H → (List AV → H → Option R) → Option R := fun vs h kc2 => (fun x3 x4 x5 x6 x7 => aCmpI ilt x7 x6 h fun x8 h => withBool x8 fun t9 => bc t9 (aIdxAddr 1 x5 x7 h fun x10 h => aLoad x10 h fun x11 h => aArith isub x4 x11 h fun x12 h => bindR (Go.AI.T.c_strings_Repeat F g (AV.str [41] 1) x12 h) fun x13 h => aSAdd x13 (AV.str [40] 1) h fun x14 h => aSAdd x3 x14 h fun x15 h => aArith iadd x11 (AV.int 3 (Int.ofNat 1)) h fun x16 h => aArith iadd x7 (AV.int 3 (Int.ofNat 1)) h fun x17 h => kc2 [x15, x16, x5, x6, x17] h) (bindR (Go.AI.T.c_strings_Repeat F g (AV.str [41] 1) x4 h) fun x18 h => aSAdd x3 x18 h fun x19 h => some (x19, h))) (hd vs) (hd (tl vs)) (hd (tl (tl vs))) (hd (tl (tl (tl vs)))) (hd (tl (tl (tl (tl vs)))))
noncomputable def c_impl_levels_text (F g : Nat) (a0 : AV) (h : H) : Option R := aLenK 1 a0 h fun x1 h => loopD F (c_impl_levels_text_l1 F g) [(AV.str [] 0), (AV.int 3 (Int.ofNat 0)), a0, x1, (AV.int 3 (Int.ofNat 0))] h
noncomputable def A_impl_levels_text : An := (.two .o (.two .o (.two .o (.two (.two .o (.two (.at_ [3, 4, 7, 8, 9] (.two .o (.two (.two .o .o) (.two (.two (.two .o (.two .o .o)) .o) .o))) .o) .o)) (.two .o .o)))))
noncomputable def b_impl_levels_text : Code := bodyOf Go.Proofs.Try.f55
theorem k_impl_levels_text (F g : Nat) (a0 : AV) (h : H) : callD Go.Proofs.Try.prog (Env.add (fun _ _ _ => none : Env) 83 (u2 (Go.AI.T.c_strings_Repeat F g))) 27 F b_impl_levels_text [2] A_impl_levels_text [a0] h = c_impl_levels_text F g a0 h := by kernel_rfl
theorem s_impl_levels_text (F g : Nat) : ∀ args h r, u1 (c_impl_levels_text F g) args h = some r → Tri Go.Proofs.Try.prog 55 args h r := by
  intro args h r e; obtain ⟨a0, rfl, e1⟩ := u1_some e; exact fn_sound Go.Proofs.Try.func55 rfl rfl rfl Go.Proofs.Try.ntmps55 (Sound.add (Sound.none _) (Go.AI.T.s_strings_Repeat F g)) ((k_impl_levels_text F g a0 h).trans e1)

-- "loop.example/treenumbers/impl.LevelsAll"
noncomputable def c_impl_LevelsAll_l1 (F g : Nat) : List AV → H → (List AV → H → Option R) → Option R := fun vs h kc10 => (fun x11 x12 x13 x14 => aCmpI ilt x14 x13 h fun x15 h => withBool x15 fun t16 => bc t16 (aIdxAddr 1 x12 x14 h fun x17 h => aLoad x17 h fun x18 h => bindR (c_impl_levels_text F g x18 h) fun x19 h => aBuildSlice 1 1 [(0, 1, x19)] h fun x20 h => aAppend 1 16 x11 x20 h fun x21 h => aArith iadd x14 (AV.int 3 (Int.ofNat 1)) h fun x22 h => kc10 [x21, x12, x13, x22] h) (some (AV.one .tup (AV.cons x11 (AV.cons (AV.bool true) (AV.leaf .nil))), h))) (hd vs) (hd (tl vs)) (hd (tl (tl vs))) (hd (tl (tl (tl vs))))
noncomputable def c_impl_LevelsAll_j2 (F g : Nat) (vs : List AV) (h : H) : Option R := (fun x2 x3 x4 => aPick x3 (AV.bool true) x4 h fun x5 h => withBool x5 fun t6 => bc t6 (some (AV.one .tup (AV.cons (AV.leaf .nils) (AV.cons (AV.bool false) (AV.leaf .nil))), h)) (aBuildSlice 0 1 [] h fun x7 h => bindR (c_impl_allLevels F g x2 h) fun x8 h => aLenK 1 x8 h fun x9 h => loopD F (c_impl_LevelsAll_l1 F g) [x7, x8, x9, (AV.int 3 (Int.ofNat 0))] h)) (hd vs) (hd (tl vs)) (hd (tl (tl vs)))
noncomputable def c_impl_LevelsAll (F g : Nat) (a0 : AV) (h : H) : Option R := aCmpI ilt a0 (AV.int 3 (Int.ofNat 1)) h fun x1 h => guardB false x1 (aCmpI (fun a b => ilt b a) a0 (AV.int 3 (Int.ofNat 8)) h fun x23 h => (c_impl_LevelsAll_j2 F g) [a0, x1, x23] h) ((c_impl_LevelsAll_j2 F g) [a0, x1, (AV.one .tup (AV.leaf .nil))] h)
noncomputable def A_impl_LevelsAll : An := (.two .o (.two (.two (.at_ [0, 9, 11] .o .o) (.two (.two .o .o) .o)) (.two .o (.two (.two .o (.two (.at_ [4, 15, 16, 17] (.two .o (.two (.two .o .o) (.two (.two (.two .o .o) .o) .o))) .o) .o)) (.two .o .o)))))
noncomputable def b_impl_LevelsAll : Code := bodyOf Go.Proofs.Try.f19
theorem k_impl_LevelsAll (F g : Nat) (a0 : AV) (h : H) : callD Go.Proofs.Try.prog (Env.add (Env.add (fun _ _ _ => none : Env) 53 (u1 (c_impl_allLevels F g))) 55 (u1 (c_impl_levels_text F g))) 28 F b_impl_LevelsAll [2, 3] A_impl_LevelsAll [a0] h = c_impl_LevelsAll F g a0 h := by kernel_rfl
theorem s_impl_LevelsAll (F g : Nat) : ∀ args h r, u1 (c_impl_LevelsAll F g) args h = some r → Tri Go.Proofs.Try.prog 19 args h r := by
  intro args h r e; obtain ⟨a0, rfl, e1⟩ := u1_some e; exact fn_sound Go.Proofs.Try.func19 rfl rfl rfl Go.Proofs.Try.ntmps19 (Sound.add (Sound.add (Sound.none _) (s_impl_allLevels F g)) (s_impl_levels_text F g)) ((k_impl_LevelsAll F g a0 h).trans e1)

-- "loop.example/treenumbers/spec.l6In"
noncomputable def c_spec_l6In_j1 (F g : Nat) (vs : List AV) (h : H) : Option R := (fun x2 x3 => aPick x2 x3 (AV.bool false) h fun x4 h => some (x4, h)) (hd vs) (hd (tl vs))
noncomputable def c_spec_l6In (F g : Nat) (a0 a1 a2 : AV) (h : H) : Option R := aCmpI (fun a b => ile b a) a0 a1 h fun x1 h => guardB true x1 (aCmpI ile a0 a2 h fun x5 h => (c_spec_l6In_j1 F g) [x1, x5] h) ((c_spec_l6In_j1 F g) [x1, (AV.one .tup (AV.leaf .nil))] h)
noncomputable def A_spec_l6In : An := (.two .o (.two (.at_ [10, 13] .o .o) .o))
noncomputable def b_spec_l6In : Code := bodyOf Go.Proofs.Try.f54
theorem k_spec_l6In (F g : Nat) (a0 a1 a2 : AV) (h : H) : callD Go.Proofs.Try.prog (fun _ _ _ => none : Env) 15 F b_spec_l6In [6] A_spec_l6In [a0, a1, a2] h = c_spec_l6In F g a0 a1 a2 h := by kernel_rfl
theorem s_spec_l6In (F g : Nat) : ∀ args h r, u3 (c_spec_l6In F g) args h = some r → Tri Go.Proofs.Try.prog 54 args h r := by
  intro args h r e; obtain ⟨a0, a1, a2, rfl, e1⟩ := u3_some e; exact fn_sound Go.Proofs.Try.func54 rfl rfl rfl Go.Proofs.Try.ntmps54 (Sound.none _) ((k_spec_l6In F g a0 a1 a2 h).trans e1)

-- "loop.example/treenumbers/spec.LevelsAll"
noncomputable def c_spec_LevelsAll (F g : Nat) (a0 : AV) (h : H) : Option R := bindR (c_spec_l6In F g a0 (AV.int 3 (Int.ofNat 1)) (AV.int 3 (Int.ofNat 8)) h) fun x1 h => aNot x1 h fun x2 h => withBool x2 fun t3 => bc t3 (aBuildSlice 0 1 [] h fun x4 h => some (AV.one .tup (AV.cons x4 (AV.cons (AV.bool false) (AV.leaf .nil))), h)) (aBuildSlice 1 1 [(0, 1, (AV.int 3 (Int.ofNat 0)))] h fun x5 h => aBuildSlice 0 1 [] h fun x6 h => bindR (Go.AI.T.c_spec_l3All F g x5 a0 x6 h) fun x7 h => some (AV.one .tup (AV.cons x7 (AV.cons (AV.bool true) (AV.leaf .nil))), h))
noncomputable def A_spec_LevelsAll : An := (.two .o (.two (.two .o (.two (.two .o .o) .o)) (.two .o .o)))
noncomputable def b_spec_LevelsAll : Code := bodyOf Go.Proofs.Try.f20
theorem k_spec_LevelsAll (F g : Nat) (a0 : AV) (h : H) : callD Go.Proofs.Try.prog (Env.add (Env.add (fun _ _ _ => none : Env) 54 (u3 (c_spec_l6In F g))) 56 (u3 (Go.AI.T.c_spec_l3All F g))) 12 F b_spec_LevelsAll [2, 3] A_spec_LevelsAll [a0] h = c_spec_LevelsAll F g a0 h := by kernel_rfl
theorem s_spec_LevelsAll (F g : Nat) : ∀ args h r, u1 (c_spec_LevelsAll F g) args h = some r → Tri Go.Proofs.Try.prog 20 args h r := by
  intro args h r e; obtain ⟨a0, rfl, e1⟩ := u1_some e; exact fn_sound Go.Proofs.Try.func20 rfl rfl rfl Go.Proofs.Try.ntmps20 (Sound.add (Sound.add (Sound.none _) (s_spec_l6In F g)) (Go.AI.T.s_spec_l3All F g)) ((k_spec_LevelsAll F g a0 h).trans e1)

-- "loop.example/treenumbers/impl.LevelsCount"
noncomputable def c_impl_LevelsCount_j1 (F g : Nat) (vs : List AV) (h : H) : Option R := (fun x2 x3 x4 => aPick x3 (AV.bool true) x4 h fun x5 h => withBool x5 fun t6 => bc t6 (some (AV.one .tup (AV.cons (AV.int 3 (Int.ofNat 0)) (AV.cons (AV.bool false) (AV.leaf .nil))), h)) (bindR (c_impl_allLevels F g x2 h) fun x7 h => aLenK 1 x7 h fun x8 h => some (AV.one .tup (AV.cons x8 (AV.cons (AV.bool true) (AV.leaf .nil))), h))) (hd vs) (hd (tl vs)) (hd (tl (tl vs)))
noncomputable def c_impl_LevelsCount (F g : Nat) (a0 : AV) (h : H) : Option R := aCmpI ilt a0 (AV.int 3 (Int.ofNat 1)) h fun x1 h => guardB false x1 (aCmpI (fun a b => ilt b a) a0 (AV.int 3 (Int.ofNat 12)) h fun x9 h => (c_impl_LevelsCount_j1 F g) [a0, x1, x9] h) ((c_impl_LevelsCount_j1 F g) [a0, x1, (AV.one .tup (AV.leaf .nil))] h)
noncomputable def A_impl_LevelsCount : An := (.two .o (.two (.two (.at_ [0, 6, 8] .o .o) (.two (.two .o .o) .o)) (.two .o .o)))
noncomputable def b_impl_LevelsCount : Code := bodyOf Go.Proofs.Try.f15
theorem k_impl_LevelsCount (F g : Nat) (a0 : AV) (h : H) : callD Go.Proofs.Try.prog (Env.add (fun _ _ _ => none : Env) 53 (u1 (c_impl_allLevels F g))) 13 F b_impl_LevelsCount [2, 3] A_impl_LevelsCount [a0] h = c_impl_LevelsCount F g a0 h := by kernel_rfl
theorem s_impl_LevelsCount (F g : Nat) : ∀ args h r, u1 (c_impl_LevelsCount F g) args h = some r → Tri Go.Proofs.Try.prog 15 args h r := by
  intro args h r e; obtain ⟨a0, rfl, e1⟩ := u1_some e; exact fn_sound Go.Proofs.Try.func15 rfl rfl rfl Go.Proofs.Try.ntmps15 (Sound.add (Sound.none _) (s_impl_allLevels F g)) ((k_impl_LevelsCount F g a0 h).trans e1)

-- "math/bits.Len32"
noncomputable def c_math_bits_Len32_j1 (F g : Nat) (vs : List AV) (h : H) : Option R := (fun x3 x4 => aConvI 4 x3 h fun x5 h => aIdxStr (AV.str [0, 1, 2, 2, 3, 3, 3, 3, 4, 4, 4, 4, 4, 4, 4, 4, 5, 5, 5, 5, 5, 5, 5, 5, 5, 5, 5, 5, 5, 5, 5, 5, 6, 6, 6, 6, 6, 6, 6, 6, 6, 6, 6, 6, 6, 6, 6, 6, 6, 6, 6, 6, 6, 6, 6, 6, 6, 6, 6, 6, 6, 6, 6, 6, 7, 7, 7, 7, 7, 7, 7, 7, 7, 7, 7, 7, 7, 7, 7, 7, 7, 7, 7, 7, 7, 7, 7, 7, 7, 7, 7, 7, 7, 7, 7, 7, 7, 7, 7, 7, 7, 7, 7, 7, 7, 7, 7, 7, 7, 7, 7, 7, 7, 7, 7, 7, 7, 7, 7, 7, 7, 7, 7, 7, 7, 7, 7, 7, 8, 8, 8, 8, 8, 8, 8, 8, 8, 8, 8, 8, 8, 8, 8, 8, 8, 8, 8, 8, 8, 8, 8, 8, 8, 8, 8, 8, 8, 8, 8, 8, 8, 8, 8, 8, 8, 8, 8, 8, 8, 8, 8, 8, 8, 8, 8, 8, 8, 8, 8, 8, 8, 8, 8, 8, 8, 8, 8, 8, 8, 8, 8, 8, 8, 8, 8, 8, 8, 8, 8, 8, 8, 8, 8, 8, 8, 8, 8, 8, 8, 8, 8, 8, 8, 8, 8, 8, 8, 8, 8, 8, 8, 8, 8, 8, 8, 8, 8, 8, 8, 8, 8, 8, 8, 8, 8, 8, 8, 8, 8, 8, 8, 8, 8, 8, 8, 8, 8, 8, 8, 8, 8, 8, 8, 8, 8, 8] 256) x5 h fun x6 h => aConvI 3 x6 h fun x7 h => aArith iadd x4 x7 h fun x8 h => some (x8, h)) (hd vs) (hd (tl vs))
noncomputable def c_math_bits_Len32_j2 (F g : Nat) (vs : List AV) (h : H) : Option R := (fun x1 x2 => aCmpI (fun a b => ile b a) x1 (AV.int 6 (Int.ofNat 256)) h fun x9 h => withBool x9 fun t10 => bc t10 (aShr x1 (AV.int 7 (Int.ofNat 8)) h fun x11 h => aArith iadd x2 (AV.int 3 (Int.ofNat 8)) h fun x12 h => (c_math_bits_Len32_j1 F g) [x11, x12] h) ((c_math_bits_Len32_j1 F g) [x1, x2] h)) (hd vs) (hd (tl vs))
noncomputable def c_math_bits_Len32 (F g : Nat) (a0 : AV) (h : H) : Option R := aCmpI (fun a b => ile b a) a0 (AV.int 6 (Int.ofNat 65536)) h fun x13 h => withBool x13 fun t14 => bc t14 (aShr a0 (AV.int 7 (Int.ofNat 16)) h fun x15 h => (c_math_bits_Len32_j2 F g) [x15, (AV.int 3 (Int.ofNat 16))] h) ((c_math_bits_Len32_j2 F g) [a0, (AV.int 3 (Int.ofNat 0))] h)
noncomputable def A_math_bits_Len32 : An := (.two .o (.at_ [0, 2] (.two .o (.two (.two .o .o) .o)) (.at_ [0, 2] (.two .o (.two (.two .o .o) .o)) (.two .o .o))))
noncomputable def b_math_bits_Len32 : Code := bodyOf Go.Proofs.Try.f122
theorem k_math_bits_Len32 (F g : Nat) (a0 : AV) (h : H) : callD Go.Proofs.Try.prog (fun _ _ _ => none : Env) 19 F b_math_bits_Len32 [2] A_math_bits_Len32 [a0] h = c_math_bits_Len32 F g a0 h := by kernel_rfl
theorem s_math_bits_Len32 (F g : Nat) : ∀ args h r, u1 (c_math_bits_Len32 F g) args h = some r → Tri Go.Proofs.Try.prog 122 args h r := by
  intro args h r e; obtain ⟨a0, rfl, e1⟩ := u1_some e; exact fn_sound Go.Proofs.Try.func122 rfl rfl rfl Go.Proofs.Try.ntmps122 (Sound.none _) ((k_math_bits_Len32 F g a0 h).trans e1)

-- "math/bits.Len64"
noncomputable def c_math_bits_Len64_j1 (F g : Nat) (vs : List AV) (h : H) : Option R := (fun x5 x6 => aConvI 4 x5 h fun x7 h => aIdxStr (AV.str [0, 1, 2, 2, 3, 3, 3, 3, 4, 4, 4, 4, 4, 4, 4, 4, 5, 5, 5, 5, 5, 5, 5, 5, 5, 5, 5, 5, 5, 5, 5, 5, 6, 6, 6, 6, 6, 6, 6, 6, 6, 6, 6, 6, 6, 6, 6, 6, 6, 6, 6, 6, 6, 6, 6, 6, 6, 6, 6, 6, 6, 6, 6, 6, 7, 7, 7, 7, 7, 7, 7, 7, 7, 7, 7, 7, 7, 7, 7, 7, 7, 7, 7, 7, 7, 7, 7, 7, 7, 7, 7, 7, 7, 7, 7, 7, 7, 7, 7, 7, 7, 7, 7, 7, 7, 7, 7, 7, 7, 7, 7, 7, 7, 7, 7, 7, 7, 7, 7, 7, 7, 7, 7, 7, 7, 7, 7, 7, 8, 8, 8, 8, 8, 8, 8, 8, 8, 8, 8, 8, 8, 8, 8, 8, 8, 8, 8, 8, 8, 8, 8, 8, 8, 8, 8, 8, 8, 8, 8, 8, 8, 8, 8, 8, 8, 8, 8, 8, 8, 8, 8, 8, 8, 8, 8, 8, 8, 8, 8, 8, 8, 8, 8, 8, 8, 8, 8, 8, 8, 8, 8, 8, 8, 8, 8, 8, 8, 8, 8, 8, 8, 8, 8, 8, 8, 8, 8, 8, 8, 8, 8, 8, 8, 8, 8, 8, 8, 8, 8, 8, 8, 8, 8, 8, 8, 8, 8, 8, 8, 8, 8, 8, 8, 8, 8, 8, 8, 8, 8, 8, 8, 8, 8, 8, 8, 8, 8, 8, 8, 8, 8, 8, 8, 8, 8, 8] 256) x7 h fun x8 h => aConvI 3 x8 h fun x9 h => aArith iadd x6 x9 h fun x10 h => some (x10, h)) (hd vs) (hd (tl vs))
noncomputable def c_math_bits_Len64_j2 (F g : Nat) (vs : List AV) (h : H) : Option R := (fun x3 x4 => aCmpI (fun a b => ile b a) x3 (AV.int 7 (Int.ofNat 256)) h fun x11 h => withBool x11 fun t12 => bc t12 (aShr x3 (AV.int 7 (Int.ofNat 8)) h fun x13 h => aArith iadd x4 (AV.int 3 (Int.ofNat 8)) h fun x14 h => (c_math_bits_Len64_j1 F g) [x13, x14] h) ((c_math_bits_Len64_j1 F g) [x3, x4] h)) (hd vs) (hd (tl vs))
noncomputable def c_math_bits_Len64_j3 (F g : Nat) (vs : List AV) (h : H) : Option R := (fun x1 x2 => aCmpI (fun a b => ile b a) x1 (AV.int 7 (Int.ofNat 65536)) h fun x15 h => withBool x15 fun t16 => bc t16 (aShr x1 (AV.int 7 (Int.ofNat 16)) h fun x17 h => aArith iadd x2 (AV.int 3 (Int.ofNat 16)) h fun x18 h => (c_math_bits_Len64_j2 F g) [x17, x18] h) ((c_math_bits_Len64_j2 F g) [x1, x2] h)) (hd vs) (hd (tl vs))
noncomputable def c_math_bits_Len64 (F g : Nat) (a0 : AV) (h : H) : Option R := aCmpI (fun a b => ile b a) a0 (AV.int 7 (Int.ofNat 4294967296)) h fun x19 h => withBool x19 fun t20 => bc t20 (aShr a0 (AV.int 7 (Int.ofNat 32)) h fun x21 h => (c_math_bits_Len64_j3 F g) [x21, (AV.int 3 (Int.ofNat 32))] h) ((c_math_bits_Len64_j3 F g) [a0, (AV.int 3 (Int.ofNat 0))] h)
noncomputable def A_math_bits_Len64 : An := (.two .o (.at_ [0, 2] (.two .o (.two (.two .o .o) .o)) (.at_ [0, 2] (.two .o (.two (.two .o .o) .o)) (.at_ [0, 2] (.two .o (.two (.two .o .o) .o)) (.two .o .o)))))
noncomputable def b_math_bits_Len64 : Code := bodyOf Go.Proofs.Try.f123
theorem k_math_bits_Len64 (F g : Nat) (a0 : AV) (h : H) : callD Go.Proofs.Try.prog (fun _ _ _ => none : Env) 25 F b_math_bits_Len64 [2] A_math_bits_Len64 [a0] h = c_math_bits_Len64 F g a0 h := by kernel_rfl
theorem s_math_bits_Len64 (F g : Nat) : ∀ args h r, u1 (c_math_bits_Len64 F g) args h = some r → Tri Go.Proofs.Try.prog 123 args h r := by
  intro args h r e; obtain ⟨a0, rfl, e1⟩ := u1_some e; exact fn_sound Go.Proofs.Try.func123 rfl rfl rfl Go.Proofs.Try.ntmps123 (Sound.none _) ((k_math_bits_Len64 F g a0 h).trans e1)

-- "math/bits.Len"
noncomputable def c_math_bits_Len (F g : Nat) (a0 : AV) (h : H) : Option R := withBool (AV.bool false) fun t1 => bc t1 (aConvI 6 a0 h fun x2 h => bindR (c_math_bits_Len32 F g x2 h) fun x3 h => some (x3, h)) (bindR (c_math_bits_Len64 F g a0 h) fun x4 h => some (x4, h))
noncomputable def A_math_bits_Len : An := (.two .o (.two (.two (.two .o .o) .o) (.two .o .o)))
noncomputable def b_math_bits_Len : Code := bodyOf Go.Proofs.Try.f104
theorem k_math_bits_Len (F g : Nat) (a0 : AV) (h : H) : callD Go.Proofs.Try.prog (Env.add (Env.add (fun _ _ _ => none : Env) 122 (u1 (c_math_bits_Len32 F g))) 123 (u1 (c_math_bits_Len64 F g))) 8 F b_math_bits_Len [2] A_math_bits_Len [a0] h = c_math_bits_Len F g a0 h := by kernel_rfl
theorem s_math_bits_Len (F g : Nat) : ∀ args h r, u1 (c_math_bits_Len F g) args h = some r → Tri Go.Proofs.Try.prog 104 args h r := by
  intro args h r e; obtain ⟨a0, rfl, e1⟩ := u1_some e; exact fn_sound Go.Proofs.Try.func104 rfl rfl rfl Go.Proofs.Try.ntmps104 (Sound.add (Sound.add (Sound.none _) (s_math_bits_Len32 F g)) (s_math_bits_Len64 F g)) ((k_math_bits_Len F g a0 h).trans e1)

-- "cmp.isNaN[int]"
noncomputable def c_cmp_isNaN_46f8 (F g : Nat) (a0 : AV) (h : H) : Option R := aCmpI (fun a b => bnot (ieq a b)) a0 a0 h fun x1 h => some (x1, h)
noncomputable def A_cmp_isNaN_46f8 : An := (.two .o (.two .o .o))
noncomputable def b_cmp_isNaN_46f8 : Code := bodyOf Go.Proofs.Try.f125
theorem k_cmp_isNaN_46f8 (F g : Nat) (a0 : AV) (h : H) : callD Go.Proofs.Try.prog (fun _ _ _ => none : Env) 6 F b_cmp_isNaN_46f8 [2] A_cmp_isNaN_46f8 [a0] h = c_cmp_isNaN_46f8 F g a0 h := by kernel_rfl
theorem s_cmp_isNaN_46f8 (F g : Nat) : ∀ args h r, u1 (c_cmp_isNaN_46f8 F g) args h = some r → Tri Go.Proofs.Try.prog 125 args h r := by
  intro args h r e; obtain ⟨a0, rfl, e1⟩ := u1_some e; exact fn_sound Go.Proofs.Try.func125 rfl rfl rfl Go.Proofs.Try.ntmps125 (Sound.none _) ((k_cmp_isNaN_46f8 F g a0 h).trans e1)

-- "cmp.Compare[int]"
noncomputable def c_cmp_Compare_46f8 (F g : Nat) (a0 a1 : AV) (h : H) : Option R := bindR (c_cmp_isNaN_46f8 F g a0 h) fun x1 h => bindR (c_cmp_isNaN_46f8 F g a1 h) fun x2 h => withBool x1 fun t3 => bc t3 (withBool x2 fun t4 => bc t4 (some ((AV.int 3 (Int.ofNat 0)), h)) (some ((AV.int 3 (Int.negSucc 0)), h))) (withBool x2 fun t5 => bc t5 (some ((AV.int 3 (Int.ofNat 1)), h)) (aCmpI ilt a0 a1 h fun x6 h => withBool x6 fun t7 => bc t7 (some ((AV.int 3 (Int.negSucc 0)), h)) (aCmpI (fun a b => ilt b a) a0 a1 h fun x8 h => withBool x8 fun t9 => bc t9 (some ((AV.int 3 (Int.ofNat 1)), h)) (some ((AV.int 3 (Int.ofNat 0)), h)))))
noncomputable def A_cmp_Compare_46f8 : An := (.two .o (.two .o (.two .o (.two (.two .o (.two (.two (.two .o (.two (.two .o .o) .o)) (.two .o .o)) .o)) (.two (.two .o (.two (.two .o .o) .o)) (.two (.two .o (.two (.two .o .o) .o)) (.two (.two .o (.two (.two .o .o) .o)) (.two .o .o))))))))
noncomputable def b_cmp_Compare_46f8 : Code := bodyOf Go.Proofs.Try.f107
theorem k_cmp_Compare_46f8 (F g : Nat) (a0 a1 : AV) (h : H) : callD Go.Proofs.Try.prog (Env.add (fun _ _ _ => none : Env) 125 (u1 (c_cmp_isNaN_46f8 F g))) 20 F b_cmp_Compare_46f8 [4] A_cmp_Compare_46f8 [a0, a1] h = c_cmp_Compare_46f8 F g a0 a1 h := by kernel_rfl
theorem s_cmp_Compare_46f8 (F g : Nat) : ∀ args h r, u2 (c_cmp_Compare_46f8 F g) args h = some r → Tri Go.Proofs.Try.prog 107 args h r := by
  intro args h r e; obtain ⟨a0, a1, rfl, e1⟩ := u2_some e; exact fn_sound Go.Proofs.Try.func107 rfl rfl rfl Go.Proofs.Try.ntmps107 (Sound.add (Sound.none _) (s_cmp_isNaN_46f8 F g)) ((k_cmp_Compare_46f8 F g a0 a1 h).trans e1)

-- "slices.Compare[loop.example/treenumbers/impl.levels,int]"
noncomputable def c_slices_Compare_234c_l1 (F g : Nat) : List AV → H → (List AV → H → Option R) → Option R := fun vs h kc2 => (fun x3 x4 x5 x6 x7 => aCmpI ilt x7 x6 h fun x8 h => withBool x8 fun t9 => bc t9 (aIdxAddr 1 x5 x7 h fun x10 h => aLoad x10 h fun x11 h => aLenK 1 x4 h fun x12 h => aCmpI (fun a b => ile b a) x7 x12 h fun x13 h => withBool x13 fun t14 => bc t14 (some ((AV.int 3 (Int.ofNat 1)), h)) (aIdxAddr 1 x4 x7 h fun x15 h => aLoad x15 h fun x16 h => bindR (c_cmp_Compare_46f8 F g x11 x16 h) fun x17 h => aCmpI (fun a b => bnot (ieq a b)) x17 (AV.int 3 (Int.ofNat 0)) h fun x18 h => withBool x18 fun t19 => bc t19 (some (x17, h)) (aArith iadd x7 (AV.int 3 (Int.ofNat 1)) h fun x20 h => kc2 [x3, x4, x5, x6, x20] h))) (aLenK 1 x3 h fun x21 h => aLenK 1 x4 h fun x22 h => aCmpI ilt x21 x22 h fun x23 h => withBool x23 fun t24 => bc t24 (some ((AV.int 3 (Int.negSucc 0)), h)) (some ((AV.int 3 (Int.ofNat 0)), h)))) (hd vs) (hd (tl vs)) (hd (tl (tl vs))) (hd (tl (tl (tl vs)))) (hd (tl (tl (tl (tl vs)))))
noncomputable def c_slices_Compare_234c (F g : Nat) (a0 a1 : AV) (h : H) : Option R := aLenK 1 a0 h fun x1 h => loopD F (c_slices_Compare_234c_l1 F g) [a0, a1, a0, x1, (AV.int 3 (Int.ofNat 0))] h
noncomputable def A_slices_Compare_234c : An := (.two .o (.two (.two .o (.two (.at_ [0, 1, 9, 10, 11] (.two .o (.two (.two .o .o) (.two (.two (.two .o (.two (.two .o (.two (.two .o .o) .o)) (.two .o (.two .o (.two .o (.two (.two .o .o) .o)))))) .o) .o))) .o) .o)) (.two (.two .o (.two (.two .o .o) .o)) (.two .o .o))))
noncomputable def b_slices_Compare_234c : Code := bodyOf Go.Proofs.Try.f90
theorem k_slices_Compare_234c (F g : Nat) (a0 a1 : AV) (h : H) : callD Go.Proofs.Try.prog (Env.add (fun _ _ _ => none : Env) 107 (u2 (c_cmp_Compare_46f8 F g))) 36 F b_slices_Compare_234c [4] A_slices_Compare_234c [a0, a1] h = c_slices_Compare_234c F g a0 a1 h := by kernel_rfl
theorem s_slices_Compare_234c (F g : Nat) : ∀ args h r, u2 (c_slices_Compare_234c F g) args h = some r → Tri Go.Proofs.Try.prog 90 args h r := by
  intro args h r e; obtain ⟨a0, a1, rfl, e1⟩ := u2_some e; exact fn_sound Go.Proofs.Try.func90 rfl rfl rfl Go.Proofs.Try.ntmps90 (Sound.add (Sound.none _) (s_cmp_Compare_46f8 F g)) ((k_slices_Compare_234c F g a0 a1 h).trans e1)

-- "loop.example/treenumbers/impl.greatestFirst"
noncomputable def c_impl_greatestFirst (F g : Nat) (a0 a1 : AV) (h : H) : Option R := bindR (c_slices_Compare_234c F g a1 a0 h) fun x1 h => some (x1, h)
noncomputable def A_impl_greatestFirst : An := (.two .o (.two .o .o))
noncomputable def b_impl_greatestFirst : Code := bodyOf Go.Proofs.Try.f64
theorem k_impl_greatestFirst (F g : Nat) (a0 a1 : AV) (h : H) : callD Go.Proofs.Try.prog (Env.add (fun _ _ _ => none : Env) 90 (u2 (c_slices_Compare_234c F g))) 8 F b_impl_greatestFirst [4] A_impl_greatestFirst [a0, a1] h = c_impl_greatestFirst F g a0 a1 h := by kernel_rfl
theorem s_impl_greatestFirst (F g : Nat) : ∀ args h r, u2 (c_impl_greatestFirst F g) args h = some r → Tri Go.Proofs.Try.prog 64 args h r := by
  intro args h r e; obtain ⟨a0, a1, rfl, e1⟩ := u2_some e; exact fn_sound Go.Proofs.Try.func64 rfl rfl rfl Go.Proofs.Try.ntmps64 (Sound.add (Sound.none _) (s_slices_Compare_234c F g)) ((k_impl_greatestFirst F g a0 a1 h).trans e1)

-- "(*loop.example/treenumbers/impl.node).text"
noncomputable def c_impl_node_text_l1 (F g : Nat) (self : AV → H → Option R) : List AV → H → (List AV → H → Option R) → Option R := fun vs h kc5 => (fun x6 x7 x8 x9 => aCmpI ilt x9 x8 h fun x10 h => withBool x10 fun t11 => bc t11 (aIdxAddr 1 x7 x9 h fun x12 h => aLoad x12 h fun x13 h => bindR (self x13 h) fun x14 h => aSAdd x6 x14 h fun x15 h => aArith iadd x9 (AV.int 3 (Int.ofNat 1)) h fun x16 h => kc5 [x15, x7, x8, x16] h) (aSAdd x6 (AV.str [41] 1) h fun x17 h => some (x17, h))) (hd vs) (hd (tl vs)) (hd (tl (tl vs))) (hd (tl (tl (tl vs))))
noncomputable def c_impl_node_text (F g : Nat) : AV → H → Option R := Nat.rec (motive := fun _ => AV → H → Option R) (fun _ _ => none) (fun g self a0 h => aNilCheck a0 h fun x1 h => aField 2 x1 h fun x2 h => aLoad x2 h fun x3 h => aLenK 1 x3 h fun x4 h => loopD F (c_impl_node_text_l1 F g self) [(AV.str [40] 1), x3, x4, (AV.int 3 (Int.ofNat 0))] h) g
noncomputable def A_impl_node_text : An := (.two .o (.two .o (.two (.two .o (.two (.at_ [3, 9, 10, 11] (.two .o (.two (.two .o .o) (.two (.two (.two .o .o) .o) .o))) .o) .o)) (.two .o .o))))
noncomputable def b_impl_node_text : Code := bodyOf Go.Proofs.Try.f59
theorem k_impl_node_text (F g : Nat) (a0 : AV) (h : H) : callD Go.Proofs.Try.prog (Env.add (fun _ _ _ => none : Env) 59 (u1 (c_impl_node_text F g))) 22 F b_impl_node_text [2] A_impl_node_text [a0] h = c_impl_node_text F (g + 1) a0 h := by kernel_rfl
theorem s_impl_node_text (F g : Nat) : ∀ args h r, u1 (c_impl_node_text F g) args h = some r → Tri Go.Proofs.Try.prog 59 args h r := by
  induction g with
  | zero => intro args h r e; obtain ⟨a0, rfl, e⟩ := u1_some e; cases e
  | succ g ih => intro args h r e; obtain ⟨a0, rfl, e1⟩ := u1_some e; exact fn_sound Go.Proofs.Try.func59 rfl rfl rfl Go.Proofs.Try.ntmps59 (Sound.add (Sound.none _) ih) ((k_impl_node_text F g a0 h).trans e1)

-- "loop.example/treenumbers/impl.compareTexts"
noncomputable def c_impl_compareTexts (F g : Nat) (a0 a1 : AV) (h : H) : Option R := bindR (c_impl_node_text F g a0 h) fun x1 h => bindR (c_impl_node_text F g a1 h) fun x2 h => bindR (Go.AI.T.c_strings_Compare F g x1 x2 h) fun x3 h => some (x3, h)
noncomputable def A_impl_compareTexts : An := (.two .o (.two .o .o))
noncomputable def b_impl_compareTexts : Code := bodyOf Go.Proofs.Try.f87
theorem k_impl_compareTexts (F g : Nat) (a0 a1 : AV) (h : H) : callD Go.Proofs.Try.prog (Env.add (Env.add (fun _ _ _ => none : Env) 59 (u1 (c_impl_node_text F g))) 105 (u2 (Go.AI.T.c_strings_Compare F g))) 10 F b_impl_compareTexts [4] A_impl_compareTexts [a0, a1] h = c_impl_compareTexts F g a0 a1 h := by kernel_rfl
theorem s_impl_compareTexts (F g : Nat) : ∀ args h r, u2 (c_impl_compareTexts F g) args h = some r → Tri Go.Proofs.Try.prog 87 args h r := by
  intro args h r e; obtain ⟨a0, a1, rfl, e1⟩ := u2_some e; exact fn_sound Go.Proofs.Try.func87 rfl rfl rfl Go.Proofs.Try.ntmps87 (Sound.add (Sound.add (Sound.none _) (s_impl_node_text F g)) (Go.AI.T.s_strings_Compare F g)) ((k_impl_compareTexts F g a0 a1 h).trans e1)

-- "slices.insertionSortCmpFunc[*loop.example/treenumbers/impl.node]"
noncomputable def G_slices_insertionSortCmpFunc_beeb (F g : Nat) : Env := (Env.add (Env.add (fun _ _ _ => none : Env) 64 (u2 (c_impl_greatestFirst F g))) 87 (u2 (c_impl_compareTexts F g)))
noncomputable def c_slices_insertionSortCmpFunc_beeb_j1 (F g : Nat) (kc2 : List AV → H → Option R) (kc10 : List AV → H → Option R) (vs : List AV) (h : H) : Option R := (fun x18 x19 x20 x21 x22 x23 x24 x25 => aPick x24 x25 (AV.bool false) h fun x26 _ => withBool x26 fun t27 => bc t27 (aArith isub x23 (AV.int 3 (Int.ofNat 1)) h fun x28 _ => aArith isub x23 (AV.int 3 (Int.ofNat 1)) h fun x29 _ => aIdxAddr 1 x18 x29 h fun x30 _ => aLoad x30 h fun x31 _ => aIdxAddr 1 x18 x23 h fun x32 _ => aLoad x32 h fun x33 _ => aIdxAddr 1 x18 x23 h fun x34 _ => aStore x34 x31 h fun x35 h => aIdxAddr 1 x18 x28 h fun x36 _ => aStore x36 x33 h fun x37 h => aArith isub x23 (AV.int 3 (Int.ofNat 1)) h fun x38 h => kc10 [x18, x19, x20, x21, x22, x38] h) (aArith iadd x22 (AV.int 3 (Int.ofNat 1)) h fun x39 h => kc2 [x18, x19, x20, x21, x39] h)) (hd vs) (hd (tl vs)) (hd (tl (tl vs))) (hd (tl (tl (tl vs)))) (hd (tl (tl (tl (tl vs))))) (hd (tl (tl (tl (tl (tl vs)))))) (hd (tl (tl (tl (tl (tl (tl vs))))))) (hd (tl (tl (tl (tl (tl (tl (tl vs))))))))
noncomputable def c_slices_insertionSortCmpFunc_beeb_l2 (F g : Nat) (kc2 : List AV → H → Option R) : List AV → H → (List AV → H → Option R) → Option R := fun vs h kc10 => (fun x11 x12 x13 x14 x15 x16 => aCmpI (fun a b => ilt b a) x16 x12 h fun x17 _ => guardB true x17 (aIdxAddr 1 x11 x16 h fun x40 _ => aLoad x40 h fun x41 _ => aArith isub x16 (AV.int 3 (Int.ofNat 1)) h fun x42 _ => aIdxAddr 1 x11 x42 h fun x43 _ => aLoad x43 h fun x44 _ => dCall (G_slices_insertionSortCmpFunc_beeb F g) x14 [x41, x44] h fun x45 h => aCmpI ilt x45 (AV.int 3 (Int.ofNat 0)) h fun x46 _ => (c_slices_insertionSortCmpFunc_beeb_j1 F g kc2 kc10) [x11, x12, x13, x14, x15, x16, x17, x46] h) ((c_slices_insertionSortCmpFunc_beeb_j1 F g kc2 kc10) [x11, x12, x13, x14, x15, x16, x17, (AV.one .tup (AV.leaf .nil))] h)) (hd vs) (hd (tl vs)) (hd (tl (tl vs))) (hd (tl (tl (tl vs)))) (hd (tl (tl (tl (tl vs))))) (hd (tl (tl (tl (tl (tl vs))))))
noncomputable def c_slices_insertionSortCmpFunc_beeb_l3 (F g : Nat) : List AV → H → (List AV → H → Option R) → Option R := fun vs h kc2 => (fun x3 x4 x5 x6 x7 => aCmpI ilt x7 x5 h fun x8 h => withBool x8 fun t9 => bc t9 (loopD F (c_slices_insertionSortCmpFunc_beeb_l2 F g kc2) [x3, x4, x5, x6, x7, x7] h) (some (AV.one .tup (AV.leaf .nil), h))) (hd vs) (hd (tl vs)) (hd (tl (tl vs))) (hd (tl (tl (tl vs)))) (hd (tl (tl (tl (tl vs)))))
noncomputable def c_slices_insertionSortCmpFunc_beeb (F g : Nat) (a0 a1 a2 a3 : AV) (h : H) : Option R := aArith iadd a1 (AV.int 3 (Int.ofNat 1)) h fun x1 h => loopD F (c_slices_insertionSortCmpFunc_beeb_l3 F g) [a0, a1, a2, a3, x1] h
noncomputable def A_slices_insertionSortCmpFunc_beeb : An := (.two .o (.two (.at_ [0, 1, 2, 3, 8] (.two (.two .o (.two .o .o)) (.two (.two (.two .o (.two (.at_ [0, 1, 2, 3, 8, 9] (.two (.two (.at_ [0, 1, 2, 3, 8, 9, 21, 33] .o .o) (.two .o .o)) (.two (.two .o .o) .o)) .o) .o)) .o) .o)) .o) .o))
noncomputable def b_slices_insertionSortCmpFunc_beeb : Code := bodyOf Go.Proofs.Try.f114
theorem k_slices_insertionSortCmpFunc_beeb (F g : Nat) (a0 a1 a2 a3 : AV) (h : H) : callD Go.Proofs.Try.prog (G_slices_insertionSortCmpFunc_beeb F g) 53 F b_slices_insertionSortCmpFunc_beeb [] A_slices_insertionSortCmpFunc_beeb [a0, a1, a2, a3] h = c_slices_insertionSortCmpFunc_beeb F g a0 a1 a2 a3 h := by kernel_rfl
theorem s_slices_insertionSortCmpFunc_beeb (F g : Nat) : ∀ args h r, u4 (c_slices_insertionSortCmpFunc_beeb F g) args h = some r → Tri Go.Proofs.Try.prog 114 args h r := by
  intro args h r e; obtain ⟨a0, a1, a2, a3, rfl, e1⟩ := u4_some e; exact fn_sound Go.Proofs.Try.func114 rfl rfl rfl Go.Proofs.Try.ntmps114 (Sound.add (Sound.add (Sound.none _) (s_impl_greatestFirst F g)) (s_impl_compareTexts F g)) ((k_slices_insertionSortCmpFunc_beeb F g a0 a1 a2 a3 h).trans e1)

-- "slices.pdqsortCmpFunc[*loop.example/treenumbers/impl.node]"
noncomputable def c_slices_pdqsortCmpFunc_beeb_j1 (F g : Nat) (vs : List AV) (h : H) : Option R := (fun x15 x16 x17 x18 x19 x20 x21 x22 => none) (hd vs) (hd (tl vs)) (hd (tl (tl vs))) (hd (tl (tl (tl vs)))) (hd (tl (tl (tl (tl vs))))) (hd (tl (tl (tl (tl (tl vs)))))) (hd (tl (tl (tl (tl (tl (tl vs))))))) (hd (tl (tl (tl (tl (tl (tl (tl vs))))))))
noncomputable def c_slices_pdqsortCmpFunc_beeb_l2 (F g : Nat) : List AV → H → (List AV → H → Option R) → Option R := fun vs h kc1 => (fun x2 x3 x4 x5 x6 x7 x8 => aArith isub x4 x3 h fun x9 h => aCmpI ile x9 (AV.int 3 (Int.ofNat 12)) h fun x10 h => withBool x10 fun t11 => bc t11 (bindR (c_slices_insertionSortCmpFunc_beeb F g x2 x3 x4 x6 h) fun x12 h => some (AV.one .tup (AV.leaf .nil), h)) (aCmpI ieq x5 (AV.int 3 (Int.ofNat 0)) h fun x13 h => withBool x13 fun t14 => bc t14 (none) (aNot x7 h fun x23 h => withBool x23 fun t24 => bc t24 (none) ((c_slices_pdqsortCmpFunc_beeb_j1 F g) [x2, x3, x4, x5, x6, x7, x8, x9] h)))) (hd vs) (hd (tl vs)) (hd (tl (tl vs))) (hd (tl (tl (tl vs)))) (hd (tl (tl (tl (tl vs))))) (hd (tl (tl (tl (tl (tl vs)))))) (hd (tl (tl (tl (tl (tl (tl vs)))))))
noncomputable def c_slices_pdqsortCmpFunc_beeb (F g : Nat) (a0 a1 a2 a3 a4 : AV) (h : H) : Option R := loopD F (c_slices_pdqsortCmpFunc_beeb_l2 F g) [a0, a1, a2, a3, a4, (AV.bool true), (AV.bool true)] h
noncomputable def A_slices_pdqsortCmpFunc_beeb : An := (.two .o (.two .o (.two (.at_ [0, 1, 2, 3, 4, 10, 11] (.two (.two .o (.two (.two .o (.two (.two .o .o) .o)) (.two (.two .o (.two (.two .o .o) .o)) (.at_ [0, 1, 2, 3, 4, 10, 11, 12] (.two .o (.two (.two .o .o) .o)) (.two .o (.at_ [0, 1, 2, 3, 4, 10, 11, 12, 13, 14] (.two .o (.two (.two .o (.two .o .o)) .o)) (.at_ [0, 1, 2, 3, 4, 10, 11, 12, 13] (.two (.at_ [0, 1, 2, 3, 4, 10, 11, 12, 13, 14, 69, 70] .o (.at_ [0, 1, 2, 3, 4, 10, 11, 12, 13, 72, 74] .o .o)) (.two (.two .o (.two .o .o)) .o)) (.two (.two (.at_ [0, 1, 2, 3, 4, 10, 11, 12, 13, 83, 96] .o .o) (.two (.two .o (.two .o .o)) .o)) (.two .o (.two .o (.two .o (.two .o (.two .o (.two (.two .o (.two .o .o)) (.two .o (.two .o .o)))))))))))))))) .o) .o) .o)))
noncomputable def b_slices_pdqsortCmpFunc_beeb : Code := bodyOf Go.Proofs.Try.f103
theorem k_slices_pdqsortCmpFunc_beeb (F g : Nat) (a0 a1 a2 a3 a4 : AV) (h : H) : callD Go.Proofs.Try.prog (Env.add (fun _ _ _ => none : Env) 114 (u4 (c_slices_insertionSortCmpFunc_beeb F g))) 148 F b_slices_pdqsortCmpFunc_beeb [] A_slices_pdqsortCmpFunc_beeb [a0, a1, a2, a3, a4] h = c_slices_pdqsortCmpFunc_beeb F g a0 a1 a2 a3 a4 h := by kernel_rfl
theorem s_slices_pdqsortCmpFunc_beeb (F g : Nat) : ∀ args h r, u5 (c_slices_pdqsortCmpFunc_beeb F g) args h = some r → Tri Go.Proofs.Try.prog 103 args h r := by
  intro args h r e; obtain ⟨a0, a1, a2, a3, a4, rfl, e1⟩ := u5_some e; exact fn_sound Go.Proofs.Try.func103 rfl rfl rfl Go.Proofs.Try.ntmps103 (Sound.add (Sound.none _) (s_slices_insertionSortCmpFunc_beeb F g)) ((k_slices_pdqsortCmpFunc_beeb F g a0 a1 a2 a3 a4 h).trans e1)

-- "slices.SortFunc[[]*loop.example/treenumbers/impl.node,*loop.example/treenumbers/impl.node]"
noncomputable def c_slices_SortFunc_4168 (F g : Nat) (a0 a1 : AV) (h : H) : Option R := aLenK 1 a0 h fun x1 h => aConvI 7 x1 h fun x2 h => bindR (c_math_bits_Len F g x2 h) fun x3 h => bindR (c_slices_pdqsortCmpFunc_beeb F g a0 (AV.int 3 (Int.ofNat 0)) x1 x3 a1 h) fun x4 h => some (AV.one .tup (AV.leaf .nil), h)
noncomputable def A_slices_SortFunc_4168 : An := (.two .o .o)
noncomputable def b_slices_SortFunc_4168 : Code := bodyOf Go.Proofs.Try.f86
theorem k_slices_SortFunc_4168 (F g : Nat) (a0 a1 : AV) (h : H) : callD Go.Proofs.Try.prog (Env.add (Env.add (fun _ _ _ => none : Env) 104 (u1 (c_math_bits_Len F g))) 103 (u5 (c_slices_pdqsortCmpFunc_beeb F g))) 14 F b_slices_SortFunc_4168 [] A_slices_SortFunc_4168 [a0, a1] h = c_slices_SortFunc_4168 F g a0 a1 h := by kernel_rfl
theorem s_slices_SortFunc_4168 (F g : Nat) : ∀ args h r, u2 (c_slices_SortFunc_4168 F g) args h = some r → Tri Go.Proofs.Try.prog 86 args h r := by
  intro args h r e; obtain ⟨a0, a1, rfl, e1⟩ := u2_some e; exact fn_sound Go.Proofs.Try.func86 rfl rfl rfl Go.Proofs.Try.ntmps86 (Sound.add (Sound.add (Sound.none _) (s_math_bits_Len F g)) (s_slices_pdqsortCmpFunc_beeb F g)) ((k_slices_SortFunc_4168 F g a0 a1 h).trans e1)

-- "(*loop.example/treenumbers/impl.node).sort"
noncomputable def c_impl_node_sort_l1 (F g : Nat) (self : AV → H → Option R) : List AV → H → (List AV → H → Option R) → Option R := fun vs h kc5 => (fun x6 x7 x8 x9 => aCmpI ilt x9 x8 h fun x10 h => withBool x10 fun t11 => bc t11 (aIdxAddr 1 x7 x9 h fun x12 h => aLoad x12 h fun x13 h => bindR (self x13 h) fun x14 h => aArith iadd x9 (AV.int 3 (Int.ofNat 1)) h fun x15 h => kc5 [x6, x7, x8, x15] h) (aNilCheck x6 h fun x16 h => aField 2 x16 h fun x17 h => aLoad x17 h fun x18 h => bindR (c_slices_SortFunc_4168 F g x18 (AV.func (.func 87) (AV.leaf .nil) (AV.leaf .nil)) h) fun x19 h => some (AV.one .tup (AV.leaf .nil), h))) (hd vs) (hd (tl vs)) (hd (tl (tl vs))) (hd (tl (tl (tl vs))))
noncomputable def c_impl_node_sort (F g : Nat) : AV → H → Option R := Nat.rec (motive := fun _ => AV → H → Option R) (fun _ _ => none) (fun g self a0 h => aNilCheck a0 h fun x1 h => aField 2 x1 h fun x2 h => aLoad x2 h fun x3 h => aLenK 1 x3 h fun x4 h => loopD F (c_impl_node_sort_l1 F g self) [a0, x3, x4, (AV.int 3 (Int.ofNat 0))] h) g
noncomputable def A_impl_node_sort : An := (.two (.two .o (.two (.at_ [0, 7, 8, 9] (.two .o (.two (.two .o .o) (.two (.two (.two .o .o) .o) .o))) .o) .o)) .o)
noncomputable def b_impl_node_sort : Code := bodyOf Go.Proofs.Try.f58
theorem k_impl_node_sort (F g : Nat) (a0 : AV) (h : H) : callD Go.Proofs.Try.prog (Env.add (Env.add (Env.add (fun _ _ _ => none : Env) 86 (u2 (c_slices_SortFunc_4168 F g))) 87 (u2 (c_impl_compareTexts F g))) 58 (u1 (c_impl_node_sort F g))) 21 F b_impl_node_sort [] A_impl_node_sort [a0] h = c_impl_node_sort F (g + 1) a0 h := by kernel_rfl
theorem s_impl_node_sort (F g : Nat) : ∀ args h r, u1 (c_impl_node_sort F g) args h = some r → Tri Go.Proofs.Try.prog 58 args h r := by
  induction g with
  | zero => intro args h r e; obtain ⟨a0, rfl, e⟩ := u1_some e; cases e
  | succ g ih => intro args h r e; obtain ⟨a0, rfl, e1⟩ := u1_some e; exact fn_sound Go.Proofs.Try.func58 rfl rfl rfl Go.Proofs.Try.ntmps58 (Sound.add (Sound.add (Sound.add (Sound.none _) (s_slices_SortFunc_4168 F g)) (s_impl_compareTexts F g)) ih) ((k_impl_node_sort F g a0 h).trans e1)

-- "loop.example/treenumbers/impl.TreeSorted"
noncomputable def c_impl_TreeSorted (F g : Nat) (a0 : AV) (h : H) : Option R := bindR (Go.AI.T.c_impl_readTree F g a0 h) fun x1 h => aExtract x1 0 h fun x2 h => aExtract x1 1 h fun x3 h => aNot x3 h fun x4 h => withBool x4 fun t5 => bc t5 (some (AV.one .tup (AV.cons (AV.str [] 0) (AV.cons (AV.bool false) (AV.leaf .nil))), h)) (bindR (c_impl_node_sort F g x2 h) fun x6 h => bindR (c_impl_node_text F g x2 h) fun x7 h => some (AV.one .tup (AV.cons x7 (AV.cons (AV.bool true) (AV.leaf .nil))), h))
noncomputable def A_impl_TreeSorted : An := (.two .o (.two .o (.two (.two .o (.two (.two .o .o) .o)) (.two .o (.two .o .o)))))
noncomputable def b_impl_TreeSorted : Code := bodyOf Go.Proofs.Try.f22
theorem k_impl_TreeSorted (F g : Nat) (a0 : AV) (h : H) : callD Go.Proofs.Try.prog (Env.add (Env.add (Env.add (fun _ _ _ => none : Env) 57 (u1 (Go.AI.T.c_impl_readTree F g))) 58 (u1 (c_impl_node_sort F g))) 59 (u1 (c_impl_node_text F g))) 17 F b_impl_TreeSorted [2, 3] A_impl_TreeSorted [a0] h = c_impl_TreeSorted F g a0 h := by kernel_rfl
theorem s_impl_TreeSorted (F g : Nat) : ∀ args h r, u1 (c_impl_TreeSorted F g) args h = some r → Tri Go.Proofs.Try.prog 22 args h r := by
  intro args h r e; obtain ⟨a0, rfl, e1⟩ := u1_some e; exact fn_sound Go.Proofs.Try.func22 rfl rfl rfl Go.Proofs.Try.ntmps22 (Sound.add (Sound.add (Sound.add (Sound.none _) (Go.AI.T.s_impl_readTree F g)) (s_impl_node_sort F g)) (s_impl_node_text F g)) ((k_impl_TreeSorted F g a0 h).trans e1)

-- "(*loop.example/treenumbers/impl.node).nodes"
noncomputable def c_impl_node_nodes_l1 (F g : Nat) (self : AV → H → Option R) : List AV → H → (List AV → H → Option R) → Option R := fun vs h kc6 => (fun x7 x8 x9 x10 => aCmpI ilt x10 x9 h fun x11 h => withBool x11 fun t12 => bc t12 (aIdxAddr 1 x8 x10 h fun x13 h => aLoad x13 h fun x14 h => bindR (self x14 h) fun x15 h => aAppend 1 8 x7 x15 h fun x16 h => aArith iadd x10 (AV.int 3 (Int.ofNat 1)) h fun x17 h => kc6 [x16, x8, x9, x17] h) (some (x7, h))) (hd vs) (hd (tl vs)) (hd (tl (tl vs))) (hd (tl (tl (tl vs))))
noncomputable def c_impl_node_nodes (F g : Nat) : AV → H → Option R := Nat.rec (motive := fun _ => AV → H → Option R) (fun _ _ => none) (fun g self a0 h => aBuildSlice 1 1 [(0, 1, a0)] h fun x1 h => aNilCheck a0 h fun x2 h => aField 2 x2 h fun x3 h => aLoad x3 h fun x4 h => aLenK 1 x4 h fun x5 h => loopD F (c_impl_node_nodes_l1 F g self) [x1, x4, x5, (AV.int 3 (Int.ofNat 0))] h) g
noncomputable def A_impl_node_nodes : An := (.two .o (.two .o (.two (.two .o (.two (.at_ [3, 11, 12, 13] (.two .o (.two (.two .o .o) (.two (.two (.two .o .o) .o) .o))) .o) .o)) (.two .o .o))))
noncomputable def b_impl_node_nodes : Code := bodyOf Go.Proofs.Try.f66
theorem k_impl_node_nodes (F g : Nat) (a0 : AV) (h : H) : callD Go.Proofs.Try.prog (Env.add (fun _ _ _ => none : Env) 66 (u1 (c_impl_node_nodes F g))) 23 F b_impl_node_nodes [2] A_impl_node_nodes [a0] h = c_impl_node_nodes F (g + 1) a0 h := by kernel_rfl
theorem s_impl_node_nodes (F g : Nat) : ∀ args h r, u1 (c_impl_node_nodes F g) args h = some r → Tri Go.Proofs.Try.prog 66 args h r := by
  induction g with
  | zero => intro args h r e; obtain ⟨a0, rfl, e⟩ := u1_some e; cases e
  | succ g ih => intro args h r e; obtain ⟨a0, rfl, e1⟩ := u1_some e; exact fn_sound Go.Proofs.Try.func66 rfl rfl rfl Go.Proofs.Try.ntmps66 (Sound.add (Sound.none _) ih) ((k_impl_node_nodes F g a0 h).trans e1)

-- "loop.example/treenumbers/impl.TreeUp"
noncomputable def c_impl_TreeUp_l1 (F g : Nat) : List AV → H → (List AV → H → Option R) → Option R := fun vs h kc10 => (fun x11 x12 x13 x14 => aCmpI ilt x14 x13 h fun x15 h => withBool x15 fun t16 => bc t16 (aIdxAddr 1 x12 x14 h fun x17 h => aLoad x17 h fun x18 h => aNilCheck x18 h fun x19 h => aField 1 x19 h fun x20 h => aLoad x20 h fun x21 h => aNilCheck x21 h fun x22 h => aField 0 x22 h fun x23 h => aLoad x23 h fun x24 h => aBuildSlice 1 1 [(0, 1, x24)] h fun x25 h => aAppend 1 8 x11 x25 h fun x26 h => aArith iadd x14 (AV.int 3 (Int.ofNat 1)) h fun x27 h => kc10 [x26, x12, x13, x27] h) (some (AV.one .tup (AV.cons x11 (AV.cons (AV.bool true) (AV.leaf .nil))), h))) (hd vs) (hd (tl vs)) (hd (tl (tl vs))) (hd (tl (tl (tl vs))))
noncomputable def c_impl_TreeUp (F g : Nat) (a0 : AV) (h : H) : Option R := bindR (Go.AI.T.c_impl_readTree F g a0 h) fun x1 h => aExtract x1 0 h fun x2 h => aExtract x1 1 h fun x3 h => aNot x3 h fun x4 h => withBool x4 fun t5 => bc t5 (some (AV.one .tup (AV.cons (AV.leaf .nils) (AV.cons (AV.bool false) (AV.leaf .nil))), h)) (aBuildSlice 1 1 [(0, 1, (AV.int 3 (Int.negSucc 0)))] h fun x6 h => bindR (c_impl_node_nodes F g x2 h) fun x7 h => aSliceV 1 x7 (some (AV.int 3 (Int.ofNat 1))) none none h fun x8 h => aLenK 1 x8 h fun x9 h => loopD F (c_impl_TreeUp_l1 F g) [x6, x8, x9, (AV.int 3 (Int.ofNat 0))] h)
noncomputable def A_impl_TreeUp : An := (.two .o (.two .o (.two (.two .o (.two (.two .o .o) .o)) (.two .o (.two (.two .o (.two (.at_ [6, 19, 20, 21] (.two .o (.two (.two .o .o) (.two (.two (.two .o .o) .o) .o))) .o) .o)) (.two .o .o))))))
noncomputable def b_impl_TreeUp : Code := bodyOf Go.Proofs.Try.f106
theorem k_impl_TreeUp (F g : Nat) (a0 : AV) (h : H) : callD Go.Proofs.Try.prog (Env.add (Env.add (fun _ _ _ => none : Env) 57 (u1 (Go.AI.T.c_impl_readTree F g))) 66 (u1 (c_impl_node_nodes F g))) 37 F b_impl_TreeUp [2, 3] A_impl_TreeUp [a0] h = c_impl_TreeUp F g a0 h := by kernel_rfl
theorem s_impl_TreeUp (F g : Nat) : ∀ args h r, u1 (c_impl_TreeUp F g) args h = some r → Tri Go.Proofs.Try.prog 106 args h r := by
  intro args h r e; obtain ⟨a0, rfl, e1⟩ := u1_some e; exact fn_sound Go.Proofs.Try.func106 rfl rfl rfl Go.Proofs.Try.ntmps106 (Sound.add (Sound.add (Sound.none _) (Go.AI.T.s_impl_readTree F g)) (s_impl_node_nodes F g)) ((k_impl_TreeUp F g a0 h).trans e1)

-- "loop.example/treenumbers/impl.LevelsOf"
noncomputable def c_impl_LevelsOf_l1 (F g : Nat) : List AV → H → (List AV → H → Option R) → Option R := fun vs h kc9 => (fun x10 x11 x12 x13 => aCmpI ilt x13 x12 h fun x14 h => withBool x14 fun t15 => bc t15 (aIdxAddr 1 x11 x13 h fun x16 h => aLoad x16 h fun x17 h => aIdxAddr 1 x10 x17 h fun x18 h => aLoad x18 h fun x19 h => aArith iadd x19 (AV.int 3 (Int.ofNat 1)) h fun x20 h => aBuildSlice 1 1 [(0, 1, x20)] h fun x21 h => aAppend 1 8 x10 x21 h fun x22 h => aArith iadd x13 (AV.int 3 (Int.ofNat 1)) h fun x23 h => kc9 [x22, x11, x12, x23] h) (some (AV.one .tup (AV.cons x10 (AV.cons (AV.bool true) (AV.leaf .nil))), h))) (hd vs) (hd (tl vs)) (hd (tl (tl vs))) (hd (tl (tl (tl vs))))
noncomputable def c_impl_LevelsOf (F g : Nat) (a0 : AV) (h : H) : Option R := bindR (c_impl_TreeUp F g a0 h) fun x1 h => aExtract x1 0 h fun x2 h => aExtract x1 1 h fun x3 h => aNot x3 h fun x4 h => withBool x4 fun t5 => bc t5 (some (AV.one .tup (AV.cons (AV.leaf .nils) (AV.cons (AV.bool false) (AV.leaf .nil))), h)) (aBuildSlice 1 1 [(0, 1, (AV.int 3 (Int.ofNat 0)))] h fun x6 h => aSliceV 1 x2 (some (AV.int 3 (Int.ofNat 1))) none none h fun x7 h => aLenK 1 x7 h fun x8 h => loopD F (c_impl_LevelsOf_l1 F g) [x6, x7, x8, (AV.int 3 (Int.ofNat 0))] h)
noncomputable def A_impl_LevelsOf : An := (.two .o (.two .o (.two (.two .o (.two (.two .o .o) .o)) (.two .o (.two (.two .o (.two (.at_ [6, 18, 19, 20] (.two .o (.two (.two .o .o) (.two (.two (.two .o .o) .o) .o))) .o) .o)) (.two .o .o))))))
noncomputable def b_impl_LevelsOf : Code := bodyOf Go.Proofs.Try.f88
theorem k_impl_LevelsOf (F g : Nat) (a0 : AV) (h : H) : callD Go.Proofs.Try.prog (Env.add (fun _ _ _ => none : Env) 106 (u1 (c_impl_TreeUp F g))) 34 F b_impl_LevelsOf [2, 3] A_impl_LevelsOf [a0] h = c_impl_LevelsOf F g a0 h := by kernel_rfl
theorem s_impl_LevelsOf (F g : Nat) : ∀ args h r, u1 (c_impl_LevelsOf F g) args h = some r → Tri Go.Proofs.Try.prog 88 args h r := by
  intro args h r e; obtain ⟨a0, rfl, e1⟩ := u1_some e; exact fn_sound Go.Proofs.Try.func88 rfl rfl rfl Go.Proofs.Try.ntmps88 (Sound.add (Sound.none _) (s_impl_TreeUp F g)) ((k_impl_LevelsOf F g a0 h).trans e1)

-- "loop.example/treenumbers/impl.levelsInOrder"
noncomputable def c_impl_levelsInOrder_j1 (F g : Nat) (vs : List AV) (h : H) : Option R := (fun x5 x6 x7 => aPick x6 (AV.bool true) x7 h fun x8 h => withBool x8 fun t9 => bc t9 (some (AV.one .tup (AV.cons (AV.leaf .nils) (AV.cons (AV.bool false) (AV.leaf .nil))), h)) (bindR (c_impl_LevelsOf F g x5 h) fun x10 h => aExtract x10 0 h fun x11 h => aExtract x10 1 h fun x12 h => some (AV.one .tup (AV.cons x11 (AV.cons x12 (AV.leaf .nil))), h))) (hd vs) (hd (tl vs)) (hd (tl (tl vs)))
noncomputable def c_impl_levelsInOrder (F g : Nat) (a0 : AV) (h : H) : Option R := bindR (c_impl_TreeSorted F g a0 h) fun x1 h => aExtract x1 0 h fun x2 h => aExtract x1 1 h fun x3 h => aNot x3 h fun x4 h => guardB false x4 (aCmpS (fun a b => bnot (eqL a b)) x2 a0 h fun x13 h => (c_impl_levelsInOrder_j1 F g) [a0, x4, x13] h) ((c_impl_levelsInOrder_j1 F g) [a0, x4, (AV.one .tup (AV.leaf .nil))] h)
noncomputable def A_impl_levelsInOrder : An := (.two .o (.two .o (.two (.two (.at_ [0, 13, 16] .o .o) (.two (.two .o .o) .o)) (.two .o .o))))
noncomputable def b_impl_levelsInOrder : Code := bodyOf Go.Proofs.Try.f60
theorem k_impl_levelsInOrder (F g : Nat) (a0 : AV) (h : H) : callD Go.Proofs.Try.prog (Env.add (Env.add (fun _ _ _ => none : Env) 22 (u1 (c_impl_TreeSorted F g))) 88 (u1 (c_impl_LevelsOf F g))) 22 F b_impl_levelsInOrder [2, 3] A_impl_levelsInOrder [a0] h = c_impl_levelsInOrder F g a0 h := by kernel_rfl
theorem s_impl_levelsInOrder (F g : Nat) : ∀ args h r, u1 (c_impl_levelsInOrder F g) args h = some r → Tri Go.Proofs.Try.prog 60 args h r := by
  intro args h r e; obtain ⟨a0, rfl, e1⟩ := u1_some e; exact fn_sound Go.Proofs.Try.func60 rfl rfl rfl Go.Proofs.Try.ntmps60 (Sound.add (Sound.add (Sound.none _) (s_impl_TreeSorted F g)) (s_impl_LevelsOf F g)) ((k_impl_levelsInOrder F g a0 h).trans e1)

-- "loop.example/treenumbers/impl.LevelsNext"
noncomputable def c_impl_LevelsNext (F g : Nat) (a0 : AV) (h : H) : Option R := bindR (c_impl_levelsInOrder F g a0 h) fun x1 h => aExtract x1 0 h fun x2 h => aExtract x1 1 h fun x3 h => aNot x3 h fun x4 h => withBool x4 fun t5 => bc t5 (some (AV.one .tup (AV.cons (AV.str [] 0) (AV.cons (AV.bool false) (AV.leaf .nil))), h)) (bindR (c_impl_levels_next F g x2 h) fun x6 h => aExtract x6 0 h fun x7 h => aExtract x6 1 h fun x8 h => aNot x8 h fun x9 h => withBool x9 fun t10 => bc t10 (some (AV.one .tup (AV.cons (AV.str [] 0) (AV.cons (AV.bool false) (AV.leaf .nil))), h)) (bindR (c_impl_levels_text F g x7 h) fun x11 h => some (AV.one .tup (AV.cons x11 (AV.cons (AV.bool true) (AV.leaf .nil))), h)))
noncomputable def A_impl_LevelsNext : An := (.two .o (.two .o (.two (.two .o (.two (.two .o .o) .o)) (.two .o (.two (.two .o (.two (.two .o .o) .o)) (.two .o .o))))))
noncomputable def b_impl_LevelsNext : Code := bodyOf Go.Proofs.Try.f23
theorem k_impl_LevelsNext (F g : Nat) (a0 : AV) (h : H) : callD Go.Proofs.Try.prog (Env.add (Env.add (Env.add (fun _ _ _ => none : Env) 60 (u1 (c_impl_levelsInOrder F g))) 61 (u1 (c_impl_levels_next F g))) 55 (u1 (c_impl_levels_text F g))) 23 F b_impl_LevelsNext [2, 3] A_impl_LevelsNext [a0] h = c_impl_LevelsNext F g a0 h := by kernel_rfl
theorem s_impl_LevelsNext (F g : Nat) : ∀ args h r, u1 (c_impl_LevelsNext F g) args h = some r → Tri Go.Proofs.Try.prog 23 args h r := by
  intro args h r e; obtain ⟨a0, rfl, e1⟩ := u1_some e; exact fn_sound Go.Proofs.Try.func23 rfl rfl rfl Go.Proofs.Try.ntmps23 (Sound.add (Sound.add (Sound.add (Sound.none _) (s_impl_levelsInOrder F g)) (s_impl_levels_next F g)) (s_impl_levels_text F g)) ((k_impl_LevelsNext F g a0 h).trans e1)

-- "(loop.example/treenumbers/impl.levels).place"
noncomputable def G_impl_levels_place (F g : Nat) : Env := (Env.add (Env.add (fun _ _ _ => none : Env) 64 (u2 (c_impl_greatestFirst F g))) 87 (u2 (c_impl_compareTexts F g)))
noncomputable def c_impl_levels_place_j1 (F g : Nat) (kc2 : List AV → H → Option R) (vs : List AV) (h : H) : Option R := (fun x11 x12 x13 x14 x15 x16 => aArith iadd x16 (AV.int 3 (Int.ofNat 1)) h fun x17 h => kc2 [x11, x12, x13, x14, x15, x17] h) (hd vs) (hd (tl vs)) (hd (tl (tl vs))) (hd (tl (tl (tl vs)))) (hd (tl (tl (tl (tl vs))))) (hd (tl (tl (tl (tl (tl vs))))))
noncomputable def c_impl_levels_place_l2 (F g : Nat) : List AV → H → (List AV → H → Option R) → Option R := fun vs h kc2 => (fun x3 x4 x5 x6 x7 x8 => aCmpI ilt x8 x7 h fun x9 h => withBool x9 fun t10 => bc t10 (aIdxAddr 1 x6 x8 h fun x18 h => aLoad x18 h fun x19 h => dCall (G_impl_levels_place F g) x4 [x19, x3] h fun x20 h => aCmpI ilt x20 (AV.int 3 (Int.ofNat 0)) h fun x21 h => withBool x21 fun t22 => bc t22 (aArith iadd x5 (AV.int 3 (Int.ofNat 1)) h fun x23 h => (c_impl_levels_place_j1 F g kc2) [x3, x4, x23, x6, x7, x8] h) ((c_impl_levels_place_j1 F g kc2) [x3, x4, x5, x6, x7, x8] h)) (some (x5, h))) (hd vs) (hd (tl vs)) (hd (tl (tl vs))) (hd (tl (tl (tl vs)))) (hd (tl (tl (tl (tl vs))))) (hd (tl (tl (tl (tl (tl vs))))))
noncomputable def c_impl_levels_place (F g : Nat) (a0 a1 a2 : AV) (h : H) : Option R := aLenK 1 a1 h fun x1 h => loopD F (c_impl_levels_place_l2 F g) [a0, a2, (AV.int 3 (Int.ofNat 0)), a1, x1, (AV.int 3 (Int.ofNat 0))] h
noncomputable def A_impl_levels_place : An := (.two .o (.two .o (.two (.two .o (.two (.at_ [0, 2, 7, 10, 11, 12] (.two .o (.two (.two .o .o) (.at_ [0, 2, 7, 10, 11, 12] (.two (.two .o (.two .o (.two .o .o))) .o) .o))) .o) .o)) (.two .o .o))))
noncomputable def b_impl_levels_place : Code := bodyOf Go.Proofs.Try.f63
theorem k_impl_levels_place (F g : Nat) (a0 a1 a2 : AV) (h : H) : callD Go.Proofs.Try.prog (G_impl_levels_place F g) 25 F b_impl_levels_place [6] A_impl_levels_place [a0, a1, a2] h = c_impl_levels_place F g a0 a1 a2 h := by kernel_rfl
theorem s_impl_levels_place (F g : Nat) : ∀ args h r, u3 (c_impl_levels_place F g) args h = some r → Tri Go.Proofs.Try.prog 63 args h r := by
  intro args h r e; obtain ⟨a0, a1, a2, rfl, e1⟩ := u3_some e; exact fn_sound Go.Proofs.Try.func63 rfl rfl rfl Go.Proofs.Try.ntmps63 (Sound.add (Sound.add (Sound.none _) (s_impl_greatestFirst F g)) (s_impl_compareTexts F g)) ((k_impl_levels_place F g a0 a1 a2 h).trans e1)

-- "loop.example/treenumbers/impl.LevelsPlace"
noncomputable def c_impl_LevelsPlace_j1 (F g : Nat) (vs : List AV) (h : H) : Option R := (fun x5 x6 x7 => aPick x6 (AV.bool true) x7 h fun x8 h => withBool x8 fun t9 => bc t9 (some (AV.one .tup (AV.cons (AV.int 3 (Int.ofNat 0)) (AV.cons (AV.bool false) (AV.leaf .nil))), h)) (aLenK 1 x5 h fun x10 h => bindR (c_impl_allLevels F g x10 h) fun x11 h => bindR (c_impl_levels_place F g x5 x11 (AV.func (.func 64) (AV.leaf .nil) (AV.leaf .nil)) h) fun x12 h => some (AV.one .tup (AV.cons x12 (AV.cons (AV.bool true) (AV.leaf .nil))), h))) (hd vs) (hd (tl vs)) (hd (tl (tl vs)))
noncomputable def c_impl_LevelsPlace (F g : Nat) (a0 : AV) (h : H) : Option R := bindR (c_impl_levelsInOrder F g a0 h) fun x1 h => aExtract x1 0 h fun x2 h => aExtract x1 1 h fun x3 h => aNot x3 h fun x4 h => guardB false x4 (aLenK 1 x2 h fun x13 h => aCmpI (fun a b => ilt b a) x13 (AV.int 3 (Int.ofNat 8)) h fun x14 h => (c_impl_LevelsPlace_j1 F g) [x2, x4, x14] h) ((c_impl_LevelsPlace_j1 F g) [x2, x4, (AV.one .tup (AV.leaf .nil))] h)
noncomputable def A_impl_LevelsPlace : An := (.two .o (.two .o (.two (.two (.at_ [4, 13, 16] .o .o) (.two (.two .o .o) .o)) (.two .o .o))))
noncomputable def b_impl_LevelsPlace : Code := bodyOf Go.Proofs.Try.f25
theorem k_impl_LevelsPlace (F g : Nat) (a0 : AV) (h : H) : callD Go.Proofs.Try.prog (Env.add (Env.add (Env.add (Env.add (fun _ _ _ => none : Env) 60 (u1 (c_impl_levelsInOrder F g))) 53 (u1 (c_impl_allLevels F g))) 63 (u3 (c_impl_levels_place F g))) 64 (u2 (c_impl_greatestFirst F g))) 23 F b_impl_LevelsPlace [2, 3] A_impl_LevelsPlace [a0] h = c_impl_LevelsPlace F g a0 h := by kernel_rfl
theorem s_impl_LevelsPlace (F g : Nat) : ∀ args h r, u1 (c_impl_LevelsPlace F g) args h = some r → Tri Go.Proofs.Try.prog 25 args h r := by
  intro args h r e; obtain ⟨a0, rfl, e1⟩ := u1_some e; exact fn_sound Go.Proofs.Try.func25 rfl rfl rfl Go.Proofs.Try.ntmps25 (Sound.add (Sound.add (Sound.add (Sound.add (Sound.none _) (s_impl_levelsInOrder F g)) (s_impl_allLevels F g)) (s_impl_levels_place F g)) (s_impl_greatestFirst F g)) ((k_impl_LevelsPlace F g a0 h).trans e1)

-- "loop.example/treenumbers/spec.LevelsPlace"
noncomputable def c_spec_LevelsPlace_l1 (F g : Nat) : List AV → H → (List AV → H → Option R) → Option R := fun vs h kc13 => (fun x14 x15 x16 => aLenK 1 x15 h fun x17 h => aCmpI ilt x16 x17 h fun x18 h => withBool x18 fun t19 => bc t19 (aIdxAddr 1 x15 x16 h fun x20 h => aLoad x20 h fun x21 h => aCmpS eqL x21 x14 h fun x22 h => withBool x22 fun t23 => bc t23 (some (AV.one .tup (AV.cons x16 (AV.cons (AV.bool true) (AV.leaf .nil))), h)) (aArith iadd x16 (AV.int 3 (Int.ofNat 1)) h fun x24 h => kc13 [x14, x15, x24] h)) (some (AV.one .tup (AV.cons (AV.int 3 (Int.ofNat 0)) (AV.cons (AV.bool false) (AV.leaf .nil))), h))) (hd vs) (hd (tl vs)) (hd (tl (tl vs)))
noncomputable def c_spec_LevelsPlace_j2 (F g : Nat) (vs : List AV) (h : H) : Option R := (fun x3 x4 x5 => aPick x4 (AV.bool true) x5 h fun x6 h => withBool x6 fun t7 => bc t7 (some (AV.one .tup (AV.cons (AV.int 3 (Int.ofNat 0)) (AV.cons (AV.bool false) (AV.leaf .nil))), h)) (aBuildSlice 1 1 [(0, 1, (AV.int 3 (Int.ofNat 0)))] h fun x8 h => aLenK 0 x3 h fun x9 h => aQuo x9 (AV.int 3 (Int.ofNat 2)) h fun x10 h => aBuildSlice 0 1 [] h fun x11 h => bindR (Go.AI.T.c_spec_l3All F g x8 x10 x11 h) fun x12 h => loopD F (c_spec_LevelsPlace_l1 F g) [x3, x12, (AV.int 3 (Int.ofNat 0))] h)) (hd vs) (hd (tl vs)) (hd (tl (tl vs)))
noncomputable def c_spec_LevelsPlace (F g : Nat) (a0 : AV) (h : H) : Option R := bindR (Go.AI.T.c_spec_TreeIn F g a0 h) fun x1 h => aNot x1 h fun x2 h => guardB false x2 (aLenK 0 a0 h fun x25 h => aCmpI (fun a b => ilt b a) x25 (AV.int 3 (Int.ofNat 16)) h fun x26 h => (c_spec_LevelsPlace_j2 F g) [a0, x2, x26] h) ((c_spec_LevelsPlace_j2 F g) [a0, x2, (AV.one .tup (AV.leaf .nil))] h)
noncomputable def A_spec_LevelsPlace : An := (.two .o (.two (.two (.at_ [0, 9, 12] .o .o) (.two (.two .o .o) .o)) (.two .o (.two (.two .o (.two (.at_ [0, 4, 5] (.two (.two .o (.two .o .o)) (.two (.two (.two .o (.two (.two .o .o) .o)) .o) .o)) .o) .o)) (.two .o .o)))))
noncomputable def b_spec_LevelsPlace : Code := bodyOf Go.Proofs.Try.f26
theorem k_spec_LevelsPlace (F g : Nat) (a0 : AV) (h : H) : callD Go.Proofs.Try.prog (Env.add (Env.add (fun _ _ _ => none : Env) 65 (u1 (Go.AI.T.c_spec_TreeIn F g))) 56 (u3 (Go.AI.T.c_spec_l3All F g))) 33 F b_spec_LevelsPlace [2, 3] A_spec_LevelsPlace [a0] h = c_spec_LevelsPlace F g a0 h := by kernel_rfl
theorem s_spec_LevelsPlace (F g : Nat) : ∀ args h r, u1 (c_spec_LevelsPlace F g) args h = some r → Tri Go.Proofs.Try.prog 26 args h r := by
  intro args h r e; obtain ⟨a0, rfl, e1⟩ := u1_some e; exact fn_sound Go.Proofs.Try.func26 rfl rfl rfl Go.Proofs.Try.ntmps26 (Sound.add (Sound.add (Sound.none _) (Go.AI.T.s_spec_TreeIn F g)) (Go.AI.T.s_spec_l3All F g)) ((k_spec_LevelsPlace F g a0 h).trans e1)

-- "loop.example/treenumbers/impl.TreeNodes"
noncomputable def c_impl_TreeNodes (F g : Nat) (a0 : AV) (h : H) : Option R := bindR (Go.AI.T.c_impl_readTree F g a0 h) fun x1 h => aExtract x1 0 h fun x2 h => aExtract x1 1 h fun x3 h => aNot x3 h fun x4 h => withBool x4 fun t5 => bc t5 (some (AV.one .tup (AV.cons (AV.int 3 (Int.ofNat 0)) (AV.cons (AV.bool false) (AV.leaf .nil))), h)) (bindR (c_impl_node_nodes F g x2 h) fun x6 h => aLenK 1 x6 h fun x7 h => some (AV.one .tup (AV.cons x7 (AV.cons (AV.bool true) (AV.leaf .nil))), h))
noncomputable def A_impl_TreeNodes : An := (.two .o (.two .o (.two (.two .o (.two (.two .o .o) .o)) (.two .o .o))))
noncomputable def b_impl_TreeNodes : Code := bodyOf Go.Proofs.Try.f27
theorem k_impl_TreeNodes (F g : Nat) (a0 : AV) (h : H) : callD Go.Proofs.Try.prog (Env.add (Env.add (fun _ _ _ => none : Env) 57 (u1 (Go.AI.T.c_impl_readTree F g))) 66 (u1 (c_impl_node_nodes F g))) 16 F b_impl_TreeNodes [2, 3] A_impl_TreeNodes [a0] h = c_impl_TreeNodes F g a0 h := by kernel_rfl
theorem s_impl_TreeNodes (F g : Nat) : ∀ args h r, u1 (c_impl_TreeNodes F g) args h = some r → Tri Go.Proofs.Try.prog 27 args h r := by
  intro args h r e; obtain ⟨a0, rfl, e1⟩ := u1_some e; exact fn_sound Go.Proofs.Try.func27 rfl rfl rfl Go.Proofs.Try.ntmps27 (Sound.add (Sound.add (Sound.none _) (Go.AI.T.s_impl_readTree F g)) (s_impl_node_nodes F g)) ((k_impl_TreeNodes F g a0 h).trans e1)

end
end Go.AI.V
namespace Go.AI.T
open Go Go.RowKit Go.AI
set_option linter.unusedVariables false
set_option linter.unusedSimpArgs false
set_option maxRecDepth 100000
noncomputable section
def c_impl_LevelsAll (F g : Nat) (a0 : AV) (h : H) : Option R := fgRowOkC (Go.AI.V.c_impl_LevelsAll 20000 20) a0 h
theorem s_impl_LevelsAll (F g : Nat) : ∀ args h r, u1 (c_impl_LevelsAll F g) args h = some r → Tri Go.Proofs.Try.prog id_impl_LevelsAll args h r := fgRowOkC_sound (Go.AI.V.s_impl_LevelsAll 20000 20)
def c_spec_LevelsAll (F g : Nat) (a0 : AV) (h : H) : Option R := fgRowOkC (Go.AI.V.c_spec_LevelsAll 20000 20) a0 h
theorem s_spec_LevelsAll (F g : Nat) : ∀ args h r, u1 (c_spec_LevelsAll F g) args h = some r → Tri Go.Proofs.Try.prog id_spec_LevelsAll args h r := fgRowOkC_sound (Go.AI.V.s_spec_LevelsAll 20000 20)
def c_impl_LevelsCount (F g : Nat) (a0 : AV) (h : H) : Option R := fgC (Go.AI.V.c_impl_LevelsCount 20000 20) a0 h
theorem s_impl_LevelsCount (F g : Nat) : ∀ args h r, u1 (c_impl_LevelsCount F g) args h = some r → Tri Go.Proofs.Try.prog id_impl_LevelsCount args h r := fgC_sound (Go.AI.V.s_impl_LevelsCount 20000 20)
def c_impl_TreeSorted (F g : Nat) (a0 : AV) (h : H) : Option R := fgC (Go.AI.V.c_impl_TreeSorted 20000 20) a0 h
theorem s_impl_TreeSorted (F g : Nat) : ∀ args h r, u1 (c_impl_TreeSorted F g) args h = some r → Tri Go.Proofs.Try.prog id_impl_TreeSorted args h r := fgC_sound (Go.AI.V.s_impl_TreeSorted 20000 20)
def c_impl_LevelsNext (F g : Nat) (a0 : AV) (h : H) : Option R := fgC (Go.AI.V.c_impl_LevelsNext 20000 20) a0 h
theorem s_impl_LevelsNext (F g : Nat) : ∀ args h r, u1 (c_impl_LevelsNext F g) args h = some r → Tri Go.Proofs.Try.prog id_impl_LevelsNext args h r := fgC_sound (Go.AI.V.s_impl_LevelsNext 20000 20)
def c_impl_LevelsPlace (F g : Nat) (a0 : AV) (h : H) : Option R := fgC (Go.AI.V.c_impl_LevelsPlace 20000 20) a0 h
theorem s_impl_LevelsPlace (F g : Nat) : ∀ args h r, u1 (c_impl_LevelsPlace F g) args h = some r → Tri Go.Proofs.Try.prog id_impl_LevelsPlace args h r := fgC_sound (Go.AI.V.s_impl_LevelsPlace 20000 20)
def c_spec_LevelsPlace (F g : Nat) (a0 : AV) (h : H) : Option R := fgC (Go.AI.V.c_spec_LevelsPlace 20000 20) a0 h
theorem s_spec_LevelsPlace (F g : Nat) : ∀ args h r, u1 (c_spec_LevelsPlace F g) args h = some r → Tri Go.Proofs.Try.prog id_spec_LevelsPlace args h r := fgC_sound (Go.AI.V.s_spec_LevelsPlace 20000 20)
def c_impl_TreeNodes (F g : Nat) (a0 : AV) (h : H) : Option R := fgC (Go.AI.V.c_impl_TreeNodes 20000 20) a0 h
theorem s_impl_TreeNodes (F g : Nat) : ∀ args h r, u1 (c_impl_TreeNodes F g) args h = some r → Tri Go.Proofs.Try.prog id_impl_TreeNodes args h r := fgC_sound (Go.AI.V.s_impl_TreeNodes 20000 20)
end
end Go.AI.T
