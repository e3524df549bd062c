/- The functions that the law FnExactLevelsAll reaches, as the evaluator reads them. -/
import Derived.Test.YtmknipepkjbgjaaGiv
import Derived.Test.YtmknipepkjbgjaaLGiv
import Derived.Test.YtmknipepkjbgjaaProg
import Derived.KernelRfl
namespace Go.AI.T
open Go Go.RowKit Go.AI
set_option linter.unusedVariables false
set_option linter.unusedSimpArgs false
set_option maxRecDepth 100000
noncomputable section
-- "loop.example/treenumbers/spec.l6In"
noncomputable def c_spec_l6In_j1 (F g : Nat) (vs : List AV) (h : H) : Option R := (fun x2 x3 => aPick x2 x3 (AV.bool false) h fun x4 h => some (x4, h)) (hd vs) (hd (tl vs))
noncomputable def c_spec_l6In (F g : Nat) (a0 a1 a2 : AV) (h : H) : Option R := aCmpI (fun a b => ile b a) a0 a1 h fun x1 h => guardB true x1 (aCmpI ile a0 a2 h fun x5 h => (c_spec_l6In_j1 F g) [x1, x5] h) ((c_spec_l6In_j1 F g) [x1, (AV.one .tup (AV.leaf .nil))] h)
noncomputable def A_spec_l6In : An := (.two .o (.two (.at_ [10, 13] .o .o) .o))
noncomputable def b_spec_l6In : Code := bodyOf Go.Proofs.Try.f67
theorem k_spec_l6In (F g : Nat) (a0 a1 a2 : AV) (h : H) : callD Go.Proofs.Try.prog (fun _ _ _ => none : Env) 15 F b_spec_l6In [6] A_spec_l6In [a0, a1, a2] h = c_spec_l6In F g a0 a1 a2 h := by kernel_rfl
theorem s_spec_l6In (F g : Nat) : ∀ args h r, u3 (c_spec_l6In F g) args h = some r → Tri Go.Proofs.Try.prog 67 args h r := by
  intro args h r e; obtain ⟨a0, a1, a2, rfl, e1⟩ := u3_some e; exact fn_sound Go.Proofs.Try.func67 rfl rfl rfl Go.Proofs.Try.ntmps67 (Sound.none _) ((k_spec_l6In F g a0 a1 a2 h).trans e1)

-- "loop.example/treenumbers/spec.LevelsAll"
noncomputable def c_spec_LevelsAll (F g : Nat) (a0 : AV) (h : H) : Option R := bindR (c_spec_l6In F g a0 (AV.int 3 (Int.ofNat 1)) (AV.int 3 (Int.ofNat 8)) h) fun x1 h => aNot x1 h fun x2 h => withBool x2 fun t3 => bc t3 (aBuildSlice 0 1 [] h fun x4 h => some (AV.one .tup (AV.cons x4 (AV.cons (AV.bool false) (AV.leaf .nil))), h)) (aBuildSlice 1 1 [(0, 1, (AV.int 3 (Int.ofNat 0)))] h fun x5 h => aBuildSlice 0 1 [] h fun x6 h => bindR (c_spec_l3All F g x5 a0 x6 h) fun x7 h => some (AV.one .tup (AV.cons x7 (AV.cons (AV.bool true) (AV.leaf .nil))), h))
noncomputable def A_spec_LevelsAll : An := (.two .o (.two (.two .o (.two (.two .o .o) .o)) (.two .o .o)))
noncomputable def b_spec_LevelsAll : Code := bodyOf Go.Proofs.Try.f54
theorem k_spec_LevelsAll (F g : Nat) (a0 : AV) (h : H) : callD Go.Proofs.Try.prog (Env.add (Env.add (fun _ _ _ => none : Env) 67 (u3 (c_spec_l6In F g))) 88 (u3 (c_spec_l3All F g))) 12 F b_spec_LevelsAll [2, 3] A_spec_LevelsAll [a0] h = c_spec_LevelsAll F g a0 h := by kernel_rfl
theorem s_spec_LevelsAll (F g : Nat) : ∀ args h r, u1 (c_spec_LevelsAll F g) args h = some r → Tri Go.Proofs.Try.prog 54 args h r := by
  intro args h r e; obtain ⟨a0, rfl, e1⟩ := u1_some e; exact fn_sound Go.Proofs.Try.func54 rfl rfl rfl Go.Proofs.Try.ntmps54 (Sound.add (Sound.add (Sound.none _) (s_spec_l6In F g)) (s_spec_l3All F g)) ((k_spec_LevelsAll F g a0 h).trans e1)

-- "loop.example/treenumbers/impl.firstLevels"
noncomputable def c_impl_firstLevels_l1 (F g : Nat) : List AV → H → (List AV → H → Option R) → Option R := fun vs h kc2 => (fun x3 x4 x5 => aCmpI ilt x5 x4 h fun x6 h => withBool x6 fun t7 => bc t7 (aBuildSlice 1 1 [(0, 1, x5)] h fun x8 h => aAppend 1 8 x3 x8 h fun x9 h => aArith iadd x5 (AV.int 3 (Int.ofNat 1)) h fun x10 h => kc2 [x9, x4, x10] h) (some (x3, h))) (hd vs) (hd (tl vs)) (hd (tl (tl vs)))
noncomputable def c_impl_firstLevels (F g : Nat) (a0 : AV) (h : H) : Option R := aBuildSlice 0 1 [] h fun x1 h => loopD F (c_impl_firstLevels_l1 F g) [x1, a0, (AV.int 3 (Int.ofNat 0))] h
noncomputable def A_impl_firstLevels : An := (.two .o (.two .o (.two (.two .o (.two (.at_ [3, 6, 7] (.two .o (.two (.two .o .o) (.two (.two (.two .o .o) .o) .o))) .o) .o)) (.two .o .o))))
noncomputable def b_impl_firstLevels : Code := bodyOf Go.Proofs.Try.f105
theorem k_impl_firstLevels (F g : Nat) (a0 : AV) (h : H) : callD Go.Proofs.Try.prog (fun _ _ _ => none : Env) 16 F b_impl_firstLevels [2] A_impl_firstLevels [a0] h = c_impl_firstLevels F g a0 h := by kernel_rfl
theorem s_impl_firstLevels (F g : Nat) : ∀ args h r, u1 (c_impl_firstLevels F g) args h = some r → Tri Go.Proofs.Try.prog 105 args h r := by
  intro args h r e; obtain ⟨a0, rfl, e1⟩ := u1_some e; exact fn_sound Go.Proofs.Try.func105 rfl rfl rfl Go.Proofs.Try.ntmps105 (Sound.none _) ((k_impl_firstLevels F g a0 h).trans e1)

-- "slices.Clone[loop.example/treenumbers/impl.levels,int]"
noncomputable def c_slices_Clone_234c (F g : Nat) (a0 : AV) (h : H) : Option R := aEq false 2 a0 (AV.leaf .nils) h fun x1 h => withBool x1 fun t2 => bc t2 (some ((AV.leaf .nils), h)) (aBuildSlice 0 1 [] h fun x3 h => aAppend 1 8 x3 a0 h fun x4 h => some (x4, h))
noncomputable def A_slices_Clone_234c : An := (.two .o (.two (.two .o (.two (.two .o .o) .o)) (.two .o .o)))
noncomputable def b_slices_Clone_234c : Code := bodyOf Go.Proofs.Try.f104
theorem k_slices_Clone_234c (F g : Nat) (a0 : AV) (h : H) : callD Go.Proofs.Try.prog (fun _ _ _ => none : Env) 8 F b_slices_Clone_234c [2] A_slices_Clone_234c [a0] h = c_slices_Clone_234c F g a0 h := by kernel_rfl
theorem s_slices_Clone_234c (F g : Nat) : ∀ args h r, u1 (c_slices_Clone_234c F g) args h = some r → Tri Go.Proofs.Try.prog 104 args h r := by
  intro args h r e; obtain ⟨a0, rfl, e1⟩ := u1_some e; exact fn_sound Go.Proofs.Try.func104 rfl rfl rfl Go.Proofs.Try.ntmps104 (Sound.none _) ((k_slices_Clone_234c F g a0 h).trans e1)

-- "(loop.example/treenumbers/impl.levels).next"
noncomputable def c_impl_levels_next_l1 (F g : Nat) : List AV → H → (List AV → H → Option R) → Option R := fun vs h kc29 => (fun x30 x31 x32 x33 => aLenK 1 x32 h fun x34 h => aCmpI ilt x33 x34 h fun x35 h => withBool x35 fun t36 => bc t36 (aArith isub x33 x30 h fun x37 h => aArith iadd x37 x31 h fun x38 h => aIdxAddr 1 x32 x38 h fun x39 h => aLoad x39 h fun x40 h => aIdxAddr 1 x32 x33 h fun x41 h => aStore x41 x40 h fun x42 h => aArith iadd x33 (AV.int 3 (Int.ofNat 1)) h fun x43 h => kc29 [x30, x31, x32, x43] h) (some (AV.one .tup (AV.cons x32 (AV.cons (AV.bool true) (AV.leaf .nil))), h))) (hd vs) (hd (tl vs)) (hd (tl (tl vs))) (hd (tl (tl (tl vs))))
noncomputable def c_impl_levels_next_l2 (F g : Nat) : List AV → H → (List AV → H → Option R) → Option R := fun vs h kc17 => (fun x18 x19 x20 => aIdxAddr 1 x18 x20 h fun x21 _ => aLoad x21 h fun x22 _ => aIdxAddr 1 x18 x19 h fun x23 _ => aLoad x23 h fun x24 _ => aCmpI (fun a b => ile b a) x22 x24 h fun x25 _ => withBool x25 fun t26 => bc t26 (aArith isub x20 (AV.int 3 (Int.ofNat 1)) h fun x27 h => kc17 [x18, x19, x27] h) (bindR (c_slices_Clone_234c F g x18 h) fun x28 h => loopD F (c_impl_levels_next_l1 F g) [x19, x20, x28, x19] h)) (hd vs) (hd (tl vs)) (hd (tl (tl vs)))
noncomputable def c_impl_levels_next_j3 (F g : Nat) (kc3 : List AV → H → Option R) (vs : List AV) (h : H) : Option R := (fun x7 x8 x9 x10 => aPick x9 x10 (AV.bool false) h fun x11 h => withBool x11 fun t12 => bc t12 (aArith isub x8 (AV.int 3 (Int.ofNat 1)) h fun x13 h => kc3 [x7, x13] h) (aCmpI ilt x8 (AV.int 3 (Int.ofNat 1)) h fun x14 h => withBool x14 fun t15 => bc t15 (some (AV.one .tup (AV.cons (AV.leaf .nils) (AV.cons (AV.bool false) (AV.leaf .nil))), h)) (aArith isub x8 (AV.int 3 (Int.ofNat 1)) h fun x16 h => loopD F (c_impl_levels_next_l2 F g) [x7, x8, x16] h))) (hd vs) (hd (tl vs)) (hd (tl (tl vs))) (hd (tl (tl (tl vs))))
noncomputable def c_impl_levels_next_l4 (F g : Nat) : List AV → H → (List AV → H → Option R) → Option R := fun vs h kc3 => (fun x4 x5 => aCmpI (fun a b => ilt b a) x5 (AV.int 3 (Int.ofNat 0)) h fun x6 h => guardB true x6 (aIdxAddr 1 x4 x5 h fun x44 h => aLoad x44 h fun x45 h => aCmpI ieq x45 (AV.int 3 (Int.ofNat 1)) h fun x46 h => (c_impl_levels_next_j3 F g kc3) [x4, x5, x6, x46] h) ((c_impl_levels_next_j3 F g kc3) [x4, x5, x6, (AV.one .tup (AV.leaf .nil))] h)) (hd vs) (hd (tl vs))
noncomputable def c_impl_levels_next (F g : Nat) (a0 : AV) (h : H) : Option R := aLenK 1 a0 h fun x1 h => aArith isub x1 (AV.int 3 (Int.ofNat 1)) h fun x2 h => loopD F (c_impl_levels_next_l4 F g) [a0, x2] h
noncomputable def A_impl_levels_next : An := (.two .o (.two .o (.two (.two (.at_ [0, 4] (.two (.two (.at_ [0, 4, 13, 18] .o .o) (.two .o .o)) (.two .o .o)) .o) .o) (.two (.two .o (.two (.two .o .o) .o)) (.two .o (.two (.two (.at_ [0, 4, 5] (.two (.two .o (.two .o .o)) (.two .o .o)) .o) .o) (.two .o (.two (.two .o (.two (.at_ [4, 5, 6, 7] (.two (.two .o (.two .o .o)) (.two (.two .o .o) .o)) .o) .o)) (.two .o .o)))))))))
noncomputable def b_impl_levels_next : Code := bodyOf Go.Proofs.Try.f85
theorem k_impl_levels_next (F g : Nat) (a0 : AV) (h : H) : callD Go.Proofs.Try.prog (Env.add (fun _ _ _ => none : Env) 104 (u1 (c_slices_Clone_234c F g))) 58 F b_impl_levels_next [2, 3] A_impl_levels_next [a0] h = c_impl_levels_next F g a0 h := by kernel_rfl
theorem s_impl_levels_next (F g : Nat) : ∀ args h r, u1 (c_impl_levels_next F g) args h = some r → Tri Go.Proofs.Try.prog 85 args h r := by
  intro args h r e; obtain ⟨a0, rfl, e1⟩ := u1_some e; exact fn_sound Go.Proofs.Try.func85 rfl rfl rfl Go.Proofs.Try.ntmps85 (Sound.add (Sound.none _) (s_slices_Clone_234c F g)) ((k_impl_levels_next F g a0 h).trans e1)

-- "loop.example/treenumbers/impl.allLevels"
noncomputable def c_impl_allLevels_l1 (F g : Nat) : List AV → H → (List AV → H → Option R) → Option R := fun vs h kc3 => (fun x4 x5 x6 => withBool x6 fun t7 => bc t7 (aBuildSlice 1 1 [(0, 1, x5)] h fun x8 h => aAppend 1 24 x4 x8 h fun x9 h => bindR (c_impl_levels_next F g x5 h) fun x10 h => aExtract x10 0 h fun x11 h => aExtract x10 1 h fun x12 h => kc3 [x9, x11, x12] h) (some (x4, h))) (hd vs) (hd (tl vs)) (hd (tl (tl vs)))
noncomputable def c_impl_allLevels (F g : Nat) (a0 : AV) (h : H) : Option R := aBuildSlice 0 1 [] h fun x1 h => bindR (c_impl_firstLevels F g a0 h) fun x2 h => loopD F (c_impl_allLevels_l1 F g) [x1, x2, (AV.bool true)] h
noncomputable def A_impl_allLevels : An := (.two .o (.two .o (.two .o (.two (.two (.at_ [3, 4, 5] (.two (.two .o (.two .o .o)) (.two (.two .o .o) .o)) .o) .o) (.two .o .o)))))
noncomputable def b_impl_allLevels : Code := bodyOf Go.Proofs.Try.f90
theorem k_impl_allLevels (F g : Nat) (a0 : AV) (h : H) : callD Go.Proofs.Try.prog (Env.add (Env.add (fun _ _ _ => none : Env) 105 (u1 (c_impl_firstLevels F g))) 85 (u1 (c_impl_levels_next F g))) 20 F b_impl_allLevels [2] A_impl_allLevels [a0] h = c_impl_allLevels F g a0 h := by kernel_rfl
theorem s_impl_allLevels (F g : Nat) : ∀ args h r, u1 (c_impl_allLevels F g) args h = some r → Tri Go.Proofs.Try.prog 90 args h r := by
  intro args h r e; obtain ⟨a0, rfl, e1⟩ := u1_some e; exact fn_sound Go.Proofs.Try.func90 rfl rfl rfl Go.Proofs.Try.ntmps90 (Sound.add (Sound.add (Sound.none _) (s_impl_firstLevels F g)) (s_impl_levels_next F g)) ((k_impl_allLevels F g a0 h).trans e1)

-- "(loop.example/treenumbers/impl.levels).text"
noncomputable def c_impl_levels_text_l1 (F g : Nat) : List AV → H → (List AV → H → Option R) → Option R := fun vs h kc2 => (fun x3 x4 x5 x6 x7 => aCmpI ilt x7 x6 h fun x8 h => withBool x8 fun t9 => bc t9 (aIdxAddr 1 x5 x7 h fun x10 h => aLoad x10 h fun x11 h => aArith isub x4 x11 h fun x12 h => bindR (c_strings_Repeat F g (AV.str [41] 1) x12 h) fun x13 h => aSAdd x13 (AV.str [40] 1) h fun x14 h => aSAdd x3 x14 h fun x15 h => aArith iadd x11 (AV.int 3 (Int.ofNat 1)) h fun x16 h => aArith iadd x7 (AV.int 3 (Int.ofNat 1)) h fun x17 h => kc2 [x15, x16, x5, x6, x17] h) (bindR (c_strings_Repeat F g (AV.str [41] 1) x4 h) fun x18 h => aSAdd x3 x18 h fun x19 h => some (x19, h))) (hd vs) (hd (tl vs)) (hd (tl (tl vs))) (hd (tl (tl (tl vs)))) (hd (tl (tl (tl (tl vs)))))
noncomputable def c_impl_levels_text (F g : Nat) (a0 : AV) (h : H) : Option R := aLenK 1 a0 h fun x1 h => loopD F (c_impl_levels_text_l1 F g) [(AV.str [] 0), (AV.int 3 (Int.ofNat 0)), a0, x1, (AV.int 3 (Int.ofNat 0))] h
noncomputable def A_impl_levels_text : An := (.two .o (.two .o (.two .o (.two (.two .o (.two (.at_ [3, 4, 7, 8, 9] (.two .o (.two (.two .o .o) (.two (.two (.two .o (.two .o .o)) .o) .o))) .o) .o)) (.two .o .o)))))
noncomputable def b_impl_levels_text : Code := bodyOf Go.Proofs.Try.f83
theorem k_impl_levels_text (F g : Nat) (a0 : AV) (h : H) : callD Go.Proofs.Try.prog (Env.add (fun _ _ _ => none : Env) 103 (u2 (c_strings_Repeat F g))) 27 F b_impl_levels_text [2] A_impl_levels_text [a0] h = c_impl_levels_text F g a0 h := by kernel_rfl
theorem s_impl_levels_text (F g : Nat) : ∀ args h r, u1 (c_impl_levels_text F g) args h = some r → Tri Go.Proofs.Try.prog 83 args h r := by
  intro args h r e; obtain ⟨a0, rfl, e1⟩ := u1_some e; exact fn_sound Go.Proofs.Try.func83 rfl rfl rfl Go.Proofs.Try.ntmps83 (Sound.add (Sound.none _) (s_strings_Repeat F g)) ((k_impl_levels_text F g a0 h).trans e1)

-- "loop.example/treenumbers/impl.LevelsAll"
noncomputable def c_impl_LevelsAll_l1 (F g : Nat) : List AV → H → (List AV → H → Option R) → Option R := fun vs h kc10 => (fun x11 x12 x13 x14 => aCmpI ilt x14 x13 h fun x15 h => withBool x15 fun t16 => bc t16 (aIdxAddr 1 x12 x14 h fun x17 h => aLoad x17 h fun x18 h => bindR (c_impl_levels_text F g x18 h) fun x19 h => aBuildSlice 1 1 [(0, 1, x19)] h fun x20 h => aAppend 1 16 x11 x20 h fun x21 h => aArith iadd x14 (AV.int 3 (Int.ofNat 1)) h fun x22 h => kc10 [x21, x12, x13, x22] h) (some (AV.one .tup (AV.cons x11 (AV.cons (AV.bool true) (AV.leaf .nil))), h))) (hd vs) (hd (tl vs)) (hd (tl (tl vs))) (hd (tl (tl (tl vs))))
noncomputable def c_impl_LevelsAll_j2 (F g : Nat) (vs : List AV) (h : H) : Option R := (fun x2 x3 x4 => aPick x3 (AV.bool true) x4 h fun x5 h => withBool x5 fun t6 => bc t6 (some (AV.one .tup (AV.cons (AV.leaf .nils) (AV.cons (AV.bool false) (AV.leaf .nil))), h)) (aBuildSlice 0 1 [] h fun x7 h => bindR (c_impl_allLevels F g x2 h) fun x8 h => aLenK 1 x8 h fun x9 h => loopD F (c_impl_LevelsAll_l1 F g) [x7, x8, x9, (AV.int 3 (Int.ofNat 0))] h)) (hd vs) (hd (tl vs)) (hd (tl (tl vs)))
noncomputable def c_impl_LevelsAll (F g : Nat) (a0 : AV) (h : H) : Option R := aCmpI ilt a0 (AV.int 3 (Int.ofNat 1)) h fun x1 h => guardB false x1 (aCmpI (fun a b => ilt b a) a0 (AV.int 3 (Int.ofNat 8)) h fun x23 h => (c_impl_LevelsAll_j2 F g) [a0, x1, x23] h) ((c_impl_LevelsAll_j2 F g) [a0, x1, (AV.one .tup (AV.leaf .nil))] h)
noncomputable def A_impl_LevelsAll : An := (.two .o (.two (.two (.at_ [0, 9, 11] .o .o) (.two (.two .o .o) .o)) (.two .o (.two (.two .o (.two (.at_ [4, 15, 16, 17] (.two .o (.two (.two .o .o) (.two (.two (.two .o .o) .o) .o))) .o) .o)) (.two .o .o)))))
noncomputable def b_impl_LevelsAll : Code := bodyOf Go.Proofs.Try.f55
theorem k_impl_LevelsAll (F g : Nat) (a0 : AV) (h : H) : callD Go.Proofs.Try.prog (Env.add (Env.add (fun _ _ _ => none : Env) 90 (u1 (c_impl_allLevels F g))) 83 (u1 (c_impl_levels_text F g))) 28 F b_impl_LevelsAll [2, 3] A_impl_LevelsAll [a0] h = c_impl_LevelsAll F g a0 h := by kernel_rfl
theorem s_impl_LevelsAll (F g : Nat) : ∀ args h r, u1 (c_impl_LevelsAll F g) args h = some r → Tri Go.Proofs.Try.prog 55 args h r := by
  intro args h r e; obtain ⟨a0, rfl, e1⟩ := u1_some e; exact fn_sound Go.Proofs.Try.func55 rfl rfl rfl Go.Proofs.Try.ntmps55 (Sound.add (Sound.add (Sound.none _) (s_impl_allLevels F g)) (s_impl_levels_text F g)) ((k_impl_LevelsAll F g a0 h).trans e1)

-- "loop.example/treenumbers/laws.eqStringS"
noncomputable def c_laws_eqStringS_l1 (F g : Nat) : List AV → H → (List AV → H → Option R) → Option R := fun vs h kc5 => (fun x6 x7 x8 => aLenK 1 x6 h fun x9 h => aCmpI ilt x8 x9 h fun x10 h => withBool x10 fun t11 => bc t11 (aIdxAddr 1 x6 x8 h fun x12 _ => aLoad x12 h fun x13 _ => aIdxAddr 1 x7 x8 h fun x14 _ => aLoad x14 h fun x15 _ => aCmpS (fun a b => bnot (eqL a b)) x13 x15 h fun x16 _ => withBool x16 fun t17 => bc t17 (some ((AV.bool false), h)) (aArith iadd x8 (AV.int 3 (Int.ofNat 1)) h fun x18 h => kc5 [x6, x7, x18] h)) (some ((AV.bool true), h))) (hd vs) (hd (tl vs)) (hd (tl (tl vs)))
noncomputable def c_laws_eqStringS (F g : Nat) (a0 a1 : AV) (h : H) : Option R := aLenK 1 a0 h fun x1 h => aLenK 1 a1 h fun x2 h => aCmpI (fun a b => bnot (ieq a b)) x1 x2 h fun x3 h => withBool x3 fun t4 => bc t4 (some ((AV.bool false), h)) (loopD F (c_laws_eqStringS_l1 F g) [a0, a1, (AV.int 3 (Int.ofNat 0))] h)
noncomputable def A_laws_eqStringS : An := (.two .o (.two (.two .o (.two (.two .o .o) .o)) (.two (.two .o (.two (.at_ [0, 1, 5] (.two (.two .o (.two .o .o)) (.two (.two (.two .o (.two (.two .o .o) .o)) .o) .o)) .o) .o)) (.two .o .o))))
noncomputable def b_laws_eqStringS : Code := bodyOf Go.Proofs.Try.f23
theorem k_laws_eqStringS (F g : Nat) (a0 a1 : AV) (h : H) : callD Go.Proofs.Try.prog (fun _ _ _ => none : Env) 26 F b_laws_eqStringS [4] A_laws_eqStringS [a0, a1] h = c_laws_eqStringS F g a0 a1 h := by kernel_rfl
theorem s_laws_eqStringS (F g : Nat) : ∀ args h r, u2 (c_laws_eqStringS F g) args h = some r → Tri Go.Proofs.Try.prog 23 args h r := by
  intro args h r e; obtain ⟨a0, a1, rfl, e1⟩ := u2_some e; exact fn_sound Go.Proofs.Try.func23 rfl rfl rfl Go.Proofs.Try.ntmps23 (Sound.none _) ((k_laws_eqStringS F g a0 a1 h).trans e1)

-- "loop.example/treenumbers/laws.markText"
noncomputable def c_laws_markText_l1 (F g : Nat) : List AV → H → (List AV → H → Option R) → Option R := fun vs h kc3 => (fun x4 x5 => aCmpI (fun a b => ilt b a) x4 (AV.int 3 (Int.ofNat 0)) h fun x6 h => withBool x6 fun t7 => bc t7 (aRem x4 (AV.int 3 (Int.ofNat 10)) h fun x8 h => aArith iadd (AV.int 3 (Int.ofNat 48)) x8 h fun x9 h => aConvI 4 x9 h fun x10 h => aBuildSlice 1 1 [(0, 1, x10)] h fun x11 h => aB2S x11 h fun x12 h => aSAdd x12 x5 h fun x13 h => aQuo x4 (AV.int 3 (Int.ofNat 10)) h fun x14 h => kc3 [x14, x13] h) (aSAdd (AV.str [109] 1) x5 h fun x15 h => some (x15, h))) (hd vs) (hd (tl vs))
noncomputable def c_laws_markText (F g : Nat) (a0 : AV) (h : H) : Option R := aCmpI ile a0 (AV.int 3 (Int.ofNat 0)) h fun x1 h => withBool x1 fun t2 => bc t2 (some ((AV.str [109, 48] 2), h)) (loopD F (c_laws_markText_l1 F g) [a0, (AV.str [] 0)] h)
noncomputable def A_laws_markText : An := (.two .o (.two (.two .o (.two (.two .o .o) .o)) (.two .o (.two (.two (.at_ [0, 3] (.two (.two .o (.two .o .o)) (.two (.two .o .o) .o)) .o) .o) (.two .o .o)))))
noncomputable def b_laws_markText : Code := bodyOf Go.Proofs.Try.f92
theorem k_laws_markText (F g : Nat) (a0 : AV) (h : H) : callD Go.Proofs.Try.prog (fun _ _ _ => none : Env) 20 F b_laws_markText [2] A_laws_markText [a0] h = c_laws_markText F g a0 h := by kernel_rfl
theorem s_laws_markText (F g : Nat) : ∀ args h r, u1 (c_laws_markText F g) args h = some r → Tri Go.Proofs.Try.prog 92 args h r := by
  intro args h r e; obtain ⟨a0, rfl, e1⟩ := u1_some e; exact fn_sound Go.Proofs.Try.func92 rfl rfl rfl Go.Proofs.Try.ntmps92 (Sound.none _) ((k_laws_markText F g a0 h).trans e1)

-- "loop.example/treenumbers/laws.markStringS"
noncomputable def c_laws_markStringS_l1 (F g : Nat) : List AV → H → (List AV → H → Option R) → Option R := fun vs h kc1 => (fun x2 x3 x4 => aLenK 1 x2 h fun x5 h => aCmpI ilt x4 x5 h fun x6 h => withBool x6 fun t7 => bc t7 (bindR (c_laws_markText F g x3 h) fun x8 h => aIdxAddr 1 x2 x4 h fun x9 h => aStore x9 x8 h fun x10 h => aArith iadd x3 (AV.int 3 (Int.ofNat 1)) h fun x11 h => aArith iadd x4 (AV.int 3 (Int.ofNat 1)) h fun x12 h => kc1 [x2, x11, x12] h) (some (x3, h))) (hd vs) (hd (tl vs)) (hd (tl (tl vs)))
noncomputable def c_laws_markStringS (F g : Nat) (a0 a1 : AV) (h : H) : Option R := loopD F (c_laws_markStringS_l1 F g) [a0, a1, (AV.int 3 (Int.ofNat 0))] h
noncomputable def A_laws_markStringS : An := (.two .o (.two (.two .o (.two (.at_ [0, 1, 5] (.two (.two .o (.two .o .o)) (.two (.two (.two .o .o) .o) .o)) .o) .o)) (.two .o .o)))
noncomputable def b_laws_markStringS : Code := bodyOf Go.Proofs.Try.f56
theorem k_laws_markStringS (F g : Nat) (a0 a1 : AV) (h : H) : callD Go.Proofs.Try.prog (Env.add (fun _ _ _ => none : Env) 92 (u1 (c_laws_markText F g))) 20 F b_laws_markStringS [4] A_laws_markStringS [a0, a1] h = c_laws_markStringS F g a0 a1 h := by kernel_rfl
theorem s_laws_markStringS (F g : Nat) : ∀ args h r, u2 (c_laws_markStringS F g) args h = some r → Tri Go.Proofs.Try.prog 56 args h r := by
  intro args h r e; obtain ⟨a0, a1, rfl, e1⟩ := u2_some e; exact fn_sound Go.Proofs.Try.func56 rfl rfl rfl Go.Proofs.Try.ntmps56 (Sound.add (Sound.none _) (s_laws_markText F g)) ((k_laws_markStringS F g a0 a1 h).trans e1)

-- "loop.example/treenumbers/laws.heldStringS"
noncomputable def c_laws_heldStringS_l1 (F g : Nat) : List AV → H → (List AV → H → Option R) → Option R := fun vs h kc1 => (fun x2 x3 x4 => aLenK 1 x2 h fun x5 h => aCmpI ilt x4 x5 h fun x6 h => withBool x6 fun t7 => bc t7 (aIdxAddr 1 x2 x4 h fun x8 _ => aLoad x8 h fun x9 _ => bindF (c_laws_markText F g x3 h.mark) h fun x10 _ => aCmpS (fun a b => bnot (eqL a b)) x9 x10 h fun x11 _ => withBool x11 fun t12 => bc t12 (some ((AV.int 3 (Int.negSucc 0)), h)) (aArith iadd x3 (AV.int 3 (Int.ofNat 1)) h fun x13 h => aArith iadd x4 (AV.int 3 (Int.ofNat 1)) h fun x14 h => kc1 [x2, x13, x14] h)) (some (x3, h))) (hd vs) (hd (tl vs)) (hd (tl (tl vs)))
noncomputable def c_laws_heldStringS (F g : Nat) (a0 a1 : AV) (h : H) : Option R := loopD F (c_laws_heldStringS_l1 F g) [a0, a1, (AV.int 3 (Int.ofNat 0))] h
noncomputable def A_laws_heldStringS : An := (.two .o (.two (.two .o (.two (.at_ [0, 1, 5] (.two (.two .o (.two .o .o)) (.two (.two (.two (.two .o (.two (.two .o .o) .o)) .o) .o) .o)) .o) .o)) (.two .o .o)))
noncomputable def b_laws_heldStringS : Code := bodyOf Go.Proofs.Try.f57
theorem k_laws_heldStringS (F g : Nat) (a0 a1 : AV) (h : H) : callD Go.Proofs.Try.prog (Env.add (fun _ _ _ => none : Env) 92 (u1 (c_laws_markText F g))) 22 F b_laws_heldStringS [4] A_laws_heldStringS [a0, a1] h = c_laws_heldStringS F g a0 a1 h := by kernel_rfl
theorem s_laws_heldStringS (F g : Nat) : ∀ args h r, u2 (c_laws_heldStringS F g) args h = some r → Tri Go.Proofs.Try.prog 57 args h r := by
  intro args h r e; obtain ⟨a0, a1, rfl, e1⟩ := u2_some e; exact fn_sound Go.Proofs.Try.func57 rfl rfl rfl Go.Proofs.Try.ntmps57 (Sound.add (Sound.none _) (s_laws_markText F g)) ((k_laws_heldStringS F g a0 a1 h).trans e1)

-- "loop.example/treenumbers/laws.FnExactLevelsAll"
noncomputable def c_laws_FnExactLevelsAll_j1 (F g : Nat) (vs : List AV) (h : H) : Option R := (fun x28 x29 x30 x31 => aPick x30 (AV.bool true) x31 h fun x32 h => withBool x32 fun t33 => bc t33 (some ((AV.bool false), h)) (bindR (c_laws_heldStringS F g x28 (AV.int 3 (Int.ofNat 1)) h) fun x34 h => aCmpI ilt x34 (AV.int 3 (Int.ofNat 0)) h fun x35 h => withBool x35 fun t36 => bc t36 (some ((AV.bool false), h)) (aCmpI (fun a b => bnot (ieq a b)) x34 x29 h fun x37 h => withBool x37 fun t38 => bc t38 (some ((AV.bool false), h)) (some ((AV.bool true), h))))) (hd vs) (hd (tl vs)) (hd (tl (tl vs))) (hd (tl (tl (tl vs))))
noncomputable def c_laws_FnExactLevelsAll_j2 (F g : Nat) (vs : List AV) (h : H) : Option R := (fun x9 x10 x11 x12 x13 x14 => aPick x13 (AV.bool true) x14 h fun x15 h => withBool x15 fun t16 => bc t16 (some ((AV.bool false), h)) (bindR (c_laws_markStringS F g x12 (AV.int 3 (Int.ofNat 1)) h) fun x17 h => bindR (c_laws_heldStringS F g x12 (AV.int 3 (Int.ofNat 1)) h) fun x18 h => aCmpI ilt x18 (AV.int 3 (Int.ofNat 0)) h fun x19 h => withBool x19 fun t20 => bc t20 (some ((AV.bool false), h)) (aCmpI (fun a b => bnot (ieq a b)) x18 x17 h fun x21 h => withBool x21 fun t22 => bc t22 (some ((AV.bool false), h)) (bindR (c_impl_LevelsAll F g x9 h) fun x23 h => aExtract x23 0 h fun x24 h => aExtract x23 1 h fun x25 h => bindR (c_laws_eqStringS F g x24 x10 h) fun x26 h => aNot x26 h fun x27 h => guardB false x27 (aEq true 0 x25 x11 h fun x39 h => (c_laws_FnExactLevelsAll_j1 F g) [x12, x17, x27, x39] h) ((c_laws_FnExactLevelsAll_j1 F g) [x12, x17, x27, (AV.one .tup (AV.leaf .nil))] h))))) (hd vs) (hd (tl vs)) (hd (tl (tl vs))) (hd (tl (tl (tl vs)))) (hd (tl (tl (tl (tl vs))))) (hd (tl (tl (tl (tl (tl vs))))))
noncomputable def c_laws_FnExactLevelsAll (F g : Nat) (a0 : AV) (h : H) : Option R := bindR (c_spec_LevelsAll F g a0 h) fun x1 h => aExtract x1 0 h fun x2 h => aExtract x1 1 h fun x3 h => bindR (c_impl_LevelsAll F g a0 h) fun x4 h => aExtract x4 0 h fun x5 h => aExtract x4 1 h fun x6 h => bindR (c_laws_eqStringS F g x5 x2 h) fun x7 h => aNot x7 h fun x8 h => guardB false x8 (aEq true 0 x6 x3 h fun x40 h => (c_laws_FnExactLevelsAll_j2 F g) [a0, x2, x3, x5, x8, x40] h) ((c_laws_FnExactLevelsAll_j2 F g) [a0, x2, x3, x5, x8, (AV.one .tup (AV.leaf .nil))] h)
noncomputable def A_laws_FnExactLevelsAll : An := (.two .o (.two .o (.two .o (.two (.two (.at_ [0, 3, 4, 5, 25, 28] .o .o) (.two (.two .o .o) .o)) (.two .o (.two .o (.two .o (.two .o (.two (.two .o (.two (.two .o .o) .o)) (.two (.two .o (.two (.two .o .o) .o)) (.two .o (.two (.two (.at_ [5, 7, 50, 53] .o .o) (.two (.two .o .o) .o)) (.two .o (.two .o (.two (.two .o (.two (.two .o .o) .o)) (.two (.two .o (.two (.two .o .o) .o)) (.two .o .o)))))))))))))))))
noncomputable def b_laws_FnExactLevelsAll : Code := bodyOf Go.Proofs.Try.f17
theorem k_laws_FnExactLevelsAll (F g : Nat) (a0 : AV) (h : H) : callD Go.Proofs.Try.prog (Env.add (Env.add (Env.add (Env.add (Env.add (fun _ _ _ => none : Env) 54 (u1 (c_spec_LevelsAll F g))) 55 (u1 (c_impl_LevelsAll F g))) 23 (u2 (c_laws_eqStringS F g))) 56 (u2 (c_laws_markStringS F g))) 57 (u2 (c_laws_heldStringS F g))) 63 F b_laws_FnExactLevelsAll [2] A_laws_FnExactLevelsAll [a0] h = c_laws_FnExactLevelsAll F g a0 h := by kernel_rfl
theorem s_laws_FnExactLevelsAll (F g : Nat) : ∀ args h r, u1 (c_laws_FnExactLevelsAll F g) args h = some r → Tri Go.Proofs.Try.prog 17 args h r := by
  intro args h r e; obtain ⟨a0, rfl, e1⟩ := u1_some e; exact fn_sound Go.Proofs.Try.func17 rfl rfl rfl Go.Proofs.Try.ntmps17 (Sound.add (Sound.add (Sound.add (Sound.add (Sound.add (Sound.none _) (s_spec_LevelsAll F g)) (s_impl_LevelsAll F g)) (s_laws_eqStringS F g)) (s_laws_markStringS F g)) (s_laws_heldStringS F g)) ((k_laws_FnExactLevelsAll F g a0 h).trans e1)

end
end Go.AI.T
