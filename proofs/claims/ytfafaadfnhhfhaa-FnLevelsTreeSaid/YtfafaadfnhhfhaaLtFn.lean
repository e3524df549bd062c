/- The functions that the law FnLevelsTree reaches, as the evaluator reads them. -/
import Derived.Test.YtfafaadfnhhfhaaDb
import Derived.Test.YtfafaadfnhhfhaaGiv
import Derived.Test.YtfafaadfnhhfhaaProg
import Derived.KernelRfl
namespace Go.AI.T
open Go Go.RowKit Go.AI
set_option linter.unusedVariables false
set_option linter.unusedSimpArgs false
set_option maxRecDepth 100000
noncomputable section
-- "loop.example/treenumbers/spec.l1Depths"
noncomputable def c_spec_l1Depths_j1 (F g : Nat) (kc2 : List AV → H → Option R) (vs : List AV) (h : H) : Option R := (fun x10 x11 x12 x13 => aArith iadd x13 (AV.int 3 (Int.ofNat 1)) h fun x14 h => kc2 [x10, x11, x12, x14] h) (hd vs) (hd (tl vs)) (hd (tl (tl vs))) (hd (tl (tl (tl vs))))
noncomputable def c_spec_l1Depths_l2 (F g : Nat) : List AV → H → (List AV → H → Option R) → Option R := fun vs h kc2 => (fun x3 x4 x5 x6 => aLenK 0 x3 h fun x7 h => aCmpI ilt x6 x7 h fun x8 h => withBool x8 fun t9 => bc t9 (aIdxStr x3 x6 h fun x15 h => aCmpI ieq x15 (AV.int 4 (Int.ofNat 40)) h fun x16 h => withBool x16 fun t17 => bc t17 (aBuildSlice 1 1 [(0, 1, x5)] h fun x18 h => aAppend 1 8 x4 x18 h fun x19 h => aArith iadd x5 (AV.int 3 (Int.ofNat 1)) h fun x20 h => (c_spec_l1Depths_j1 F g kc2) [x3, x19, x20, x6] h) (aArith isub x5 (AV.int 3 (Int.ofNat 1)) h fun x21 h => (c_spec_l1Depths_j1 F g kc2) [x3, x4, x21, x6] h)) (some (x4, h))) (hd vs) (hd (tl vs)) (hd (tl (tl vs))) (hd (tl (tl (tl vs))))
noncomputable def c_spec_l1Depths (F g : Nat) (a0 : AV) (h : H) : Option R := aBuildSlice 0 1 [] h fun x1 h => loopD F (c_spec_l1Depths_l2 F g) [a0, x1, (AV.int 3 (Int.ofNat 0)), (AV.int 3 (Int.ofNat 0))] h
noncomputable def A_spec_l1Depths : An := (.two .o (.two .o (.two .o (.two (.two .o (.two (.at_ [0, 3, 4, 5] (.two (.two .o (.two .o .o)) (.at_ [0, 3, 4, 5] (.two (.two .o (.two (.two .o .o) .o)) .o) .o)) .o) .o)) (.two .o .o)))))
noncomputable def b_spec_l1Depths : Code := bodyOf Go.Proofs.Try.f101
theorem k_spec_l1Depths (F g : Nat) (a0 : AV) (h : H) : callD Go.Proofs.Try.prog (fun _ _ _ => none : Env) 26 F b_spec_l1Depths [2] A_spec_l1Depths [a0] h = c_spec_l1Depths F g a0 h := by kernel_rfl
theorem s_spec_l1Depths (F g : Nat) : ∀ args h r, u1 (c_spec_l1Depths F g) args h = some r → Tri Go.Proofs.Try.prog 101 args h r := by
  intro args h r e; obtain ⟨a0, rfl, e1⟩ := u1_some e; exact fn_sound Go.Proofs.Try.func101 rfl rfl rfl Go.Proofs.Try.ntmps101 (Sound.none _) ((k_spec_l1Depths F g a0 h).trans e1)

-- "loop.example/treenumbers/spec.DrawLevelsTree"
noncomputable def c_raw_spec_DrawLevelsTree (F g : Nat) (a0 : AV) (h : H) : Option R := bindR (Go.AI.c_spec_l6Open F g a0 h) fun x1 h => bindR (Go.AI.c_spec_l6Rd_pick F g x1 (AV.int 3 (Int.ofNat 8)) h) fun x2 h => aArith iadd (AV.int 3 (Int.ofNat 1)) x2 h fun x3 h => bindR (Go.AI.c_spec_l91Nodes F g x1 x3 h) fun x4 h => bindR (c_spec_l1Depths F g x4 h) fun x5 h => bindR (Go.AI.c_spec_l6Rd_pick F g x1 (AV.int 3 (Int.ofNat 12)) h) fun x6 h => aCmpI ieq x6 (AV.int 3 (Int.ofNat 0)) h fun x7 h => withBool x7 fun t8 => bc t8 (aBuildSlice 1 1 [(0, 1, (AV.int 3 (Int.ofNat 0)))] h fun x9 h => aAppend 1 8 x5 x9 h fun x10 h => some (x10, h)) (aCmpI ieq x6 (AV.int 3 (Int.ofNat 1)) h fun x11 h => withBool x11 fun t12 => bc t12 (aLenK 1 x5 h fun x13 h => aArith isub x13 (AV.int 3 (Int.ofNat 1)) h fun x14 h => aIdxAddr 1 x5 x14 h fun x15 h => aLoad x15 h fun x16 h => aArith iadd x16 (AV.int 3 (Int.ofNat 2)) h fun x17 h => aBuildSlice 1 1 [(0, 1, x17)] h fun x18 h => aAppend 1 8 x5 x18 h fun x19 h => some (x19, h)) (aCmpI ieq x6 (AV.int 3 (Int.ofNat 2)) h fun x20 h => withBool x20 fun t21 => bc t21 (aSliceV 1 x5 (some (AV.int 3 (Int.ofNat 1))) none none h fun x22 h => some (x22, h)) (some (x5, h))))
noncomputable def A_raw_spec_DrawLevelsTree : An := (.two .o (.two .o (.two .o (.two (.two .o (.two (.two .o (.two (.two .o .o) (.two .o (.two (.two .o .o) (.two .o (.two (.two .o .o) .o)))))) .o)) (.two .o .o)))))
noncomputable def b_raw_spec_DrawLevelsTree : Code := bodyOf Go.Proofs.Try.f60
theorem k_raw_spec_DrawLevelsTree (F g : Nat) (a0 : AV) (h : H) : callD Go.Proofs.Try.prog (Env.add (Env.add (Env.add (Env.add (fun _ _ _ => none : Env) 103 (u1 (Go.AI.c_spec_l6Open F g))) 104 (u2 (Go.AI.c_spec_l6Rd_pick F g))) 113 (u2 (Go.AI.c_spec_l91Nodes F g))) 101 (u1 (c_spec_l1Depths F g))) 37 F b_raw_spec_DrawLevelsTree [2] A_raw_spec_DrawLevelsTree [a0] h = c_raw_spec_DrawLevelsTree F g a0 h := by kernel_rfl
theorem s_raw_spec_DrawLevelsTree (F g : Nat) : ∀ args h r, u1 (c_raw_spec_DrawLevelsTree F g) args h = some r → Tri Go.Proofs.Try.prog 60 args h r := by
  intro args h r e; obtain ⟨a0, rfl, e1⟩ := u1_some e; exact fn_sound Go.Proofs.Try.func60 rfl rfl rfl Go.Proofs.Try.ntmps60 (Sound.add (Sound.add (Sound.add (Sound.add (Sound.none _) (Go.AI.s_spec_l6Open F g)) (Go.AI.s_spec_l6Rd_pick F g)) (Go.AI.s_spec_l91Nodes F g)) (s_spec_l1Depths F g)) ((k_raw_spec_DrawLevelsTree F g a0 h).trans e1)

end
end Go.AI.T
namespace Go.AI.T
open Go Go.RowKit Go.AI
set_option linter.unusedVariables false
set_option linter.unusedSimpArgs false
set_option maxRecDepth 100000
noncomputable section
def c_spec_DrawLevelsTree (F g : Nat) (a0 : AV) (h : H) : Option R := quietRowC (c_raw_spec_DrawLevelsTree 20000 20) a0 h
theorem s_spec_DrawLevelsTree (F g : Nat) : ∀ args h r, u1 (c_spec_DrawLevelsTree F g) args h = some r → Tri Go.Proofs.Try.prog id_spec_DrawLevelsTree args h r := quietRowC_sound (s_raw_spec_DrawLevelsTree 20000 20)
end
end Go.AI.T
namespace Go.AI.T
open Go Go.RowKit Go.AI
set_option linter.unusedVariables false
set_option linter.unusedSimpArgs false
set_option maxRecDepth 100000
noncomputable section
-- "(loop.example/treenumbers/impl.levels).isTree"
noncomputable def c_impl_levels_isTree_j1 (F g : Nat) (kc14 : List AV → H → Option R) (vs : List AV) (h : H) : Option R := (fun x24 x25 x26 x27 x28 x29 => aPick x28 (AV.bool true) x29 h fun x30 h => withBool x30 fun t31 => bc t31 (some ((AV.bool false), h)) (aArith iadd x27 (AV.int 3 (Int.ofNat 1)) h fun x32 h => kc14 [x24, x25, x26, x32] h)) (hd vs) (hd (tl vs)) (hd (tl (tl vs))) (hd (tl (tl (tl vs)))) (hd (tl (tl (tl (tl vs))))) (hd (tl (tl (tl (tl (tl vs))))))
noncomputable def c_impl_levels_isTree_l2 (F g : Nat) : List AV → H → (List AV → H → Option R) → Option R := fun vs h kc14 => (fun x15 x16 x17 x18 => aCmpI ilt x18 x17 h fun x19 h => withBool x19 fun t20 => bc t20 (aIdxAddr 1 x16 x18 h fun x21 h => aLoad x21 h fun x22 h => aCmpI ilt x22 (AV.int 3 (Int.ofNat 1)) h fun x23 h => guardB false x23 (aIdxAddr 1 x15 x18 h fun x33 h => aLoad x33 h fun x34 h => aArith iadd x34 (AV.int 3 (Int.ofNat 1)) h fun x35 h => aCmpI (fun a b => ilt b a) x22 x35 h fun x36 h => (c_impl_levels_isTree_j1 F g kc14) [x15, x16, x17, x18, x23, x36] h) ((c_impl_levels_isTree_j1 F g kc14) [x15, x16, x17, x18, x23, (AV.one .tup (AV.leaf .nil))] h)) (some ((AV.bool true), h))) (hd vs) (hd (tl vs)) (hd (tl (tl vs))) (hd (tl (tl (tl vs))))
noncomputable def c_impl_levels_isTree_j3 (F g : Nat) (vs : List AV) (h : H) : Option R := (fun x7 x8 x9 => aPick x8 (AV.bool true) x9 h fun x10 h => withBool x10 fun t11 => bc t11 (some ((AV.bool false), h)) (aSliceV 1 x7 (some (AV.int 3 (Int.ofNat 1))) none none h fun x12 h => aLenK 1 x12 h fun x13 h => loopD F (c_impl_levels_isTree_l2 F g) [x7, x12, x13, (AV.int 3 (Int.ofNat 0))] h)) (hd vs) (hd (tl vs)) (hd (tl (tl vs)))
noncomputable def c_impl_levels_isTree_j4 (F g : Nat) (vs : List AV) (h : H) : Option R := (fun x3 x4 x5 => aPick x4 (AV.bool true) x5 h fun x6 h => guardB false x6 (aIdxAddr 1 x3 (AV.int 3 (Int.ofNat 0)) h fun x37 h => aLoad x37 h fun x38 h => aCmpI (fun a b => bnot (ieq a b)) x38 (AV.int 3 (Int.ofNat 0)) h fun x39 h => (c_impl_levels_isTree_j3 F g) [x3, x6, x39] h) ((c_impl_levels_isTree_j3 F g) [x3, x6, (AV.one .tup (AV.leaf .nil))] h)) (hd vs) (hd (tl vs)) (hd (tl (tl vs)))
noncomputable def c_impl_levels_isTree (F g : Nat) (a0 : AV) (h : H) : Option R := aLenK 1 a0 h fun x1 h => aCmpI ilt x1 (AV.int 3 (Int.ofNat 1)) h fun x2 h => guardB false x2 (aLenK 1 a0 h fun x40 h => aCmpI (fun a b => ilt b a) x40 (AV.int 3 (Int.ofNat 9)) h fun x41 h => (c_impl_levels_isTree_j4 F g) [a0, x2, x41] h) ((c_impl_levels_isTree_j4 F g) [a0, x2, (AV.one .tup (AV.leaf .nil))] h)
noncomputable def A_impl_levels_isTree : An := (.two .o (.two (.two (.at_ [0, 8, 11] .o (.at_ [0, 13, 17] .o .o)) (.two (.two .o .o) .o)) (.two (.two .o (.two (.at_ [0, 20, 21, 22] (.two .o (.two (.two .o .o) (.two (.two (.two .o (.two (.at_ [0, 20, 21, 22, 29, 36] .o .o) (.two (.two .o .o) .o))) .o) .o))) .o) .o)) (.two .o .o))))
noncomputable def b_impl_levels_isTree : Code := bodyOf Go.Proofs.Try.f111
theorem k_impl_levels_isTree (F g : Nat) (a0 : AV) (h : H) : callD Go.Proofs.Try.prog (fun _ _ _ => none : Env) 39 F b_impl_levels_isTree [2] A_impl_levels_isTree [a0] h = c_impl_levels_isTree F g a0 h := by kernel_rfl
theorem s_impl_levels_isTree (F g : Nat) : ∀ args h r, u1 (c_impl_levels_isTree F g) args h = some r → Tri Go.Proofs.Try.prog 111 args h r := by
  intro args h r e; obtain ⟨a0, rfl, e1⟩ := u1_some e; exact fn_sound Go.Proofs.Try.func111 rfl rfl rfl Go.Proofs.Try.ntmps111 (Sound.none _) ((k_impl_levels_isTree F g a0 h).trans e1)

-- "(loop.example/treenumbers/impl.levels).text"
noncomputable def c_impl_levels_text_l1 (F g : Nat) : List AV → H → (List AV → H → Option R) → Option R := fun vs h kc2 => (fun x3 x4 x5 x6 x7 => aCmpI ilt x7 x6 h fun x8 h => withBool x8 fun t9 => bc t9 (aIdxAddr 1 x5 x7 h fun x10 h => aLoad x10 h fun x11 h => aArith isub x4 x11 h fun x12 h => bindR (c_strings_Repeat F g (AV.str [41] 1) x12 h) fun x13 h => aSAdd x13 (AV.str [40] 1) h fun x14 h => aSAdd x3 x14 h fun x15 h => aArith iadd x11 (AV.int 3 (Int.ofNat 1)) h fun x16 h => aArith iadd x7 (AV.int 3 (Int.ofNat 1)) h fun x17 h => kc2 [x15, x16, x5, x6, x17] h) (bindR (c_strings_Repeat F g (AV.str [41] 1) x4 h) fun x18 h => aSAdd x3 x18 h fun x19 h => some (x19, h))) (hd vs) (hd (tl vs)) (hd (tl (tl vs))) (hd (tl (tl (tl vs)))) (hd (tl (tl (tl (tl vs)))))
noncomputable def c_impl_levels_text (F g : Nat) (a0 : AV) (h : H) : Option R := aLenK 1 a0 h fun x1 h => loopD F (c_impl_levels_text_l1 F g) [(AV.str [] 0), (AV.int 3 (Int.ofNat 0)), a0, x1, (AV.int 3 (Int.ofNat 0))] h
noncomputable def A_impl_levels_text : An := (.two .o (.two .o (.two .o (.two (.two .o (.two (.at_ [3, 4, 7, 8, 9] (.two .o (.two (.two .o .o) (.two (.two (.two .o (.two .o .o)) .o) .o))) .o) .o)) (.two .o .o)))))
noncomputable def b_impl_levels_text : Code := bodyOf Go.Proofs.Try.f112
theorem k_impl_levels_text (F g : Nat) (a0 : AV) (h : H) : callD Go.Proofs.Try.prog (Env.add (fun _ _ _ => none : Env) 143 (u2 (c_strings_Repeat F g))) 27 F b_impl_levels_text [2] A_impl_levels_text [a0] h = c_impl_levels_text F g a0 h := by kernel_rfl
theorem s_impl_levels_text (F g : Nat) : ∀ args h r, u1 (c_impl_levels_text F g) args h = some r → Tri Go.Proofs.Try.prog 112 args h r := by
  intro args h r e; obtain ⟨a0, rfl, e1⟩ := u1_some e; exact fn_sound Go.Proofs.Try.func112 rfl rfl rfl Go.Proofs.Try.ntmps112 (Sound.add (Sound.none _) (s_strings_Repeat F g)) ((k_impl_levels_text F g a0 h).trans e1)

-- "loop.example/treenumbers/impl.LevelsTree"
noncomputable def c_impl_LevelsTree (F g : Nat) (a0 : AV) (h : H) : Option R := bindR (c_impl_levels_isTree F g a0 h) fun x1 h => aNot x1 h fun x2 h => withBool x2 fun t3 => bc t3 (some (AV.one .tup (AV.cons (AV.str [] 0) (AV.cons (AV.bool false) (AV.leaf .nil))), h)) (bindR (c_impl_levels_text F g a0 h) fun x4 h => some (AV.one .tup (AV.cons x4 (AV.cons (AV.bool true) (AV.leaf .nil))), h))
noncomputable def A_impl_LevelsTree : An := (.two .o (.two (.two .o (.two (.two .o .o) .o)) (.two .o .o)))
noncomputable def b_impl_LevelsTree : Code := bodyOf Go.Proofs.Try.f59
theorem k_impl_LevelsTree (F g : Nat) (a0 : AV) (h : H) : callD Go.Proofs.Try.prog (Env.add (Env.add (fun _ _ _ => none : Env) 111 (u1 (c_impl_levels_isTree F g))) 112 (u1 (c_impl_levels_text F g))) 9 F b_impl_LevelsTree [2, 3] A_impl_LevelsTree [a0] h = c_impl_LevelsTree F g a0 h := by kernel_rfl
theorem s_impl_LevelsTree (F g : Nat) : ∀ args h r, u1 (c_impl_LevelsTree F g) args h = some r → Tri Go.Proofs.Try.prog 59 args h r := by
  intro args h r e; obtain ⟨a0, rfl, e1⟩ := u1_some e; exact fn_sound Go.Proofs.Try.func59 rfl rfl rfl Go.Proofs.Try.ntmps59 (Sound.add (Sound.add (Sound.none _) (s_impl_levels_isTree F g)) (s_impl_levels_text F g)) ((k_impl_LevelsTree F g a0 h).trans e1)

-- "loop.example/treenumbers/spec.l6In"
noncomputable def c_spec_l6In_j1 (F g : Nat) (vs : List AV) (h : H) : Option R := (fun x2 x3 => aPick x2 x3 (AV.bool false) h fun x4 h => some (x4, h)) (hd vs) (hd (tl vs))
noncomputable def c_spec_l6In (F g : Nat) (a0 a1 a2 : AV) (h : H) : Option R := aCmpI (fun a b => ile b a) a0 a1 h fun x1 h => guardB true x1 (aCmpI ile a0 a2 h fun x5 h => (c_spec_l6In_j1 F g) [x1, x5] h) ((c_spec_l6In_j1 F g) [x1, (AV.one .tup (AV.leaf .nil))] h)
noncomputable def A_spec_l6In : An := (.two .o (.two (.at_ [10, 13] .o .o) .o))
noncomputable def b_spec_l6In : Code := bodyOf Go.Proofs.Try.f131
theorem k_spec_l6In (F g : Nat) (a0 a1 a2 : AV) (h : H) : callD Go.Proofs.Try.prog (fun _ _ _ => none : Env) 15 F b_spec_l6In [6] A_spec_l6In [a0, a1, a2] h = c_spec_l6In F g a0 a1 a2 h := by kernel_rfl
theorem s_spec_l6In (F g : Nat) : ∀ args h r, u3 (c_spec_l6In F g) args h = some r → Tri Go.Proofs.Try.prog 131 args h r := by
  intro args h r e; obtain ⟨a0, a1, a2, rfl, e1⟩ := u3_some e; exact fn_sound Go.Proofs.Try.func131 rfl rfl rfl Go.Proofs.Try.ntmps131 (Sound.none _) ((k_spec_l6In F g a0 a1 a2 h).trans e1)

-- "loop.example/treenumbers/spec.l3In"
noncomputable def c_spec_l3In_j1 (F g : Nat) (kc1 : List AV → H → Option R) (vs : List AV) (h : H) : Option R := (fun x22 x23 x24 x25 => aPick x24 (AV.bool true) x25 h fun x26 _ => withBool x26 fun t27 => bc t27 (some ((AV.bool false), h)) (aArith iadd x23 (AV.int 3 (Int.ofNat 1)) h fun x28 h => kc1 [x22, x28] h)) (hd vs) (hd (tl vs)) (hd (tl (tl vs))) (hd (tl (tl (tl vs))))
noncomputable def c_spec_l3In_j2 (F g : Nat) (kc1 : List AV → H → Option R) (vs : List AV) (h : H) : Option R := (fun x17 x18 x19 x20 x21 => guardB false x19 (aPick x20 x21 (AV.bool false) h fun x29 _ => (c_spec_l3In_j1 F g kc1) [x17, x18, x19, x29] h) ((c_spec_l3In_j1 F g kc1) [x17, x18, x19, (AV.one .tup (AV.leaf .nil))] h)) (hd vs) (hd (tl vs)) (hd (tl (tl vs))) (hd (tl (tl (tl vs)))) (hd (tl (tl (tl (tl vs)))))
noncomputable def c_spec_l3In_j3 (F g : Nat) (kc1 : List AV → H → Option R) (vs : List AV) (h : H) : Option R := (fun x13 x14 x15 x16 => guardB true x16 (aIdxAddr 1 x13 x14 h fun x30 _ => aLoad x30 h fun x31 _ => aArith isub x14 (AV.int 3 (Int.ofNat 1)) h fun x32 _ => aIdxAddr 1 x13 x32 h fun x33 _ => aLoad x33 h fun x34 _ => aArith iadd x34 (AV.int 3 (Int.ofNat 1)) h fun x35 _ => bindR (c_spec_l6In F g x31 (AV.int 3 (Int.ofNat 1)) x35 h) fun x36 h => aNot x36 h fun x37 _ => (c_spec_l3In_j2 F g kc1) [x13, x14, x15, x16, x37] h) ((c_spec_l3In_j2 F g kc1) [x13, x14, x15, x16, (AV.one .tup (AV.leaf .nil))] h)) (hd vs) (hd (tl vs)) (hd (tl (tl vs))) (hd (tl (tl (tl vs))))
noncomputable def c_spec_l3In_j4 (F g : Nat) (kc1 : List AV → H → Option R) (vs : List AV) (h : H) : Option R := (fun x8 x9 x10 x11 => aPick x10 x11 (AV.bool false) h fun x12 _ => guardB false x12 (aCmpI (fun a b => ilt b a) x9 (AV.int 3 (Int.ofNat 0)) h fun x38 _ => (c_spec_l3In_j3 F g kc1) [x8, x9, x12, x38] h) ((c_spec_l3In_j3 F g kc1) [x8, x9, x12, (AV.one .tup (AV.leaf .nil))] h)) (hd vs) (hd (tl vs)) (hd (tl (tl vs))) (hd (tl (tl (tl vs))))
noncomputable def c_spec_l3In_l5 (F g : Nat) : List AV → H → (List AV → H → Option R) → Option R := fun vs h kc1 => (fun x2 x3 => aLenK 1 x2 h fun x4 h => aCmpI ilt x3 x4 h fun x5 h => withBool x5 fun t6 => bc t6 (aCmpI ieq x3 (AV.int 3 (Int.ofNat 0)) h fun x7 _ => guardB true x7 (aIdxAddr 1 x2 x3 h fun x39 _ => aLoad x39 h fun x40 _ => aCmpI (fun a b => bnot (ieq a b)) x40 (AV.int 3 (Int.ofNat 0)) h fun x41 _ => (c_spec_l3In_j4 F g kc1) [x2, x3, x7, x41] h) ((c_spec_l3In_j4 F g kc1) [x2, x3, x7, (AV.one .tup (AV.leaf .nil))] h)) (aLenK 1 x2 h fun x42 h => bindR (c_spec_l6In F g x42 (AV.int 3 (Int.ofNat 1)) (AV.int 3 (Int.ofNat 9)) h) fun x43 h => some (x43, h))) (hd vs) (hd (tl vs))
noncomputable def c_spec_l3In (F g : Nat) (a0 : AV) (h : H) : Option R := loopD F (c_spec_l3In_l5 F g) [a0, (AV.int 3 (Int.ofNat 0))] h
noncomputable def A_spec_l3In : An := (.two .o (.two (.two .o (.two (.at_ [0, 3] (.two (.two .o (.two .o .o)) (.two (.two (.two (.at_ [0, 3, 12, 17] .o (.at_ [0, 3, 19, 22] .o (.at_ [0, 3, 19, 22, 34] .o (.at_ [0, 3, 19, 35] .o .o)))) (.two (.two .o .o) .o)) .o) .o)) .o) .o)) (.two .o .o)))
noncomputable def b_spec_l3In : Code := bodyOf Go.Proofs.Try.f114
theorem k_spec_l3In (F g : Nat) (a0 : AV) (h : H) : callD Go.Proofs.Try.prog (Env.add (fun _ _ _ => none : Env) 131 (u3 (c_spec_l6In F g))) 40 F b_spec_l3In [2] A_spec_l3In [a0] h = c_spec_l3In F g a0 h := by kernel_rfl
theorem s_spec_l3In (F g : Nat) : ∀ args h r, u1 (c_spec_l3In F g) args h = some r → Tri Go.Proofs.Try.prog 114 args h r := by
  intro args h r e; obtain ⟨a0, rfl, e1⟩ := u1_some e; exact fn_sound Go.Proofs.Try.func114 rfl rfl rfl Go.Proofs.Try.ntmps114 (Sound.add (Sound.none _) (s_spec_l6In F g)) ((k_spec_l3In F g a0 h).trans e1)

-- "loop.example/treenumbers/spec.l3Tree"
noncomputable def c_spec_l3Tree_l1 (F g : Nat) (kc1 : List AV → H → Option R) : List AV → H → (List AV → H → Option R) → Option R := fun vs h kc9 => (fun x10 x11 x12 x13 => aIdxAddr 1 x10 x13 h fun x14 h => aLoad x14 h fun x15 h => aCmpI (fun a b => ilt b a) x12 x15 h fun x16 h => withBool x16 fun t17 => bc t17 (aSAdd x11 (AV.str [41] 1) h fun x18 h => aArith isub x12 (AV.int 3 (Int.ofNat 1)) h fun x19 h => kc9 [x10, x18, x19, x13] h) (aSAdd x11 (AV.str [40] 1) h fun x20 h => aArith iadd x12 (AV.int 3 (Int.ofNat 1)) h fun x21 h => aArith iadd x13 (AV.int 3 (Int.ofNat 1)) h fun x22 h => kc1 [x10, x20, x21, x22] h)) (hd vs) (hd (tl vs)) (hd (tl (tl vs))) (hd (tl (tl (tl vs))))
noncomputable def c_spec_l3Tree_l2 (F g : Nat) : List AV → H → (List AV → H → Option R) → Option R := fun vs h kc23 => (fun x24 x25 => aCmpI (fun a b => ilt b a) x25 (AV.int 3 (Int.ofNat 0)) h fun x26 h => withBool x26 fun t27 => bc t27 (aSAdd x24 (AV.str [41] 1) h fun x28 h => aArith isub x25 (AV.int 3 (Int.ofNat 1)) h fun x29 h => kc23 [x28, x29] h) (some (x24, h))) (hd vs) (hd (tl vs))
noncomputable def c_spec_l3Tree_l3 (F g : Nat) : List AV → H → (List AV → H → Option R) → Option R := fun vs h kc1 => (fun x2 x3 x4 x5 => aLenK 1 x2 h fun x6 h => aCmpI ilt x5 x6 h fun x7 h => withBool x7 fun t8 => bc t8 (loopD F (c_spec_l3Tree_l1 F g kc1) [x2, x3, x4, x5] h) (loopD F (c_spec_l3Tree_l2 F g) [x3, x4] h)) (hd vs) (hd (tl vs)) (hd (tl (tl vs))) (hd (tl (tl (tl vs))))
noncomputable def c_spec_l3Tree (F g : Nat) (a0 : AV) (h : H) : Option R := loopD F (c_spec_l3Tree_l3 F g) [a0, (AV.str [] 0), (AV.int 3 (Int.ofNat 0)), (AV.int 3 (Int.ofNat 0))] h
noncomputable def A_spec_l3Tree : An := (.two .o (.two .o (.two .o (.two (.two .o (.two (.at_ [0, 3, 4, 5] (.two (.two .o (.two .o .o)) (.two (.two (.two (.two (.at_ [0, 3, 4, 5] (.two (.two .o (.two .o .o)) (.two (.two .o .o) .o)) .o) .o) (.two .o .o)) .o) .o)) .o) .o)) (.two (.two (.at_ [3, 4] (.two (.two .o (.two .o .o)) (.two (.two .o .o) .o)) .o) .o) (.two .o .o))))))
noncomputable def b_spec_l3Tree : Code := bodyOf Go.Proofs.Try.f115
theorem k_spec_l3Tree (F g : Nat) (a0 : AV) (h : H) : callD Go.Proofs.Try.prog (fun _ _ _ => none : Env) 33 F b_spec_l3Tree [2] A_spec_l3Tree [a0] h = c_spec_l3Tree F g a0 h := by kernel_rfl
theorem s_spec_l3Tree (F g : Nat) : ∀ args h r, u1 (c_spec_l3Tree F g) args h = some r → Tri Go.Proofs.Try.prog 115 args h r := by
  intro args h r e; obtain ⟨a0, rfl, e1⟩ := u1_some e; exact fn_sound Go.Proofs.Try.func115 rfl rfl rfl Go.Proofs.Try.ntmps115 (Sound.none _) ((k_spec_l3Tree F g a0 h).trans e1)

-- "loop.example/treenumbers/spec.LevelsTree"
noncomputable def c_spec_LevelsTree (F g : Nat) (a0 : AV) (h : H) : Option R := bindR (c_spec_l3In F g a0 h) fun x1 h => aNot x1 h fun x2 h => withBool x2 fun t3 => bc t3 (some (AV.one .tup (AV.cons (AV.str [] 0) (AV.cons (AV.bool false) (AV.leaf .nil))), h)) (bindR (c_spec_l3Tree F g a0 h) fun x4 h => some (AV.one .tup (AV.cons x4 (AV.cons (AV.bool true) (AV.leaf .nil))), h))
noncomputable def A_spec_LevelsTree : An := (.two .o (.two (.two .o (.two (.two .o .o) .o)) (.two .o .o)))
noncomputable def b_spec_LevelsTree : Code := bodyOf Go.Proofs.Try.f61
theorem k_spec_LevelsTree (F g : Nat) (a0 : AV) (h : H) : callD Go.Proofs.Try.prog (Env.add (Env.add (fun _ _ _ => none : Env) 114 (u1 (c_spec_l3In F g))) 115 (u1 (c_spec_l3Tree F g))) 9 F b_spec_LevelsTree [2, 3] A_spec_LevelsTree [a0] h = c_spec_LevelsTree F g a0 h := by kernel_rfl
theorem s_spec_LevelsTree (F g : Nat) : ∀ args h r, u1 (c_spec_LevelsTree F g) args h = some r → Tri Go.Proofs.Try.prog 61 args h r := by
  intro args h r e; obtain ⟨a0, rfl, e1⟩ := u1_some e; exact fn_sound Go.Proofs.Try.func61 rfl rfl rfl Go.Proofs.Try.ntmps61 (Sound.add (Sound.add (Sound.none _) (s_spec_l3In F g)) (s_spec_l3Tree F g)) ((k_spec_LevelsTree F g a0 h).trans e1)

-- "(*loop.example/treenumbers/impl.node).nodes"
noncomputable def c_impl_node_nodes_l1 (F g : Nat) (self : AV → H → Option R) : List AV → H → (List AV → H → Option R) → Option R := fun vs h kc6 => (fun x7 x8 x9 x10 => aCmpI ilt x10 x9 h fun x11 h => withBool x11 fun t12 => bc t12 (aIdxAddr 1 x8 x10 h fun x13 h => aLoad x13 h fun x14 h => bindR (self x14 h) fun x15 h => aAppend 1 8 x7 x15 h fun x16 h => aArith iadd x10 (AV.int 3 (Int.ofNat 1)) h fun x17 h => kc6 [x16, x8, x9, x17] h) (some (x7, h))) (hd vs) (hd (tl vs)) (hd (tl (tl vs))) (hd (tl (tl (tl vs))))
noncomputable def c_impl_node_nodes (F g : Nat) : AV → H → Option R := Nat.rec (motive := fun _ => AV → H → Option R) (fun _ _ => none) (fun g self a0 h => aBuildSlice 1 1 [(0, 1, a0)] h fun x1 h => aNilCheck a0 h fun x2 h => aField 2 x2 h fun x3 h => aLoad x3 h fun x4 h => aLenK 1 x4 h fun x5 h => loopD F (c_impl_node_nodes_l1 F g self) [x1, x4, x5, (AV.int 3 (Int.ofNat 0))] h) g
noncomputable def A_impl_node_nodes : An := (.two .o (.two .o (.two (.two .o (.two (.at_ [3, 11, 12, 13] (.two .o (.two (.two .o .o) (.two (.two (.two .o .o) .o) .o))) .o) .o)) (.two .o .o))))
noncomputable def b_impl_node_nodes : Code := bodyOf Go.Proofs.Try.f95
theorem k_impl_node_nodes (F g : Nat) (a0 : AV) (h : H) : callD Go.Proofs.Try.prog (Env.add (fun _ _ _ => none : Env) 95 (u1 (c_impl_node_nodes F g))) 23 F b_impl_node_nodes [2] A_impl_node_nodes [a0] h = c_impl_node_nodes F (g + 1) a0 h := by kernel_rfl
theorem s_impl_node_nodes (F g : Nat) : ∀ args h r, u1 (c_impl_node_nodes F g) args h = some r → Tri Go.Proofs.Try.prog 95 args h r := by
  induction g with
  | zero => intro args h r e; obtain ⟨a0, rfl, e⟩ := u1_some e; cases e
  | succ g ih => intro args h r e; obtain ⟨a0, rfl, e1⟩ := u1_some e; exact fn_sound Go.Proofs.Try.func95 rfl rfl rfl Go.Proofs.Try.ntmps95 (Sound.add (Sound.none _) ih) ((k_impl_node_nodes F g a0 h).trans e1)

-- "loop.example/treenumbers/impl.TreeUp"
noncomputable def c_impl_TreeUp_l1 (F g : Nat) : List AV → H → (List AV → H → Option R) → Option R := fun vs h kc10 => (fun x11 x12 x13 x14 => aCmpI ilt x14 x13 h fun x15 h => withBool x15 fun t16 => bc t16 (aIdxAddr 1 x12 x14 h fun x17 h => aLoad x17 h fun x18 h => aNilCheck x18 h fun x19 h => aField 1 x19 h fun x20 h => aLoad x20 h fun x21 h => aNilCheck x21 h fun x22 h => aField 0 x22 h fun x23 h => aLoad x23 h fun x24 h => aBuildSlice 1 1 [(0, 1, x24)] h fun x25 h => aAppend 1 8 x11 x25 h fun x26 h => aArith iadd x14 (AV.int 3 (Int.ofNat 1)) h fun x27 h => kc10 [x26, x12, x13, x27] h) (some (AV.one .tup (AV.cons x11 (AV.cons (AV.bool true) (AV.leaf .nil))), h))) (hd vs) (hd (tl vs)) (hd (tl (tl vs))) (hd (tl (tl (tl vs))))
noncomputable def c_impl_TreeUp (F g : Nat) (a0 : AV) (h : H) : Option R := bindR (c_impl_readTree F g a0 h) fun x1 h => aExtract x1 0 h fun x2 h => aExtract x1 1 h fun x3 h => aNot x3 h fun x4 h => withBool x4 fun t5 => bc t5 (some (AV.one .tup (AV.cons (AV.leaf .nils) (AV.cons (AV.bool false) (AV.leaf .nil))), h)) (aBuildSlice 1 1 [(0, 1, (AV.int 3 (Int.negSucc 0)))] h fun x6 h => bindR (c_impl_node_nodes F g x2 h) fun x7 h => aSliceV 1 x7 (some (AV.int 3 (Int.ofNat 1))) none none h fun x8 h => aLenK 1 x8 h fun x9 h => loopD F (c_impl_TreeUp_l1 F g) [x6, x8, x9, (AV.int 3 (Int.ofNat 0))] h)
noncomputable def A_impl_TreeUp : An := (.two .o (.two .o (.two (.two .o (.two (.two .o .o) .o)) (.two .o (.two (.two .o (.two (.at_ [6, 19, 20, 21] (.two .o (.two (.two .o .o) (.two (.two (.two .o .o) .o) .o))) .o) .o)) (.two .o .o))))))
noncomputable def b_impl_TreeUp : Code := bodyOf Go.Proofs.Try.f53
theorem k_impl_TreeUp (F g : Nat) (a0 : AV) (h : H) : callD Go.Proofs.Try.prog (Env.add (Env.add (fun _ _ _ => none : Env) 91 (u1 (c_impl_readTree F g))) 95 (u1 (c_impl_node_nodes F g))) 37 F b_impl_TreeUp [2, 3] A_impl_TreeUp [a0] h = c_impl_TreeUp F g a0 h := by kernel_rfl
theorem s_impl_TreeUp (F g : Nat) : ∀ args h r, u1 (c_impl_TreeUp F g) args h = some r → Tri Go.Proofs.Try.prog 53 args h r := by
  intro args h r e; obtain ⟨a0, rfl, e1⟩ := u1_some e; exact fn_sound Go.Proofs.Try.func53 rfl rfl rfl Go.Proofs.Try.ntmps53 (Sound.add (Sound.add (Sound.none _) (s_impl_readTree F g)) (s_impl_node_nodes F g)) ((k_impl_TreeUp F g a0 h).trans e1)

-- "loop.example/treenumbers/impl.LevelsOf"
noncomputable def c_impl_LevelsOf_l1 (F g : Nat) : List AV → H → (List AV → H → Option R) → Option R := fun vs h kc9 => (fun x10 x11 x12 x13 => aCmpI ilt x13 x12 h fun x14 h => withBool x14 fun t15 => bc t15 (aIdxAddr 1 x11 x13 h fun x16 h => aLoad x16 h fun x17 h => aIdxAddr 1 x10 x17 h fun x18 h => aLoad x18 h fun x19 h => aArith iadd x19 (AV.int 3 (Int.ofNat 1)) h fun x20 h => aBuildSlice 1 1 [(0, 1, x20)] h fun x21 h => aAppend 1 8 x10 x21 h fun x22 h => aArith iadd x13 (AV.int 3 (Int.ofNat 1)) h fun x23 h => kc9 [x22, x11, x12, x23] h) (some (AV.one .tup (AV.cons x10 (AV.cons (AV.bool true) (AV.leaf .nil))), h))) (hd vs) (hd (tl vs)) (hd (tl (tl vs))) (hd (tl (tl (tl vs))))
noncomputable def c_impl_LevelsOf (F g : Nat) (a0 : AV) (h : H) : Option R := bindR (c_impl_TreeUp F g a0 h) fun x1 h => aExtract x1 0 h fun x2 h => aExtract x1 1 h fun x3 h => aNot x3 h fun x4 h => withBool x4 fun t5 => bc t5 (some (AV.one .tup (AV.cons (AV.leaf .nils) (AV.cons (AV.bool false) (AV.leaf .nil))), h)) (aBuildSlice 1 1 [(0, 1, (AV.int 3 (Int.ofNat 0)))] h fun x6 h => aSliceV 1 x2 (some (AV.int 3 (Int.ofNat 1))) none none h fun x7 h => aLenK 1 x7 h fun x8 h => loopD F (c_impl_LevelsOf_l1 F g) [x6, x7, x8, (AV.int 3 (Int.ofNat 0))] h)
noncomputable def A_impl_LevelsOf : An := (.two .o (.two .o (.two (.two .o (.two (.two .o .o) .o)) (.two .o (.two (.two .o (.two (.at_ [6, 18, 19, 20] (.two .o (.two (.two .o .o) (.two (.two (.two .o .o) .o) .o))) .o) .o)) (.two .o .o))))))
noncomputable def b_impl_LevelsOf : Code := bodyOf Go.Proofs.Try.f56
theorem k_impl_LevelsOf (F g : Nat) (a0 : AV) (h : H) : callD Go.Proofs.Try.prog (Env.add (fun _ _ _ => none : Env) 53 (u1 (c_impl_TreeUp F g))) 34 F b_impl_LevelsOf [2, 3] A_impl_LevelsOf [a0] h = c_impl_LevelsOf F g a0 h := by kernel_rfl
theorem s_impl_LevelsOf (F g : Nat) : ∀ args h r, u1 (c_impl_LevelsOf F g) args h = some r → Tri Go.Proofs.Try.prog 56 args h r := by
  intro args h r e; obtain ⟨a0, rfl, e1⟩ := u1_some e; exact fn_sound Go.Proofs.Try.func56 rfl rfl rfl Go.Proofs.Try.ntmps56 (Sound.add (Sound.none _) (s_impl_TreeUp F g)) ((k_impl_LevelsOf F g a0 h).trans e1)

-- "loop.example/treenumbers/laws.sameInts"
noncomputable def c_laws_sameInts_l1 (F g : Nat) : List AV → H → (List AV → H → Option R) → Option R := fun vs h kc5 => (fun x6 x7 x8 => aLenK 1 x6 h fun x9 h => aCmpI ilt x8 x9 h fun x10 h => withBool x10 fun t11 => bc t11 (aIdxAddr 1 x6 x8 h fun x12 _ => aLoad x12 h fun x13 _ => aIdxAddr 1 x7 x8 h fun x14 _ => aLoad x14 h fun x15 _ => aCmpI (fun a b => bnot (ieq a b)) x13 x15 h fun x16 _ => withBool x16 fun t17 => bc t17 (some ((AV.bool false), h)) (aArith iadd x8 (AV.int 3 (Int.ofNat 1)) h fun x18 h => kc5 [x6, x7, x18] h)) (some ((AV.bool true), h))) (hd vs) (hd (tl vs)) (hd (tl (tl vs)))
noncomputable def c_laws_sameInts (F g : Nat) (a0 a1 : AV) (h : H) : Option R := aLenK 1 a0 h fun x1 h => aLenK 1 a1 h fun x2 h => aCmpI (fun a b => bnot (ieq a b)) x1 x2 h fun x3 h => withBool x3 fun t4 => bc t4 (some ((AV.bool false), h)) (loopD F (c_laws_sameInts_l1 F g) [a0, a1, (AV.int 3 (Int.ofNat 0))] h)
noncomputable def A_laws_sameInts : An := (.two .o (.two (.two .o (.two (.two .o .o) .o)) (.two (.two .o (.two (.at_ [0, 1, 5] (.two (.two .o (.two .o .o)) (.two (.two (.two .o (.two (.two .o .o) .o)) .o) .o)) .o) .o)) (.two .o .o))))
noncomputable def b_laws_sameInts : Code := bodyOf Go.Proofs.Try.f55
theorem k_laws_sameInts (F g : Nat) (a0 a1 : AV) (h : H) : callD Go.Proofs.Try.prog (fun _ _ _ => none : Env) 26 F b_laws_sameInts [4] A_laws_sameInts [a0, a1] h = c_laws_sameInts F g a0 a1 h := by kernel_rfl
theorem s_laws_sameInts (F g : Nat) : ∀ args h r, u2 (c_laws_sameInts F g) args h = some r → Tri Go.Proofs.Try.prog 55 args h r := by
  intro args h r e; obtain ⟨a0, a1, rfl, e1⟩ := u2_some e; exact fn_sound Go.Proofs.Try.func55 rfl rfl rfl Go.Proofs.Try.ntmps55 (Sound.none _) ((k_laws_sameInts F g a0 a1 h).trans e1)

-- "loop.example/treenumbers/laws.FnLevelsTree"
noncomputable def c_laws_FnLevelsTree_j1 (F g : Nat) (vs : List AV) (h : H) : Option R := (fun x30 x31 => aPick x30 x31 (AV.bool false) h fun x32 h => some (x32, h)) (hd vs) (hd (tl vs))
noncomputable def c_laws_FnLevelsTree_j2 (F g : Nat) (vs : List AV) (h : H) : Option R := (fun x37 x38 => aPick x37 x38 (AV.bool false) h fun x39 h => some (x39, h)) (hd vs) (hd (tl vs))
noncomputable def c_laws_FnLevelsTree_j3 (F g : Nat) (vs : List AV) (h : H) : Option R := (fun x20 x21 x22 x23 x24 x25 x26 => aPick x25 (AV.bool true) x26 h fun x27 h => withBool x27 fun t28 => bc t28 (aEq false 0 x22 x24 h fun x29 h => guardB true x29 (aCmpS eqL x21 x23 h fun x33 h => (c_laws_FnLevelsTree_j1 F g) [x29, x33] h) ((c_laws_FnLevelsTree_j1 F g) [x29, (AV.one .tup (AV.leaf .nil))] h)) (bindR (c_impl_LevelsOf F g x21 h) fun x34 h => aExtract x34 0 h fun x35 h => aExtract x34 1 h fun x36 h => guardB true x36 (bindR (c_laws_sameInts F g x35 x20 h) fun x40 h => (c_laws_FnLevelsTree_j2 F g) [x36, x40] h) ((c_laws_FnLevelsTree_j2 F g) [x36, (AV.one .tup (AV.leaf .nil))] h))) (hd vs) (hd (tl vs)) (hd (tl (tl vs))) (hd (tl (tl (tl vs)))) (hd (tl (tl (tl (tl vs))))) (hd (tl (tl (tl (tl (tl vs)))))) (hd (tl (tl (tl (tl (tl (tl vs)))))))
noncomputable def c_laws_FnLevelsTree_j4 (F g : Nat) (vs : List AV) (h : H) : Option R := (fun x12 x13 x14 x15 x16 x17 x18 => aPick x17 (AV.bool true) x18 h fun x19 h => guardB false x19 (aNot x14 h fun x41 h => (c_laws_FnLevelsTree_j3 F g) [x12, x13, x14, x15, x16, x19, x41] h) ((c_laws_FnLevelsTree_j3 F g) [x12, x13, x14, x15, x16, x19, (AV.one .tup (AV.leaf .nil))] h)) (hd vs) (hd (tl vs)) (hd (tl (tl vs))) (hd (tl (tl (tl vs)))) (hd (tl (tl (tl (tl vs))))) (hd (tl (tl (tl (tl (tl vs)))))) (hd (tl (tl (tl (tl (tl (tl vs)))))))
noncomputable def c_laws_FnLevelsTree_r5 (F g : Nat) (x4 : AV) (h : H) : Option R := bindR (c_impl_LevelsTree F g x4 h) fun x5 h => aExtract x5 0 h fun x6 h => aExtract x5 1 h fun x7 h => bindR (c_spec_LevelsTree F g x4 h) fun x8 h => aExtract x8 0 h fun x9 h => aExtract x8 1 h fun x10 h => aEq true 0 x7 x10 h fun x11 h => guardB false x11 (aCmpS (fun a b => bnot (eqL a b)) x6 x9 h fun x42 h => (c_laws_FnLevelsTree_j4 F g) [x4, x6, x7, x9, x10, x11, x42] h) ((c_laws_FnLevelsTree_j4 F g) [x4, x6, x7, x9, x10, x11, (AV.one .tup (AV.leaf .nil))] h)
noncomputable def c_laws_FnLevelsTree (F g : Nat) (a0 : AV) (h : H) : Option R := aLenK 1 a0 h fun x1 h => aCmpI (fun a b => ilt b a) x1 (AV.int 3 (Int.ofNat 1048576)) h fun x2 h => withBool x2 fun t3 => bc t3 (some ((AV.bool true), h)) (bindR (c_spec_DrawLevelsTree F g a0 h) fun x4 h => c_laws_FnLevelsTree_r5 F g x4 h)
noncomputable def A_laws_FnLevelsTree : An := (.two .o (.two (.two .o (.two (.two .o .o) .o)) (.two .o (.two .o (.two .o (.two (.two (.at_ [3, 4, 5, 6, 7, 28, 31] .o (.at_ [3, 4, 5, 6, 7, 33, 35] .o .o)) (.two (.two (.at_ [40, 43] .o .o) .o) .o)) (.two .o (.two (.at_ [51, 54] .o .o) .o))))))))
noncomputable def b_laws_FnLevelsTree : Code := bodyOf Go.Proofs.Try.f14
theorem k_laws_FnLevelsTree (F g : Nat) (a0 : AV) (h : H) : callD Go.Proofs.Try.prog (Env.add (Env.add (Env.add (Env.add (Env.add (fun _ _ _ => none : Env) 60 (u1 (c_spec_DrawLevelsTree F g))) 59 (u1 (c_impl_LevelsTree F g))) 61 (u1 (c_spec_LevelsTree F g))) 56 (u1 (c_impl_LevelsOf F g))) 55 (u2 (c_laws_sameInts F g))) 56 F b_laws_FnLevelsTree [2] A_laws_FnLevelsTree [a0] h = c_laws_FnLevelsTree F g a0 h := by kernel_rfl
theorem s_laws_FnLevelsTree (F g : Nat) : ∀ args h r, u1 (c_laws_FnLevelsTree F g) args h = some r → Tri Go.Proofs.Try.prog 14 args h r := by
  intro args h r e; obtain ⟨a0, rfl, e1⟩ := u1_some e; exact fn_sound Go.Proofs.Try.func14 rfl rfl rfl Go.Proofs.Try.ntmps14 (Sound.add (Sound.add (Sound.add (Sound.add (Sound.add (Sound.none _) (s_spec_DrawLevelsTree F g)) (s_impl_LevelsTree F g)) (s_spec_LevelsTree F g)) (s_impl_LevelsOf F g)) (s_laws_sameInts F g)) ((k_laws_FnLevelsTree F g a0 h).trans e1)

end
end Go.AI.T
