/- slices.Sort of texts: more than twelve by the library's contract, else as the evaluator reads it. -/
import Derived.KernelRfl
import Derived.Test.YtjnmogmddhichaaRaw
import Derived.Test.YtjnmogmddhichaaShelf
import Derived.Test.YtjnmogmddhichaaProg
namespace Go.AI.T.SS
open Go Go.RowKit Go.AI
set_option linter.unusedVariables false
set_option linter.unusedSimpArgs false
set_option maxRecDepth 100000
noncomputable section
-- "math/bits.Len32"
noncomputable def c_math_bits_Len32_j1 (F g : Nat) (vs : List AV) (h : H) : Option R := (fun x3 x4 => aConvI 4 x3 h fun x5 h => aIdxStr (AV.str [0, 1, 2, 2, 3, 3, 3, 3, 4, 4, 4, 4, 4, 4, 4, 4, 5, 5, 5, 5, 5, 5, 5, 5, 5, 5, 5, 5, 5, 5, 5, 5, 6, 6, 6, 6, 6, 6, 6, 6, 6, 6, 6, 6, 6, 6, 6, 6, 6, 6, 6, 6, 6, 6, 6, 6, 6, 6, 6, 6, 6, 6, 6, 6, 7, 7, 7, 7, 7, 7, 7, 7, 7, 7, 7, 7, 7, 7, 7, 7, 7, 7, 7, 7, 7, 7, 7, 7, 7, 7, 7, 7, 7, 7, 7, 7, 7, 7, 7, 7, 7, 7, 7, 7, 7, 7, 7, 7, 7, 7, 7, 7, 7, 7, 7, 7, 7, 7, 7, 7, 7, 7, 7, 7, 7, 7, 7, 7, 8, 8, 8, 8, 8, 8, 8, 8, 8, 8, 8, 8, 8, 8, 8, 8, 8, 8, 8, 8, 8, 8, 8, 8, 8, 8, 8, 8, 8, 8, 8, 8, 8, 8, 8, 8, 8, 8, 8, 8, 8, 8, 8, 8, 8, 8, 8, 8, 8, 8, 8, 8, 8, 8, 8, 8, 8, 8, 8, 8, 8, 8, 8, 8, 8, 8, 8, 8, 8, 8, 8, 8, 8, 8, 8, 8, 8, 8, 8, 8, 8, 8, 8, 8, 8, 8, 8, 8, 8, 8, 8, 8, 8, 8, 8, 8, 8, 8, 8, 8, 8, 8, 8, 8, 8, 8, 8, 8, 8, 8, 8, 8, 8, 8, 8, 8, 8, 8, 8, 8, 8, 8, 8, 8, 8, 8, 8, 8] 256) x5 h fun x6 h => aConvI 3 x6 h fun x7 h => aArith iadd x4 x7 h fun x8 h => some (x8, h)) (hd vs) (hd (tl vs))
noncomputable def c_math_bits_Len32_j2 (F g : Nat) (vs : List AV) (h : H) : Option R := (fun x1 x2 => aCmpI (fun a b => ile b a) x1 (AV.int 6 (Int.ofNat 256)) h fun x9 h => withBool x9 fun t10 => bc t10 (aShr x1 (AV.int 7 (Int.ofNat 8)) h fun x11 h => aArith iadd x2 (AV.int 3 (Int.ofNat 8)) h fun x12 h => (c_math_bits_Len32_j1 F g) [x11, x12] h) ((c_math_bits_Len32_j1 F g) [x1, x2] h)) (hd vs) (hd (tl vs))
noncomputable def c_math_bits_Len32 (F g : Nat) (a0 : AV) (h : H) : Option R := aCmpI (fun a b => ile b a) a0 (AV.int 6 (Int.ofNat 65536)) h fun x13 h => withBool x13 fun t14 => bc t14 (aShr a0 (AV.int 7 (Int.ofNat 16)) h fun x15 h => (c_math_bits_Len32_j2 F g) [x15, (AV.int 3 (Int.ofNat 16))] h) ((c_math_bits_Len32_j2 F g) [a0, (AV.int 3 (Int.ofNat 0))] h)
noncomputable def A_math_bits_Len32 : An := (.two .o (.at_ [0, 2] (.two .o (.two (.two .o .o) .o)) (.at_ [0, 2] (.two .o (.two (.two .o .o) .o)) (.two .o .o))))
noncomputable def b_math_bits_Len32 : Code := bodyOf Go.Proofs.Try.f87
theorem k_math_bits_Len32 (F g : Nat) (a0 : AV) (h : H) : callD Go.Proofs.Try.prog (fun _ _ _ => none : Env) 19 F b_math_bits_Len32 [2] A_math_bits_Len32 [a0] h = c_math_bits_Len32 F g a0 h := by kernel_rfl
theorem s_math_bits_Len32 (F g : Nat) : ∀ args h r, u1 (c_math_bits_Len32 F g) args h = some r → Tri Go.Proofs.Try.prog 87 args h r := by
  intro args h r e; obtain ⟨a0, rfl, e1⟩ := u1_some e; exact fn_sound Go.Proofs.Try.func87 rfl rfl rfl Go.Proofs.Try.ntmps87 (Sound.none _) ((k_math_bits_Len32 F g a0 h).trans e1)

-- "math/bits.Len64"
noncomputable def c_math_bits_Len64_j1 (F g : Nat) (vs : List AV) (h : H) : Option R := (fun x5 x6 => aConvI 4 x5 h fun x7 h => aIdxStr (AV.str [0, 1, 2, 2, 3, 3, 3, 3, 4, 4, 4, 4, 4, 4, 4, 4, 5, 5, 5, 5, 5, 5, 5, 5, 5, 5, 5, 5, 5, 5, 5, 5, 6, 6, 6, 6, 6, 6, 6, 6, 6, 6, 6, 6, 6, 6, 6, 6, 6, 6, 6, 6, 6, 6, 6, 6, 6, 6, 6, 6, 6, 6, 6, 6, 7, 7, 7, 7, 7, 7, 7, 7, 7, 7, 7, 7, 7, 7, 7, 7, 7, 7, 7, 7, 7, 7, 7, 7, 7, 7, 7, 7, 7, 7, 7, 7, 7, 7, 7, 7, 7, 7, 7, 7, 7, 7, 7, 7, 7, 7, 7, 7, 7, 7, 7, 7, 7, 7, 7, 7, 7, 7, 7, 7, 7, 7, 7, 7, 8, 8, 8, 8, 8, 8, 8, 8, 8, 8, 8, 8, 8, 8, 8, 8, 8, 8, 8, 8, 8, 8, 8, 8, 8, 8, 8, 8, 8, 8, 8, 8, 8, 8, 8, 8, 8, 8, 8, 8, 8, 8, 8, 8, 8, 8, 8, 8, 8, 8, 8, 8, 8, 8, 8, 8, 8, 8, 8, 8, 8, 8, 8, 8, 8, 8, 8, 8, 8, 8, 8, 8, 8, 8, 8, 8, 8, 8, 8, 8, 8, 8, 8, 8, 8, 8, 8, 8, 8, 8, 8, 8, 8, 8, 8, 8, 8, 8, 8, 8, 8, 8, 8, 8, 8, 8, 8, 8, 8, 8, 8, 8, 8, 8, 8, 8, 8, 8, 8, 8, 8, 8, 8, 8, 8, 8, 8, 8] 256) x7 h fun x8 h => aConvI 3 x8 h fun x9 h => aArith iadd x6 x9 h fun x10 h => some (x10, h)) (hd vs) (hd (tl vs))
noncomputable def c_math_bits_Len64_j2 (F g : Nat) (vs : List AV) (h : H) : Option R := (fun x3 x4 => aCmpI (fun a b => ile b a) x3 (AV.int 7 (Int.ofNat 256)) h fun x11 h => withBool x11 fun t12 => bc t12 (aShr x3 (AV.int 7 (Int.ofNat 8)) h fun x13 h => aArith iadd x4 (AV.int 3 (Int.ofNat 8)) h fun x14 h => (c_math_bits_Len64_j1 F g) [x13, x14] h) ((c_math_bits_Len64_j1 F g) [x3, x4] h)) (hd vs) (hd (tl vs))
noncomputable def c_math_bits_Len64_j3 (F g : Nat) (vs : List AV) (h : H) : Option R := (fun x1 x2 => aCmpI (fun a b => ile b a) x1 (AV.int 7 (Int.ofNat 65536)) h fun x15 h => withBool x15 fun t16 => bc t16 (aShr x1 (AV.int 7 (Int.ofNat 16)) h fun x17 h => aArith iadd x2 (AV.int 3 (Int.ofNat 16)) h fun x18 h => (c_math_bits_Len64_j2 F g) [x17, x18] h) ((c_math_bits_Len64_j2 F g) [x1, x2] h)) (hd vs) (hd (tl vs))
noncomputable def c_math_bits_Len64 (F g : Nat) (a0 : AV) (h : H) : Option R := aCmpI (fun a b => ile b a) a0 (AV.int 7 (Int.ofNat 4294967296)) h fun x19 h => withBool x19 fun t20 => bc t20 (aShr a0 (AV.int 7 (Int.ofNat 32)) h fun x21 h => (c_math_bits_Len64_j3 F g) [x21, (AV.int 3 (Int.ofNat 32))] h) ((c_math_bits_Len64_j3 F g) [a0, (AV.int 3 (Int.ofNat 0))] h)
noncomputable def A_math_bits_Len64 : An := (.two .o (.at_ [0, 2] (.two .o (.two (.two .o .o) .o)) (.at_ [0, 2] (.two .o (.two (.two .o .o) .o)) (.at_ [0, 2] (.two .o (.two (.two .o .o) .o)) (.two .o .o)))))
noncomputable def b_math_bits_Len64 : Code := bodyOf Go.Proofs.Try.f88
theorem k_math_bits_Len64 (F g : Nat) (a0 : AV) (h : H) : callD Go.Proofs.Try.prog (fun _ _ _ => none : Env) 25 F b_math_bits_Len64 [2] A_math_bits_Len64 [a0] h = c_math_bits_Len64 F g a0 h := by kernel_rfl
theorem s_math_bits_Len64 (F g : Nat) : ∀ args h r, u1 (c_math_bits_Len64 F g) args h = some r → Tri Go.Proofs.Try.prog 88 args h r := by
  intro args h r e; obtain ⟨a0, rfl, e1⟩ := u1_some e; exact fn_sound Go.Proofs.Try.func88 rfl rfl rfl Go.Proofs.Try.ntmps88 (Sound.none _) ((k_math_bits_Len64 F g a0 h).trans e1)

-- "math/bits.Len"
noncomputable def c_math_bits_Len (F g : Nat) (a0 : AV) (h : H) : Option R := withBool (AV.bool false) fun t1 => bc t1 (aConvI 6 a0 h fun x2 h => bindR (c_math_bits_Len32 F g x2 h) fun x3 h => some (x3, h)) (bindR (c_math_bits_Len64 F g a0 h) fun x4 h => some (x4, h))
noncomputable def A_math_bits_Len : An := (.two .o (.two (.two (.two .o .o) .o) (.two .o .o)))
noncomputable def b_math_bits_Len : Code := bodyOf Go.Proofs.Try.f74
theorem k_math_bits_Len (F g : Nat) (a0 : AV) (h : H) : callD Go.Proofs.Try.prog (Env.add (Env.add (fun _ _ _ => none : Env) 87 (u1 (c_math_bits_Len32 F g))) 88 (u1 (c_math_bits_Len64 F g))) 8 F b_math_bits_Len [2] A_math_bits_Len [a0] h = c_math_bits_Len F g a0 h := by kernel_rfl
theorem s_math_bits_Len (F g : Nat) : ∀ args h r, u1 (c_math_bits_Len F g) args h = some r → Tri Go.Proofs.Try.prog 74 args h r := by
  intro args h r e; obtain ⟨a0, rfl, e1⟩ := u1_some e; exact fn_sound Go.Proofs.Try.func74 rfl rfl rfl Go.Proofs.Try.ntmps74 (Sound.add (Sound.add (Sound.none _) (s_math_bits_Len32 F g)) (s_math_bits_Len64 F g)) ((k_math_bits_Len F g a0 h).trans e1)

-- "cmp.isNaN[string]"
noncomputable def c_cmp_isNaN_ecb2 (F g : Nat) (a0 : AV) (h : H) : Option R := aCmpS (fun a b => bnot (eqL a b)) a0 a0 h fun x1 h => some (x1, h)
noncomputable def A_cmp_isNaN_ecb2 : An := (.two .o (.two .o .o))
noncomputable def b_cmp_isNaN_ecb2 : Code := bodyOf Go.Proofs.Try.f95
theorem k_cmp_isNaN_ecb2 (F g : Nat) (a0 : AV) (h : H) : callD Go.Proofs.Try.prog (fun _ _ _ => none : Env) 6 F b_cmp_isNaN_ecb2 [2] A_cmp_isNaN_ecb2 [a0] h = c_cmp_isNaN_ecb2 F g a0 h := by kernel_rfl
theorem s_cmp_isNaN_ecb2 (F g : Nat) : ∀ args h r, u1 (c_cmp_isNaN_ecb2 F g) args h = some r → Tri Go.Proofs.Try.prog 95 args h r := by
  intro args h r e; obtain ⟨a0, rfl, e1⟩ := u1_some e; exact fn_sound Go.Proofs.Try.func95 rfl rfl rfl Go.Proofs.Try.ntmps95 (Sound.none _) ((k_cmp_isNaN_ecb2 F g a0 h).trans e1)

-- "cmp.Less[string]"
noncomputable def c_cmp_Less_ecb2_j1 (F g : Nat) (vs : List AV) (h : H) : Option R := (fun x7 x8 => aPick x7 (AV.bool true) x8 h fun x9 h => some (x9, h)) (hd vs) (hd (tl vs))
noncomputable def c_cmp_Less_ecb2_j2 (F g : Nat) (vs : List AV) (h : H) : Option R := (fun x2 x3 x4 x5 => aPick x4 x5 (AV.bool false) h fun x6 h => guardB false x6 (aCmpS ltL x2 x3 h fun x10 h => (c_cmp_Less_ecb2_j1 F g) [x6, x10] h) ((c_cmp_Less_ecb2_j1 F g) [x6, (AV.one .tup (AV.leaf .nil))] h)) (hd vs) (hd (tl vs)) (hd (tl (tl vs))) (hd (tl (tl (tl vs))))
noncomputable def c_cmp_Less_ecb2 (F g : Nat) (a0 a1 : AV) (h : H) : Option R := bindR (c_cmp_isNaN_ecb2 F g a0 h) fun x1 h => guardB true x1 (bindR (c_cmp_isNaN_ecb2 F g a1 h) fun x11 h => aNot x11 h fun x12 h => (c_cmp_Less_ecb2_j2 F g) [a0, a1, x1, x12] h) ((c_cmp_Less_ecb2_j2 F g) [a0, a1, x1, (AV.one .tup (AV.leaf .nil))] h)
noncomputable def A_cmp_Less_ecb2 : An := (.two .o (.two (.at_ [0, 1, 7, 10] .o (.at_ [12, 15] .o .o)) .o))
noncomputable def b_cmp_Less_ecb2 : Code := bodyOf Go.Proofs.Try.f84
theorem k_cmp_Less_ecb2 (F g : Nat) (a0 a1 : AV) (h : H) : callD Go.Proofs.Try.prog (Env.add (fun _ _ _ => none : Env) 95 (u1 (c_cmp_isNaN_ecb2 F g))) 17 F b_cmp_Less_ecb2 [4] A_cmp_Less_ecb2 [a0, a1] h = c_cmp_Less_ecb2 F g a0 a1 h := by kernel_rfl
theorem s_cmp_Less_ecb2 (F g : Nat) : ∀ args h r, u2 (c_cmp_Less_ecb2 F g) args h = some r → Tri Go.Proofs.Try.prog 84 args h r := by
  intro args h r e; obtain ⟨a0, a1, rfl, e1⟩ := u2_some e; exact fn_sound Go.Proofs.Try.func84 rfl rfl rfl Go.Proofs.Try.ntmps84 (Sound.add (Sound.none _) (s_cmp_isNaN_ecb2 F g)) ((k_cmp_Less_ecb2 F g a0 a1 h).trans e1)

-- "slices.insertionSortOrdered[string]"
noncomputable def c_slices_insertionSortOrdered_ecb2_j1 (F g : Nat) (kc2 : List AV → H → Option R) (kc9 : List AV → H → Option R) (vs : List AV) (h : H) : Option R := (fun x16 x17 x18 x19 x20 x21 x22 => aPick x21 x22 (AV.bool false) h fun x23 _ => withBool x23 fun t24 => bc t24 (aArith isub x20 (AV.int 3 (Int.ofNat 1)) h fun x25 _ => aArith isub x20 (AV.int 3 (Int.ofNat 1)) h fun x26 _ => aIdxAddr 1 x16 x26 h fun x27 _ => aLoad x27 h fun x28 _ => aIdxAddr 1 x16 x20 h fun x29 _ => aLoad x29 h fun x30 _ => aIdxAddr 1 x16 x20 h fun x31 _ => aStore x31 x28 h fun x32 h => aIdxAddr 1 x16 x25 h fun x33 _ => aStore x33 x30 h fun x34 h => aArith isub x20 (AV.int 3 (Int.ofNat 1)) h fun x35 h => kc9 [x16, x17, x18, x19, x35] h) (aArith iadd x19 (AV.int 3 (Int.ofNat 1)) h fun x36 h => kc2 [x16, x17, x18, x36] h)) (hd vs) (hd (tl vs)) (hd (tl (tl vs))) (hd (tl (tl (tl vs)))) (hd (tl (tl (tl (tl vs))))) (hd (tl (tl (tl (tl (tl vs)))))) (hd (tl (tl (tl (tl (tl (tl vs)))))))
noncomputable def c_slices_insertionSortOrdered_ecb2_l2 (F g : Nat) (kc2 : List AV → H → Option R) : List AV → H → (List AV → H → Option R) → Option R := fun vs h kc9 => (fun x10 x11 x12 x13 x14 => aCmpI (fun a b => ilt b a) x14 x11 h fun x15 _ => guardB true x15 (aIdxAddr 1 x10 x14 h fun x37 _ => aLoad x37 h fun x38 _ => aArith isub x14 (AV.int 3 (Int.ofNat 1)) h fun x39 _ => aIdxAddr 1 x10 x39 h fun x40 _ => aLoad x40 h fun x41 _ => bindR (c_cmp_Less_ecb2 F g x38 x41 h) fun x42 h => (c_slices_insertionSortOrdered_ecb2_j1 F g kc2 kc9) [x10, x11, x12, x13, x14, x15, x42] h) ((c_slices_insertionSortOrdered_ecb2_j1 F g kc2 kc9) [x10, x11, x12, x13, x14, x15, (AV.one .tup (AV.leaf .nil))] h)) (hd vs) (hd (tl vs)) (hd (tl (tl vs))) (hd (tl (tl (tl vs)))) (hd (tl (tl (tl (tl vs)))))
noncomputable def c_slices_insertionSortOrdered_ecb2_l3 (F g : Nat) : List AV → H → (List AV → H → Option R) → Option R := fun vs h kc2 => (fun x3 x4 x5 x6 => aCmpI ilt x6 x5 h fun x7 h => withBool x7 fun t8 => bc t8 (loopD F (c_slices_insertionSortOrdered_ecb2_l2 F g kc2) [x3, x4, x5, x6, x6] h) (some (AV.one .tup (AV.leaf .nil), h))) (hd vs) (hd (tl vs)) (hd (tl (tl vs))) (hd (tl (tl (tl vs))))
noncomputable def c_slices_insertionSortOrdered_ecb2 (F g : Nat) (a0 a1 a2 : AV) (h : H) : Option R := aArith iadd a1 (AV.int 3 (Int.ofNat 1)) h fun x1 h => loopD F (c_slices_insertionSortOrdered_ecb2_l3 F g) [a0, a1, a2, x1] h
noncomputable def A_slices_insertionSortOrdered_ecb2 : An := (.two .o (.two (.at_ [0, 1, 2, 6] (.two (.two .o (.two .o .o)) (.two (.two (.two .o (.two (.at_ [0, 1, 2, 6, 7] (.two (.two (.at_ [0, 1, 2, 6, 7, 19, 29] .o .o) (.two .o .o)) (.two (.two .o .o) .o)) .o) .o)) .o) .o)) .o) .o))
noncomputable def b_slices_insertionSortOrdered_ecb2 : Code := bodyOf Go.Proofs.Try.f78
theorem k_slices_insertionSortOrdered_ecb2 (F g : Nat) (a0 a1 a2 : AV) (h : H) : callD Go.Proofs.Try.prog (Env.add (fun _ _ _ => none : Env) 84 (u2 (c_cmp_Less_ecb2 F g))) 49 F b_slices_insertionSortOrdered_ecb2 [] A_slices_insertionSortOrdered_ecb2 [a0, a1, a2] h = c_slices_insertionSortOrdered_ecb2 F g a0 a1 a2 h := by kernel_rfl
theorem s_slices_insertionSortOrdered_ecb2 (F g : Nat) : ∀ args h r, u3 (c_slices_insertionSortOrdered_ecb2 F g) args h = some r → Tri Go.Proofs.Try.prog 78 args h r := by
  intro args h r e; obtain ⟨a0, a1, a2, rfl, e1⟩ := u3_some e; exact fn_sound Go.Proofs.Try.func78 rfl rfl rfl Go.Proofs.Try.ntmps78 (Sound.add (Sound.none _) (s_cmp_Less_ecb2 F g)) ((k_slices_insertionSortOrdered_ecb2 F g a0 a1 a2 h).trans e1)

-- "slices.pdqsortOrdered[string]"
noncomputable def c_slices_pdqsortOrdered_ecb2_j1 (F g : Nat) (vs : List AV) (h : H) : Option R := (fun x14 x15 x16 x17 x18 x19 x20 => none) (hd vs) (hd (tl vs)) (hd (tl (tl vs))) (hd (tl (tl (tl vs)))) (hd (tl (tl (tl (tl vs))))) (hd (tl (tl (tl (tl (tl vs)))))) (hd (tl (tl (tl (tl (tl (tl vs)))))))
noncomputable def c_slices_pdqsortOrdered_ecb2_l2 (F g : Nat) : List AV → H → (List AV → H → Option R) → Option R := fun vs h kc1 => (fun x2 x3 x4 x5 x6 x7 => aArith isub x4 x3 h fun x8 h => aCmpI ile x8 (AV.int 3 (Int.ofNat 12)) h fun x9 h => withBool x9 fun t10 => bc t10 (bindR (c_slices_insertionSortOrdered_ecb2 F g x2 x3 x4 h) fun x11 h => some (AV.one .tup (AV.leaf .nil), h)) (aCmpI ieq x5 (AV.int 3 (Int.ofNat 0)) h fun x12 h => withBool x12 fun t13 => bc t13 (none) (aNot x6 h fun x21 h => withBool x21 fun t22 => bc t22 (none) ((c_slices_pdqsortOrdered_ecb2_j1 F g) [x2, x3, x4, x5, x6, x7, x8] h)))) (hd vs) (hd (tl vs)) (hd (tl (tl vs))) (hd (tl (tl (tl vs)))) (hd (tl (tl (tl (tl vs))))) (hd (tl (tl (tl (tl (tl vs))))))
noncomputable def c_slices_pdqsortOrdered_ecb2 (F g : Nat) (a0 a1 a2 a3 : AV) (h : H) : Option R := loopD F (c_slices_pdqsortOrdered_ecb2_l2 F g) [a0, a1, a2, a3, (AV.bool true), (AV.bool true)] h
noncomputable def A_slices_pdqsortOrdered_ecb2 : An := (.two .o (.two .o (.two (.at_ [0, 1, 2, 3, 8, 9] (.two (.two .o (.two (.two .o (.two (.two .o .o) .o)) (.two (.two .o (.two (.two .o .o) .o)) (.at_ [0, 1, 2, 3, 8, 9, 10] (.two .o (.two (.two .o .o) .o)) (.two .o (.at_ [0, 1, 2, 3, 8, 9, 10, 11, 12] (.two .o (.two (.two .o (.two .o .o)) .o)) (.at_ [0, 1, 2, 3, 8, 9, 10, 11] (.two (.at_ [0, 1, 2, 3, 8, 9, 10, 11, 12, 62, 63] .o (.at_ [0, 1, 2, 3, 8, 9, 10, 11, 65, 67] .o .o)) (.two (.two .o (.two .o .o)) .o)) (.two (.two (.at_ [0, 1, 2, 3, 8, 9, 10, 11, 75, 86] .o .o) (.two (.two .o (.two .o .o)) .o)) (.two .o (.two .o (.two .o (.two .o (.two .o (.two (.two .o (.two .o .o)) (.two .o (.two .o .o)))))))))))))))) .o) .o) .o)))
noncomputable def b_slices_pdqsortOrdered_ecb2 : Code := bodyOf Go.Proofs.Try.f73
theorem k_slices_pdqsortOrdered_ecb2 (F g : Nat) (a0 a1 a2 a3 : AV) (h : H) : callD Go.Proofs.Try.prog (Env.add (fun _ _ _ => none : Env) 78 (u3 (c_slices_insertionSortOrdered_ecb2 F g))) 134 F b_slices_pdqsortOrdered_ecb2 [] A_slices_pdqsortOrdered_ecb2 [a0, a1, a2, a3] h = c_slices_pdqsortOrdered_ecb2 F g a0 a1 a2 a3 h := by kernel_rfl
theorem s_slices_pdqsortOrdered_ecb2 (F g : Nat) : ∀ args h r, u4 (c_slices_pdqsortOrdered_ecb2 F g) args h = some r → Tri Go.Proofs.Try.prog 73 args h r := by
  intro args h r e; obtain ⟨a0, a1, a2, a3, rfl, e1⟩ := u4_some e; exact fn_sound Go.Proofs.Try.func73 rfl rfl rfl Go.Proofs.Try.ntmps73 (Sound.add (Sound.none _) (s_slices_insertionSortOrdered_ecb2 F g)) ((k_slices_pdqsortOrdered_ecb2 F g a0 a1 a2 a3 h).trans e1)

-- "slices.Sort[[]string,string]"
noncomputable def c_slices_Sort_49de (F g : Nat) (a0 : AV) (h : H) : Option R := aLenK 1 a0 h fun x1 h => aConvI 7 x1 h fun x2 h => bindR (c_math_bits_Len F g x2 h) fun x3 h => bindR (c_slices_pdqsortOrdered_ecb2 F g a0 (AV.int 3 (Int.ofNat 0)) x1 x3 h) fun x4 h => some (AV.one .tup (AV.leaf .nil), h)
noncomputable def A_slices_Sort_49de : An := (.two .o .o)
noncomputable def b_slices_Sort_49de : Code := bodyOf Go.Proofs.Try.f58
theorem k_slices_Sort_49de (F g : Nat) (a0 : AV) (h : H) : callD Go.Proofs.Try.prog (Env.add (Env.add (fun _ _ _ => none : Env) 74 (u1 (c_math_bits_Len F g))) 73 (u4 (c_slices_pdqsortOrdered_ecb2 F g))) 11 F b_slices_Sort_49de [] A_slices_Sort_49de [a0] h = c_slices_Sort_49de F g a0 h := by kernel_rfl
theorem s_slices_Sort_49de (F g : Nat) : ∀ args h r, u1 (c_slices_Sort_49de F g) args h = some r → Tri Go.Proofs.Try.prog 58 args h r := by
  intro args h r e; obtain ⟨a0, rfl, e1⟩ := u1_some e; exact fn_sound Go.Proofs.Try.func58 rfl rfl rfl Go.Proofs.Try.ntmps58 (Sound.add (Sound.add (Sound.none _) (s_math_bits_Len F g)) (s_slices_pdqsortOrdered_ecb2 F g)) ((k_slices_Sort_49de F g a0 h).trans e1)

end
end Go.AI.T.SS
namespace Go.AI.T
open Go Go.RowKit Go.AI Go.Sort Go.Proofs
noncomputable section
def leS (x y : List Nat) : Bool := bnot (ltL y x)
def insA (l : List Nat) (a : AV) (ys : List AV) : List AV := @List.rec AV (fun _ => List AV) [a] (fun b t r => b.onStr [] fun m _ => bc (leS l m) (a :: b :: t) (b :: r)) ys
def sortA (xs : List AV) : List AV := @List.rec AV (fun _ => List AV) [] (fun a _ r => a.onStr [] fun l _ => insA l a r) xs
def allStr (xs : List AV) : Bool := @List.rec AV (fun _ => Bool) true (fun a _ r => a.onStr false fun _ _ => r) xs
def toAV (s : List UInt8) : AV := .str (s.map UInt8.toNat) s.length
def leU (x y : List UInt8) : Bool := decide (x ≤ y)
def insU (a : List UInt8) : List (List UInt8) → List (List UInt8)
  | [] => [a]
  | b :: t => bc (leU a b) (a :: b :: t) (b :: insU a t)
def sortU : List (List UInt8) → List (List UInt8)
  | [] => []
  | a :: l => insU a (sortU l)
theorem leS_eq (x y : List UInt8) : leS (x.map UInt8.toNat) (y.map UInt8.toNat) = leU x y := by
  unfold leS leU
  rw [ltL_eq, bytesLess_eq, bnot_eq]
  by_cases h : y < x
  · have : ¬ x ≤ y := fun h2 => absurd h (List.not_lt.2 h2)
    simp [h, this]
  · have : x ≤ y := List.not_lt.1 h
    simp [h, this]
theorem insA_eq (a : List UInt8) : ∀ l : List (List UInt8), insA (a.map UInt8.toNat) (toAV a) (l.map toAV) = (insU a l).map toAV
  | [] => rfl
  | b :: t => by
    have ih := insA_eq a t
    show bc (leS (a.map UInt8.toNat) (b.map UInt8.toNat)) (toAV a :: toAV b :: t.map toAV) (toAV b :: insA (a.map UInt8.toNat) (toAV a) (t.map toAV)) = _
    rw [leS_eq, ih]
    show _ = (bc (leU a b) (a :: b :: t) (b :: insU a t)).map toAV
    cases leU a b <;> rfl
theorem sortA_eq : ∀ l : List (List UInt8), sortA (l.map toAV) = (sortU l).map toAV
  | [] => rfl
  | a :: l => by
    show insA (a.map UInt8.toNat) (toAV a) (sortA (l.map toAV)) = _
    rw [sortA_eq l, insA_eq]; rfl
theorem leU_trans (a b c : List UInt8) (h1 : leU a b = true) (h2 : leU b c = true) : leU a c = true := by
  unfold leU at *
  exact decide_eq_true (List.le_trans (of_decide_eq_true h1) (of_decide_eq_true h2))
theorem leU_total (a b : List UInt8) : (leU a b || leU b a) = true := by
  unfold leU
  rcases List.le_total a b with h | h <;> simp [h]
theorem insU_split (a : List UInt8) : ∀ (l1 l2 : List (List UInt8)), (∀ b ∈ l1, leU a b = false) → (∀ b ∈ l2, leU a b = true) → insU a (l1 ++ l2) = l1 ++ a :: l2
  | [], [], _, _ => rfl
  | [], b :: t, _, h => by
    show bc (leU a b) (a :: b :: t) (b :: insU a t) = _
    rw [h b (List.mem_cons_self ..)]; rfl
  | b :: l1, l2, h1, h2 => by
    show bc (leU a b) (a :: b :: (l1 ++ l2)) (b :: insU a (l1 ++ l2)) = _
    rw [h1 b (List.mem_cons_self ..), insU_split a l1 l2 (fun c hc => h1 c (List.mem_cons_of_mem _ hc)) h2]; rfl
theorem sortU_eq : ∀ l : List (List UInt8), sortU l = l.mergeSort leU
  | [] => by rw [List.mergeSort_nil]; rfl
  | a :: l => by
    obtain ⟨l1, l2, e1, e2, h⟩ := List.mergeSort_cons leU_trans leU_total a l
    have hp := List.pairwise_mergeSort leU_trans leU_total (a :: l)
    rw [e1] at hp ⊢
    show insU a (sortU l) = _
    rw [sortU_eq l, e2]
    refine insU_split a l1 l2 (fun b hb => by have := h b hb; simpa using this) fun b hb => ?_
    have := (List.pairwise_append.1 hp).2.1
    exact (List.pairwise_cons.1 this).1 b hb
theorem allStr_some {ι : Inj} : ∀ {us : List AV} {vs : List Value}, allStr us = true → VL ι us vs → ∃ ss : List (List UInt8), us = ss.map toAV ∧ vs = ss.map encStr ∧ ∀ s ∈ ss, s.length ≤ strMax
  | [], _, _, .nil => ⟨[], rfl, rfl, fun _ h => by cases h⟩
  | a :: us, _, h, .cons hv hl => by
    cases a using AV.casesE <;> (try (cases h; done))
    rename_i l n
    have h : allStr us = true := h
    obtain ⟨s, rfl, h1, h2, h3⟩ := hv.str
    obtain ⟨ss, rfl, rfl, h4⟩ := allStr_some h hl
    refine ⟨s.data.toList :: ss, ?_, ?_, ?_⟩
    · rw [List.map_cons]
      unfold toAV
      rw [h1, show s.data.toList.length = n from h2]
    · rw [List.map_cons]
    · intro t ht
      rcases List.mem_cons.1 ht with rfl | ht
      · show s.data.toList.length ≤ strMax
        have : s.data.toList.length = n := h2
        omega
      · exact h4 t ht
def sortK (b o n : Nat) (h : H) (small : Option R) : Option R := bc (Nat.ble n 12) small (withCells h b fun fl l => bc (Nat.ble fl 1) (bc (Nat.ble n 1000000) (bc (Nat.ble (Nat.add o n) (lenL l)) (bc (allStr (takeL n (dropL o l))) (some (.one .tup (.leaf .nil), h.set b (.cells fl (spliceF l o (sortA (takeL n (dropL o l))))))) none) none) none) none)
def c_slices_Sort_49de (F g : Nat) (a0 : AV) (h : H) : Option R := a0.onSl (SS.c_slices_Sort_49de F g a0 h) (fun _ => SS.c_slices_Sort_49de F g a0 h) (fun b o n _ => sortK b o n h (SS.c_slices_Sort_49de F g a0 h)) (fun b o n _ => sortK b o n h (SS.c_slices_Sort_49de F g a0 h))
theorem s_slices_Sort_49de (F g : Nat) : ∀ args h r, u1 (c_slices_Sort_49de F g) args h = some r → Tri Go.Proofs.Try.prog 58 args h r := by
  intro args h r e
  obtain ⟨a0, rfl, e1⟩ := u1_some e
  have old : SS.c_slices_Sort_49de F g a0 h = some r → Tri Go.Proofs.Try.prog 58 [a0] h r := fun e => SS.s_slices_Sort_49de F g [a0] h r e
  have key : ∀ (b o n : Nat), sortK b o n h (SS.c_slices_Sort_49de F g a0 h) = some r → (∀ (ι : Inj) (v : Value), 1 ≤ n → VR ι a0 v → ∃ B base sz cp, ι b = some (B, base, sz) ∧ v = .slice (some ⟨B, base + o, none⟩) n cp) → Tri Go.Proofs.Try.prog 58 [a0] h r := by
   intro b o n e1 hsl
   unfold sortK at e1
   cases hs : Nat.ble n 12 with
   | true => rw [hs, bc_true] at e1; exact old e1
   | false =>
    rw [hs, bc_false] at e1
    have hn1 : 1 ≤ n := by
      rcases Nat.eq_zero_or_pos n with rfl | hn
      · cases hs
      · exact hn
    obtain ⟨fl, l, hb, e2⟩ := withCells_some e1
    obtain ⟨g1, e3⟩ := bif_some e2
    obtain ⟨g2, e4⟩ := bif_some e3
    obtain ⟨g3, e5⟩ := bif_some e4
    obtain ⟨g4, e6⟩ := bif_some e5
    cases e6
    have g1 := Nat.le_of_ble_eq_true g1
    have g2 := Nat.le_of_ble_eq_true g2
    have g3 : o + n ≤ lenL l := Nat.le_of_ble_eq_true g3
    rw [lenL_eq] at g3
    rw [takeL_eq, dropL_eq] at g4
    rw [takeL_eq, dropL_eq, spliceF_eq]
    have hlen : ((l.drop o).take n).length = n := by rw [List.length_take, List.length_drop]; omega
    refine ⟨⟨_, Go.Proofs.Try.func58, by kernel_rfl, by kernel_rfl⟩, fun ι w vs hR hV => ?_⟩
    cases hV with
    | cons h1 hV =>
      cases hV
      obtain ⟨B, base, sz, cp, ib, rfl⟩ := hsl _ _ hn1 h1
      obtain ⟨c, ty, lo, hi, hh, hsz, hcc, f0, f1⟩ := hR.cells hb ib
      obtain ⟨us, k1, k2, k3⟩ := hcc.list o n hlen
      obtain ⟨ss, q1, q2, q3⟩ := allStr_some g4 k2
      have hss : ss.length = n := by rw [← hlen, q1, List.length_map]
      have hown : (h.get b).own := by rw [hb]; show fl < 2; omega
      have hlt := hR.lt _ _ _ _ ib
      have hat : ∀ j, j < ss.length → c[base + o + j]? = some (encStr ss[j]!) := fun j hj => by
        have hj2 : us[j]? = some (encStr ss[j]!) := by
          rw [q2, List.getElem?_map, List.getElem?_eq_getElem hj, getElem!_pos ss j hj]; rfl
        have := k3 j _ hj2
        exact this
      have hH : Holds encStr w B (base + o) ss.toArray := fun j hj => by
        have hj : j < ss.length := by simpa using hj
        refine ⟨?_, ?_⟩
        · rw [cell_row hh, hat j hj]; simp
        · rw [frozen_row hh]
          have hfit := hcc.lt (i := o + j) (by omega)
          have := not_frozen (show fl < 2 by omega) f0 f1 (j := base + o + j) (by omega)
          rw [Bool.eq_false_iff]; intro hc2; simp only [Bool.and_eq_true, decide_eq_true_eq] at hc2
          exact this hc2
      have hC := Go.Proofs.Try.slices_Sort_string B (base + o) cp ss w hH hlt (by omega)
      rw [hss] at hC
      refine hC.mono ?_
      rintro e w' ⟨rfl, m, os, rfl⟩
      have hso : sortA ((l.drop o).take n) = (ss.mergeSort fun x y => decide (x ≤ y)).map toAV := by
        rw [q1, sortA_eq, sortU_eq]; rfl
      generalize hd : (ss.mergeSort fun x y => decide (x ≤ y)) = d at hso ⊢
      have hdl : d.length = n := by rw [← hd, List.length_mergeSort, hss]
      have hdm : ∀ s ∈ d, s.length ≤ strMax := fun s hs => q3 s (by rw [← hd] at hs; exact (List.mergeSort_perm ss _).mem_iff.1 hs)
      -- the world with the row in order
      let W2 : World := putRow encStr (Sort.ahead w m) B (base + o) d.toArray
      have hW2 : W2.heap = w.heap.modify B (onCells (putCells encStr (base + o) d.toArray)) := rfl
      have s2 : W2.heap.size = w.heap.size := by rw [hW2]; simp
      have o2 : ∀ k, k ≠ B → W2.heap[k]? = w.heap[k]? := fun k hk => by rw [hW2, Array.getElem?_modify, if_neg (Ne.symm hk)]
      have b2 : W2.heap[B]? = some (.cells (putCells encStr (base + o) d.toArray c) ty (lo, hi)) := by rw [hW2, Array.getElem?_modify, if_pos rfl, hh]; rfl
      have hblk : BlkR ι (.cells fl (splice l o (sortA ((l.drop o).take n)))) base sz W2.heap[B]? := by
        rw [b2]
        refine ⟨_, ty, lo, hi, rfl, by unfold putCells; rw [Array.size_mapIdx]; exact hsz, fun i a hi' => ?_, f0, f1⟩
        rw [hso, splice_get (by rw [List.length_map, hdl]; omega)] at hi'
        have hci : ∀ x, c[base + i]? = some x → (putCells encStr (base + o) d.toArray c)[base + i]? = some (if base + o ≤ base + i ∧ base + i < base + o + d.toArray.size then encStr d.toArray[base + i - (base + o)]! else x) := fun x hx => by
          unfold putCells; rw [Array.getElem?_mapIdx, hx]; rfl
        by_cases hin : o ≤ i ∧ i < o + (d.map toAV).length
        · rw [if_pos hin] at hi'
          rw [List.length_map] at hin
          have hj : i - o < d.length := by omega
          rw [List.getElem?_map, List.getElem?_eq_getElem hj] at hi'
          cases hi'
          have hx := hat (i - o) (by omega)
          rw [show base + o + (i - o) = base + i by omega] at hx
          refine ⟨_, hci _ hx, ?_⟩
          rw [if_pos ⟨by omega, by rw [List.size_toArray]; omega⟩, show base + i - (base + o) = i - o by omega, getElem!_pos d.toArray (i - o) (by rw [List.size_toArray]; exact hj)]
          have hm := hdm _ (List.getElem_mem hj)
          exact ⟨⟨(d[i - o]).toArray⟩, rfl, by simp, by show (d[i - o]).toArray.size = _; rw [List.size_toArray], hm⟩
        · rw [if_neg hin] at hi'
          obtain ⟨v, hv1, hv2⟩ := hcc i a hi'
          refine ⟨v, ?_, hv2⟩
          rw [hci v hv1, if_neg (by rw [List.size_toArray]; rw [List.length_map] at hin; omega)]
      have R2 : Rel ι (h.set b (.cells fl (splice l o (sortA ((l.drop o).take n))))) W2 := hR.change b B base sz _ ib hown hblk s2 o2 (by exact Blk.cells_free (by omega))
      have E2 : Ext ι h w ι (h.set b (.cells fl (splice l o (sortA ((l.drop o).take n))))) W2 := Ext.change hR b B base sz _ ib hown rfl rfl rfl s2 o2
      have hb3 : Below W2.heap.size W2 (grow W2 os) := ⟨rfl, rfl, rfl, by unfold grow; simp, fun k hk => by unfold grow; exact Array.getElem?_append_left hk⟩
      exact ⟨_, ι, rfl, ⟨_, rfl, rfl⟩, E2.trans (Ext.grow R2 hb3), R2.grow hb3⟩
  cases a0 using AV.casesE <;> (try exact old e1)
  case sl b o n cp =>
    exact key b o n e1 fun ι v _ hv => by
      obtain ⟨B, base, sz, ib, rfl⟩ := hv.sl
      exact ⟨B, base, sz, cp, ib, rfl⟩
  case osl b o n es =>
    exact key b o n e1 fun ι v hn hv => by
      obtain ⟨B, base, sz, cp, ib, rfl, _⟩ := hv.osl1 hn
      exact ⟨B, base, sz, cp, ib, rfl⟩
end
end Go.AI.T
