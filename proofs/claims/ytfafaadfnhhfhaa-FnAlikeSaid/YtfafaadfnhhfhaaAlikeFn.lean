/- The functions that the law FnAlike reaches, as the evaluator reads them. -/
import Derived.Test.YtfafaadfnhhfhaaTwo
import Derived.Test.YtfafaadfnhhfhaaGiv
import Derived.Test.YtfafaadfnhhfhaaProg
import Derived.KernelRfl
namespace Go.AI.T
open Go Go.RowKit Go.AI
set_option linter.unusedVariables false
set_option linter.unusedSimpArgs false
set_option maxRecDepth 100000
noncomputable section
-- "math/bits.Len32"
noncomputable def c_math_bits_Len32_j1 (F g : Nat) (vs : List AV) (h : H) : Option R := (fun x3 x4 => aConvI 4 x3 h fun x5 h => aIdxStr (AV.str [0, 1, 2, 2, 3, 3, 3, 3, 4, 4, 4, 4, 4, 4, 4, 4, 5, 5, 5, 5, 5, 5, 5, 5, 5, 5, 5, 5, 5, 5, 5, 5, 6, 6, 6, 6, 6, 6, 6, 6, 6, 6, 6, 6, 6, 6, 6, 6, 6, 6, 6, 6, 6, 6, 6, 6, 6, 6, 6, 6, 6, 6, 6, 6, 7, 7, 7, 7, 7, 7, 7, 7, 7, 7, 7, 7, 7, 7, 7, 7, 7, 7, 7, 7, 7, 7, 7, 7, 7, 7, 7, 7, 7, 7, 7, 7, 7, 7, 7, 7, 7, 7, 7, 7, 7, 7, 7, 7, 7, 7, 7, 7, 7, 7, 7, 7, 7, 7, 7, 7, 7, 7, 7, 7, 7, 7, 7, 7, 8, 8, 8, 8, 8, 8, 8, 8, 8, 8, 8, 8, 8, 8, 8, 8, 8, 8, 8, 8, 8, 8, 8, 8, 8, 8, 8, 8, 8, 8, 8, 8, 8, 8, 8, 8, 8, 8, 8, 8, 8, 8, 8, 8, 8, 8, 8, 8, 8, 8, 8, 8, 8, 8, 8, 8, 8, 8, 8, 8, 8, 8, 8, 8, 8, 8, 8, 8, 8, 8, 8, 8, 8, 8, 8, 8, 8, 8, 8, 8, 8, 8, 8, 8, 8, 8, 8, 8, 8, 8, 8, 8, 8, 8, 8, 8, 8, 8, 8, 8, 8, 8, 8, 8, 8, 8, 8, 8, 8, 8, 8, 8, 8, 8, 8, 8, 8, 8, 8, 8, 8, 8, 8, 8, 8, 8, 8, 8] 256) x5 h fun x6 h => aConvI 3 x6 h fun x7 h => aArith iadd x4 x7 h fun x8 h => some (x8, h)) (hd vs) (hd (tl vs))
noncomputable def c_math_bits_Len32_j2 (F g : Nat) (vs : List AV) (h : H) : Option R := (fun x1 x2 => aCmpI (fun a b => ile b a) x1 (AV.int 6 (Int.ofNat 256)) h fun x9 h => withBool x9 fun t10 => bc t10 (aShr x1 (AV.int 7 (Int.ofNat 8)) h fun x11 h => aArith iadd x2 (AV.int 3 (Int.ofNat 8)) h fun x12 h => (c_math_bits_Len32_j1 F g) [x11, x12] h) ((c_math_bits_Len32_j1 F g) [x1, x2] h)) (hd vs) (hd (tl vs))
noncomputable def c_math_bits_Len32 (F g : Nat) (a0 : AV) (h : H) : Option R := aCmpI (fun a b => ile b a) a0 (AV.int 6 (Int.ofNat 65536)) h fun x13 h => withBool x13 fun t14 => bc t14 (aShr a0 (AV.int 7 (Int.ofNat 16)) h fun x15 h => (c_math_bits_Len32_j2 F g) [x15, (AV.int 3 (Int.ofNat 16))] h) ((c_math_bits_Len32_j2 F g) [a0, (AV.int 3 (Int.ofNat 0))] h)
noncomputable def A_math_bits_Len32 : An := (.two .o (.at_ [0, 2] (.two .o (.two (.two .o .o) .o)) (.at_ [0, 2] (.two .o (.two (.two .o .o) .o)) (.two .o .o))))
noncomputable def b_math_bits_Len32 : Code := bodyOf Go.Proofs.Try.f176
theorem k_math_bits_Len32 (F g : Nat) (a0 : AV) (h : H) : callD Go.Proofs.Try.prog (fun _ _ _ => none : Env) 19 F b_math_bits_Len32 [2] A_math_bits_Len32 [a0] h = c_math_bits_Len32 F g a0 h := by kernel_rfl
theorem s_math_bits_Len32 (F g : Nat) : ∀ args h r, u1 (c_math_bits_Len32 F g) args h = some r → Tri Go.Proofs.Try.prog 176 args h r := by
  intro args h r e; obtain ⟨a0, rfl, e1⟩ := u1_some e; exact fn_sound Go.Proofs.Try.func176 rfl rfl rfl Go.Proofs.Try.ntmps176 (Sound.none _) ((k_math_bits_Len32 F g a0 h).trans e1)

-- "math/bits.Len64"
noncomputable def c_math_bits_Len64_j1 (F g : Nat) (vs : List AV) (h : H) : Option R := (fun x5 x6 => aConvI 4 x5 h fun x7 h => aIdxStr (AV.str [0, 1, 2, 2, 3, 3, 3, 3, 4, 4, 4, 4, 4, 4, 4, 4, 5, 5, 5, 5, 5, 5, 5, 5, 5, 5, 5, 5, 5, 5, 5, 5, 6, 6, 6, 6, 6, 6, 6, 6, 6, 6, 6, 6, 6, 6, 6, 6, 6, 6, 6, 6, 6, 6, 6, 6, 6, 6, 6, 6, 6, 6, 6, 6, 7, 7, 7, 7, 7, 7, 7, 7, 7, 7, 7, 7, 7, 7, 7, 7, 7, 7, 7, 7, 7, 7, 7, 7, 7, 7, 7, 7, 7, 7, 7, 7, 7, 7, 7, 7, 7, 7, 7, 7, 7, 7, 7, 7, 7, 7, 7, 7, 7, 7, 7, 7, 7, 7, 7, 7, 7, 7, 7, 7, 7, 7, 7, 7, 8, 8, 8, 8, 8, 8, 8, 8, 8, 8, 8, 8, 8, 8, 8, 8, 8, 8, 8, 8, 8, 8, 8, 8, 8, 8, 8, 8, 8, 8, 8, 8, 8, 8, 8, 8, 8, 8, 8, 8, 8, 8, 8, 8, 8, 8, 8, 8, 8, 8, 8, 8, 8, 8, 8, 8, 8, 8, 8, 8, 8, 8, 8, 8, 8, 8, 8, 8, 8, 8, 8, 8, 8, 8, 8, 8, 8, 8, 8, 8, 8, 8, 8, 8, 8, 8, 8, 8, 8, 8, 8, 8, 8, 8, 8, 8, 8, 8, 8, 8, 8, 8, 8, 8, 8, 8, 8, 8, 8, 8, 8, 8, 8, 8, 8, 8, 8, 8, 8, 8, 8, 8, 8, 8, 8, 8, 8, 8] 256) x7 h fun x8 h => aConvI 3 x8 h fun x9 h => aArith iadd x6 x9 h fun x10 h => some (x10, h)) (hd vs) (hd (tl vs))
noncomputable def c_math_bits_Len64_j2 (F g : Nat) (vs : List AV) (h : H) : Option R := (fun x3 x4 => aCmpI (fun a b => ile b a) x3 (AV.int 7 (Int.ofNat 256)) h fun x11 h => withBool x11 fun t12 => bc t12 (aShr x3 (AV.int 7 (Int.ofNat 8)) h fun x13 h => aArith iadd x4 (AV.int 3 (Int.ofNat 8)) h fun x14 h => (c_math_bits_Len64_j1 F g) [x13, x14] h) ((c_math_bits_Len64_j1 F g) [x3, x4] h)) (hd vs) (hd (tl vs))
noncomputable def c_math_bits_Len64_j3 (F g : Nat) (vs : List AV) (h : H) : Option R := (fun x1 x2 => aCmpI (fun a b => ile b a) x1 (AV.int 7 (Int.ofNat 65536)) h fun x15 h => withBool x15 fun t16 => bc t16 (aShr x1 (AV.int 7 (Int.ofNat 16)) h fun x17 h => aArith iadd x2 (AV.int 3 (Int.ofNat 16)) h fun x18 h => (c_math_bits_Len64_j2 F g) [x17, x18] h) ((c_math_bits_Len64_j2 F g) [x1, x2] h)) (hd vs) (hd (tl vs))
noncomputable def c_math_bits_Len64 (F g : Nat) (a0 : AV) (h : H) : Option R := aCmpI (fun a b => ile b a) a0 (AV.int 7 (Int.ofNat 4294967296)) h fun x19 h => withBool x19 fun t20 => bc t20 (aShr a0 (AV.int 7 (Int.ofNat 32)) h fun x21 h => (c_math_bits_Len64_j3 F g) [x21, (AV.int 3 (Int.ofNat 32))] h) ((c_math_bits_Len64_j3 F g) [a0, (AV.int 3 (Int.ofNat 0))] h)
noncomputable def A_math_bits_Len64 : An := (.two .o (.at_ [0, 2] (.two .o (.two (.two .o .o) .o)) (.at_ [0, 2] (.two .o (.two (.two .o .o) .o)) (.at_ [0, 2] (.two .o (.two (.two .o .o) .o)) (.two .o .o)))))
noncomputable def b_math_bits_Len64 : Code := bodyOf Go.Proofs.Try.f177
theorem k_math_bits_Len64 (F g : Nat) (a0 : AV) (h : H) : callD Go.Proofs.Try.prog (fun _ _ _ => none : Env) 25 F b_math_bits_Len64 [2] A_math_bits_Len64 [a0] h = c_math_bits_Len64 F g a0 h := by kernel_rfl
theorem s_math_bits_Len64 (F g : Nat) : ∀ args h r, u1 (c_math_bits_Len64 F g) args h = some r → Tri Go.Proofs.Try.prog 177 args h r := by
  intro args h r e; obtain ⟨a0, rfl, e1⟩ := u1_some e; exact fn_sound Go.Proofs.Try.func177 rfl rfl rfl Go.Proofs.Try.ntmps177 (Sound.none _) ((k_math_bits_Len64 F g a0 h).trans e1)

-- "math/bits.Len"
noncomputable def c_math_bits_Len (F g : Nat) (a0 : AV) (h : H) : Option R := withBool (AV.bool false) fun t1 => bc t1 (aConvI 6 a0 h fun x2 h => bindR (c_math_bits_Len32 F g x2 h) fun x3 h => some (x3, h)) (bindR (c_math_bits_Len64 F g a0 h) fun x4 h => some (x4, h))
noncomputable def A_math_bits_Len : An := (.two .o (.two (.two (.two .o .o) .o) (.two .o .o)))
noncomputable def b_math_bits_Len : Code := bodyOf Go.Proofs.Try.f156
theorem k_math_bits_Len (F g : Nat) (a0 : AV) (h : H) : callD Go.Proofs.Try.prog (Env.add (Env.add (fun _ _ _ => none : Env) 176 (u1 (c_math_bits_Len32 F g))) 177 (u1 (c_math_bits_Len64 F g))) 8 F b_math_bits_Len [2] A_math_bits_Len [a0] h = c_math_bits_Len F g a0 h := by kernel_rfl
theorem s_math_bits_Len (F g : Nat) : ∀ args h r, u1 (c_math_bits_Len F g) args h = some r → Tri Go.Proofs.Try.prog 156 args h r := by
  intro args h r e; obtain ⟨a0, rfl, e1⟩ := u1_some e; exact fn_sound Go.Proofs.Try.func156 rfl rfl rfl Go.Proofs.Try.ntmps156 (Sound.add (Sound.add (Sound.none _) (s_math_bits_Len32 F g)) (s_math_bits_Len64 F g)) ((k_math_bits_Len F g a0 h).trans e1)

-- "slices.insertionSortCmpFunc[*loop.example/treenumbers/impl.node]"
noncomputable abbrev D_slices_insertionSortCmpFunc_beeb (F g : Nat) (E : Env) : Env := E
noncomputable abbrev G_slices_insertionSortCmpFunc_beeb (F g : Nat) (E : Env) : Env := (D_slices_insertionSortCmpFunc_beeb F g E)
noncomputable def c_slices_insertionSortCmpFunc_beeb_j1 (F g : Nat) (kc2 : List AV → H → Option R) (kc10 : List AV → H → Option R) (vs : List AV) (h : H) : Option R := (fun x18 x19 x20 x21 x22 x23 x24 x25 => aPick x24 x25 (AV.bool false) h fun x26 _ => withBool x26 fun t27 => bc t27 (aArith isub x23 (AV.int 3 (Int.ofNat 1)) h fun x28 _ => aArith isub x23 (AV.int 3 (Int.ofNat 1)) h fun x29 _ => aIdxAddr 1 x18 x29 h fun x30 _ => aLoad x30 h fun x31 _ => aIdxAddr 1 x18 x23 h fun x32 _ => aLoad x32 h fun x33 _ => aIdxAddr 1 x18 x23 h fun x34 _ => aStore x34 x31 h fun x35 h => aIdxAddr 1 x18 x28 h fun x36 _ => aStore x36 x33 h fun x37 h => aArith isub x23 (AV.int 3 (Int.ofNat 1)) h fun x38 h => kc10 [x18, x19, x20, x21, x22, x38] h) (aArith iadd x22 (AV.int 3 (Int.ofNat 1)) h fun x39 h => kc2 [x18, x19, x20, x21, x39] h)) (hd vs) (hd (tl vs)) (hd (tl (tl vs))) (hd (tl (tl (tl vs)))) (hd (tl (tl (tl (tl vs))))) (hd (tl (tl (tl (tl (tl vs)))))) (hd (tl (tl (tl (tl (tl (tl vs))))))) (hd (tl (tl (tl (tl (tl (tl (tl vs))))))))
noncomputable def c_slices_insertionSortCmpFunc_beeb_l2 (F g : Nat) (E : Env) (kc2 : List AV → H → Option R) : List AV → H → (List AV → H → Option R) → Option R := fun vs h kc10 => (fun x11 x12 x13 x14 x15 x16 => aCmpI (fun a b => ilt b a) x16 x12 h fun x17 _ => guardB true x17 (aIdxAddr 1 x11 x16 h fun x40 _ => aLoad x40 h fun x41 _ => aArith isub x16 (AV.int 3 (Int.ofNat 1)) h fun x42 _ => aIdxAddr 1 x11 x42 h fun x43 _ => aLoad x43 h fun x44 _ => dCall (G_slices_insertionSortCmpFunc_beeb F g E) x14 [x41, x44] h fun x45 h => aCmpI ilt x45 (AV.int 3 (Int.ofNat 0)) h fun x46 _ => (c_slices_insertionSortCmpFunc_beeb_j1 F g kc2 kc10) [x11, x12, x13, x14, x15, x16, x17, x46] h) ((c_slices_insertionSortCmpFunc_beeb_j1 F g kc2 kc10) [x11, x12, x13, x14, x15, x16, x17, (AV.one .tup (AV.leaf .nil))] h)) (hd vs) (hd (tl vs)) (hd (tl (tl vs))) (hd (tl (tl (tl vs)))) (hd (tl (tl (tl (tl vs))))) (hd (tl (tl (tl (tl (tl vs))))))
noncomputable def c_slices_insertionSortCmpFunc_beeb_l3 (F g : Nat) (E : Env) : List AV → H → (List AV → H → Option R) → Option R := fun vs h kc2 => (fun x3 x4 x5 x6 x7 => aCmpI ilt x7 x5 h fun x8 h => withBool x8 fun t9 => bc t9 (loopD F (c_slices_insertionSortCmpFunc_beeb_l2 F g E kc2) [x3, x4, x5, x6, x7, x7] h) (some (AV.one .tup (AV.leaf .nil), h))) (hd vs) (hd (tl vs)) (hd (tl (tl vs))) (hd (tl (tl (tl vs)))) (hd (tl (tl (tl (tl vs)))))
noncomputable def c_slices_insertionSortCmpFunc_beeb (F g : Nat) (E : Env) (a0 a1 a2 a3 : AV) (h : H) : Option R := aArith iadd a1 (AV.int 3 (Int.ofNat 1)) h fun x1 h => loopD F (c_slices_insertionSortCmpFunc_beeb_l3 F g E) [a0, a1, a2, a3, x1] h
noncomputable def A_slices_insertionSortCmpFunc_beeb : An := (.two .o (.two (.at_ [0, 1, 2, 3, 8] (.two (.two .o (.two .o .o)) (.two (.two (.two .o (.two (.at_ [0, 1, 2, 3, 8, 9] (.two (.two (.at_ [0, 1, 2, 3, 8, 9, 21, 33] .o .o) (.two .o .o)) (.two (.two .o .o) .o)) .o) .o)) .o) .o)) .o) .o))
noncomputable def b_slices_insertionSortCmpFunc_beeb : Code := bodyOf Go.Proofs.Try.f168
theorem k_slices_insertionSortCmpFunc_beeb (F g : Nat) (E : Env) (a0 a1 a2 a3 : AV) (h : H) : callD Go.Proofs.Try.prog (G_slices_insertionSortCmpFunc_beeb F g E) 53 F b_slices_insertionSortCmpFunc_beeb [] A_slices_insertionSortCmpFunc_beeb [a0, a1, a2, a3] h = c_slices_insertionSortCmpFunc_beeb F g E a0 a1 a2 a3 h := by kernel_rfl
theorem s_slices_insertionSortCmpFunc_beeb (F g : Nat) (E : Env) (hE : Sound Go.Proofs.Try.prog E) : ∀ args h r, u4 (c_slices_insertionSortCmpFunc_beeb F g E) args h = some r → Tri Go.Proofs.Try.prog 168 args h r := by
  intro args h r e; obtain ⟨a0, a1, a2, a3, rfl, e1⟩ := u4_some e; exact fn_sound Go.Proofs.Try.func168 rfl rfl rfl Go.Proofs.Try.ntmps168 hE ((k_slices_insertionSortCmpFunc_beeb F g E a0 a1 a2 a3 h).trans e1)

-- "slices.pdqsortCmpFunc[*loop.example/treenumbers/impl.node]"
noncomputable abbrev D_slices_pdqsortCmpFunc_beeb (F g : Nat) (E : Env) : Env := E
noncomputable abbrev G_slices_pdqsortCmpFunc_beeb (F g : Nat) (E : Env) : Env := (Env.add (Env.add (Env.add (Env.add (D_slices_pdqsortCmpFunc_beeb F g E) 168 (u4 (c_slices_insertionSortCmpFunc_beeb F g (D_slices_pdqsortCmpFunc_beeb F g E)))) 169 (fun _ _ => none)) 171 (fun _ _ => none)) 170 (fun _ _ => none))
noncomputable def c_slices_pdqsortCmpFunc_beeb_j1 (F g : Nat) (vs : List AV) (h : H) : Option R := (fun x15 x16 x17 x18 x19 x20 x21 x22 => none) (hd vs) (hd (tl vs)) (hd (tl (tl vs))) (hd (tl (tl (tl vs)))) (hd (tl (tl (tl (tl vs))))) (hd (tl (tl (tl (tl (tl vs)))))) (hd (tl (tl (tl (tl (tl (tl vs))))))) (hd (tl (tl (tl (tl (tl (tl (tl vs))))))))
noncomputable def c_slices_pdqsortCmpFunc_beeb_l2 (F g : Nat) (E : Env) : List AV → H → (List AV → H → Option R) → Option R := fun vs h kc1 => (fun x2 x3 x4 x5 x6 x7 x8 => aArith isub x4 x3 h fun x9 h => aCmpI ile x9 (AV.int 3 (Int.ofNat 12)) h fun x10 h => withBool x10 fun t11 => bc t11 (bindR (c_slices_insertionSortCmpFunc_beeb F g (D_slices_pdqsortCmpFunc_beeb F g E) x2 x3 x4 x6 h) fun x12 h => some (AV.one .tup (AV.leaf .nil), h)) (aCmpI ieq x5 (AV.int 3 (Int.ofNat 0)) h fun x13 h => withBool x13 fun t14 => bc t14 (none) (aNot x7 h fun x23 h => withBool x23 fun t24 => bc t24 (none) ((c_slices_pdqsortCmpFunc_beeb_j1 F g) [x2, x3, x4, x5, x6, x7, x8, x9] h)))) (hd vs) (hd (tl vs)) (hd (tl (tl vs))) (hd (tl (tl (tl vs)))) (hd (tl (tl (tl (tl vs))))) (hd (tl (tl (tl (tl (tl vs)))))) (hd (tl (tl (tl (tl (tl (tl vs)))))))
noncomputable def c_slices_pdqsortCmpFunc_beeb (F g : Nat) (E : Env) (a0 a1 a2 a3 a4 : AV) (h : H) : Option R := loopD F (c_slices_pdqsortCmpFunc_beeb_l2 F g E) [a0, a1, a2, a3, a4, (AV.bool true), (AV.bool true)] h
noncomputable def A_slices_pdqsortCmpFunc_beeb : An := (.two .o (.two .o (.two (.at_ [0, 1, 2, 3, 4, 10, 11] (.two (.two .o (.two (.two .o (.two (.two .o .o) .o)) (.two (.two .o (.two (.two .o .o) .o)) (.at_ [0, 1, 2, 3, 4, 10, 11, 12] (.two .o (.two (.two .o .o) .o)) (.two .o (.at_ [0, 1, 2, 3, 4, 10, 11, 12, 13, 14] (.two .o (.two (.two .o (.two .o .o)) .o)) (.at_ [0, 1, 2, 3, 4, 10, 11, 12, 13] (.two (.at_ [0, 1, 2, 3, 4, 10, 11, 12, 13, 14, 69, 70] .o (.at_ [0, 1, 2, 3, 4, 10, 11, 12, 13, 72, 74] .o .o)) (.two (.two .o (.two .o .o)) .o)) (.two (.two (.at_ [0, 1, 2, 3, 4, 10, 11, 12, 13, 83, 96] .o .o) (.two (.two .o (.two .o .o)) .o)) (.two .o (.two .o (.two .o (.two .o (.two .o (.two (.two .o (.two .o .o)) (.two .o (.two .o .o)))))))))))))))) .o) .o) .o)))
noncomputable def b_slices_pdqsortCmpFunc_beeb : Code := bodyOf Go.Proofs.Try.f155
theorem k_slices_pdqsortCmpFunc_beeb (F g : Nat) (E : Env) (a0 a1 a2 a3 a4 : AV) (h : H) : callD Go.Proofs.Try.prog (G_slices_pdqsortCmpFunc_beeb F g E) 148 F b_slices_pdqsortCmpFunc_beeb [] A_slices_pdqsortCmpFunc_beeb [a0, a1, a2, a3, a4] h = c_slices_pdqsortCmpFunc_beeb F g E a0 a1 a2 a3 a4 h := by kernel_rfl
theorem s_slices_pdqsortCmpFunc_beeb (F g : Nat) (E : Env) (hE : Sound Go.Proofs.Try.prog E) : ∀ args h r, u5 (c_slices_pdqsortCmpFunc_beeb F g E) args h = some r → Tri Go.Proofs.Try.prog 155 args h r := by
  intro args h r e; obtain ⟨a0, a1, a2, a3, a4, rfl, e1⟩ := u5_some e; exact fn_sound Go.Proofs.Try.func155 rfl rfl rfl Go.Proofs.Try.ntmps155 (Sound.add (Sound.add (Sound.add (Sound.add hE (s_slices_insertionSortCmpFunc_beeb F g (D_slices_pdqsortCmpFunc_beeb F g E) hE)) (fun _ _ _ e => by cases e)) (fun _ _ _ e => by cases e)) (fun _ _ _ e => by cases e)) ((k_slices_pdqsortCmpFunc_beeb F g E a0 a1 a2 a3 a4 h).trans e1)

-- "slices.SortFunc[[]*loop.example/treenumbers/impl.node,*loop.example/treenumbers/impl.node]"
noncomputable abbrev D_slices_SortFunc_4168 (F g : Nat) (E : Env) : Env := E
noncomputable abbrev G_slices_SortFunc_4168 (F g : Nat) (E : Env) : Env := (Env.add (Env.add (D_slices_SortFunc_4168 F g E) 156 (u1 (c_math_bits_Len F g))) 155 (u5 (c_slices_pdqsortCmpFunc_beeb F g (D_slices_SortFunc_4168 F g E))))
noncomputable def c_slices_SortFunc_4168 (F g : Nat) (E : Env) (a0 a1 : AV) (h : H) : Option R := aLenK 1 a0 h fun x1 h => aConvI 7 x1 h fun x2 h => bindR (c_math_bits_Len F g x2 h) fun x3 h => bindR (c_slices_pdqsortCmpFunc_beeb F g (D_slices_SortFunc_4168 F g E) a0 (AV.int 3 (Int.ofNat 0)) x1 x3 a1 h) fun x4 h => some (AV.one .tup (AV.leaf .nil), h)
noncomputable def A_slices_SortFunc_4168 : An := (.two .o .o)
noncomputable def b_slices_SortFunc_4168 : Code := bodyOf Go.Proofs.Try.f140
theorem k_slices_SortFunc_4168 (F g : Nat) (E : Env) (a0 a1 : AV) (h : H) : callD Go.Proofs.Try.prog (G_slices_SortFunc_4168 F g E) 14 F b_slices_SortFunc_4168 [] A_slices_SortFunc_4168 [a0, a1] h = c_slices_SortFunc_4168 F g E a0 a1 h := by kernel_rfl
theorem s_slices_SortFunc_4168 (F g : Nat) (E : Env) (hE : Sound Go.Proofs.Try.prog E) : ∀ args h r, u2 (c_slices_SortFunc_4168 F g E) args h = some r → Tri Go.Proofs.Try.prog 140 args h r := by
  intro args h r e; obtain ⟨a0, a1, rfl, e1⟩ := u2_some e; exact fn_sound Go.Proofs.Try.func140 rfl rfl rfl Go.Proofs.Try.ntmps140 (Sound.add (Sound.add hE (s_math_bits_Len F g)) (s_slices_pdqsortCmpFunc_beeb F g (D_slices_SortFunc_4168 F g E) hE)) ((k_slices_SortFunc_4168 F g E a0 a1 h).trans e1)

-- "(*loop.example/treenumbers/impl.node).text"
noncomputable def c_impl_node_text_l1 (F g : Nat) (self : AV → H → Option R) : List AV → H → (List AV → H → Option R) → Option R := fun vs h kc5 => (fun x6 x7 x8 x9 => aCmpI ilt x9 x8 h fun x10 h => withBool x10 fun t11 => bc t11 (aIdxAddr 1 x7 x9 h fun x12 h => aLoad x12 h fun x13 h => bindR (self x13 h) fun x14 h => aSAdd x6 x14 h fun x15 h => aArith iadd x9 (AV.int 3 (Int.ofNat 1)) h fun x16 h => kc5 [x15, x7, x8, x16] h) (aSAdd x6 (AV.str [41] 1) h fun x17 h => some (x17, h))) (hd vs) (hd (tl vs)) (hd (tl (tl vs))) (hd (tl (tl (tl vs))))
noncomputable def c_impl_node_text (F g : Nat) : AV → H → Option R := Nat.rec (motive := fun _ => AV → H → Option R) (fun _ _ => none) (fun g self a0 h => aNilCheck a0 h fun x1 h => aField 2 x1 h fun x2 h => aLoad x2 h fun x3 h => aLenK 1 x3 h fun x4 h => loopD F (c_impl_node_text_l1 F g self) [(AV.str [40] 1), x3, x4, (AV.int 3 (Int.ofNat 0))] h) g
noncomputable def A_impl_node_text : An := (.two .o (.two .o (.two (.two .o (.two (.at_ [3, 9, 10, 11] (.two .o (.two (.two .o .o) (.two (.two (.two .o .o) .o) .o))) .o) .o)) (.two .o .o))))
noncomputable def b_impl_node_text : Code := bodyOf Go.Proofs.Try.f93
theorem k_impl_node_text (F g : Nat) (a0 : AV) (h : H) : callD Go.Proofs.Try.prog (Env.add (fun _ _ _ => none : Env) 93 (u1 (c_impl_node_text F g))) 22 F b_impl_node_text [2] A_impl_node_text [a0] h = c_impl_node_text F (g + 1) a0 h := by kernel_rfl
theorem s_impl_node_text (F g : Nat) : ∀ args h r, u1 (c_impl_node_text F g) args h = some r → Tri Go.Proofs.Try.prog 93 args h r := by
  induction g with
  | zero => intro args h r e; obtain ⟨a0, rfl, e⟩ := u1_some e; cases e
  | succ g ih => intro args h r e; obtain ⟨a0, rfl, e1⟩ := u1_some e; exact fn_sound Go.Proofs.Try.func93 rfl rfl rfl Go.Proofs.Try.ntmps93 (Sound.add (Sound.none _) ih) ((k_impl_node_text F g a0 h).trans e1)

-- "loop.example/treenumbers/impl.compareTexts"
noncomputable def c_impl_compareTexts (F g : Nat) (a0 a1 : AV) (h : H) : Option R := bindR (c_impl_node_text F g a0 h) fun x1 h => bindR (c_impl_node_text F g a1 h) fun x2 h => bindR (c_strings_Compare F g x1 x2 h) fun x3 h => some (x3, h)
noncomputable def A_impl_compareTexts : An := (.two .o (.two .o .o))
noncomputable def b_impl_compareTexts : Code := bodyOf Go.Proofs.Try.f141
theorem k_impl_compareTexts (F g : Nat) (a0 a1 : AV) (h : H) : callD Go.Proofs.Try.prog (Env.add (Env.add (fun _ _ _ => none : Env) 93 (u1 (c_impl_node_text F g))) 157 (u2 (c_strings_Compare F g))) 10 F b_impl_compareTexts [4] A_impl_compareTexts [a0, a1] h = c_impl_compareTexts F g a0 a1 h := by kernel_rfl
theorem s_impl_compareTexts (F g : Nat) : ∀ args h r, u2 (c_impl_compareTexts F g) args h = some r → Tri Go.Proofs.Try.prog 141 args h r := by
  intro args h r e; obtain ⟨a0, a1, rfl, e1⟩ := u2_some e; exact fn_sound Go.Proofs.Try.func141 rfl rfl rfl Go.Proofs.Try.ntmps141 (Sound.add (Sound.add (Sound.none _) (s_impl_node_text F g)) (s_strings_Compare F g)) ((k_impl_compareTexts F g a0 a1 h).trans e1)

-- "(*loop.example/treenumbers/impl.node).sort"
noncomputable abbrev D_impl_node_sort (F g : Nat) : Env := (Env.add (fun _ _ _ => none : Env) 141 (u2 (c_impl_compareTexts F g)))
noncomputable def c_impl_node_sort_l1 (F g : Nat) (self : AV → H → Option R) : List AV → H → (List AV → H → Option R) → Option R := fun vs h kc5 => (fun x6 x7 x8 x9 => aCmpI ilt x9 x8 h fun x10 h => withBool x10 fun t11 => bc t11 (aIdxAddr 1 x7 x9 h fun x12 h => aLoad x12 h fun x13 h => bindR (self x13 h) fun x14 h => aArith iadd x9 (AV.int 3 (Int.ofNat 1)) h fun x15 h => kc5 [x6, x7, x8, x15] h) (aNilCheck x6 h fun x16 h => aField 2 x16 h fun x17 h => aLoad x17 h fun x18 h => bindR (c_slices_SortFunc_4168 F g (D_impl_node_sort F g) x18 (AV.func (.func 141) (AV.leaf .nil) (AV.leaf .nil)) h) fun x19 h => some (AV.one .tup (AV.leaf .nil), h))) (hd vs) (hd (tl vs)) (hd (tl (tl vs))) (hd (tl (tl (tl vs))))
noncomputable def c_impl_node_sort (F g : Nat) : AV → H → Option R := Nat.rec (motive := fun _ => AV → H → Option R) (fun _ _ => none) (fun g self a0 h => aNilCheck a0 h fun x1 h => aField 2 x1 h fun x2 h => aLoad x2 h fun x3 h => aLenK 1 x3 h fun x4 h => loopD F (c_impl_node_sort_l1 F g self) [a0, x3, x4, (AV.int 3 (Int.ofNat 0))] h) g
noncomputable def A_impl_node_sort : An := (.two (.two .o (.two (.at_ [0, 7, 8, 9] (.two .o (.two (.two .o .o) (.two (.two (.two .o .o) .o) .o))) .o) .o)) .o)
noncomputable def b_impl_node_sort : Code := bodyOf Go.Proofs.Try.f98
theorem k_impl_node_sort (F g : Nat) (a0 : AV) (h : H) : callD Go.Proofs.Try.prog (Env.add (Env.add (D_impl_node_sort F g) 140 (u2 (c_slices_SortFunc_4168 F g (D_impl_node_sort F g)))) 98 (u1 (c_impl_node_sort F g))) 21 F b_impl_node_sort [] A_impl_node_sort [a0] h = c_impl_node_sort F (g + 1) a0 h := by kernel_rfl
theorem s_impl_node_sort (F g : Nat) : ∀ args h r, u1 (c_impl_node_sort F g) args h = some r → Tri Go.Proofs.Try.prog 98 args h r := by
  induction g with
  | zero => intro args h r e; obtain ⟨a0, rfl, e⟩ := u1_some e; cases e
  | succ g ih => intro args h r e; obtain ⟨a0, rfl, e1⟩ := u1_some e; exact fn_sound Go.Proofs.Try.func98 rfl rfl rfl Go.Proofs.Try.ntmps98 (Sound.add (Sound.add (Sound.add (Sound.none _) (s_impl_compareTexts F g)) (s_slices_SortFunc_4168 F g (D_impl_node_sort F g) (Sound.add (Sound.none _) (s_impl_compareTexts F g)))) ih) ((k_impl_node_sort F g a0 h).trans e1)

-- "loop.example/treenumbers/impl.TreeSorted"
noncomputable def c_impl_TreeSorted (F g : Nat) (a0 : AV) (h : H) : Option R := bindR (c_impl_readTree F g a0 h) fun x1 h => aExtract x1 0 h fun x2 h => aExtract x1 1 h fun x3 h => aNot x3 h fun x4 h => withBool x4 fun t5 => bc t5 (some (AV.one .tup (AV.cons (AV.str [] 0) (AV.cons (AV.bool false) (AV.leaf .nil))), h)) (bindR (c_impl_node_sort F g x2 h) fun x6 h => bindR (c_impl_node_text F g x2 h) fun x7 h => some (AV.one .tup (AV.cons x7 (AV.cons (AV.bool true) (AV.leaf .nil))), h))
noncomputable def A_impl_TreeSorted : An := (.two .o (.two .o (.two (.two .o (.two (.two .o .o) .o)) (.two .o (.two .o .o)))))
noncomputable def b_impl_TreeSorted : Code := bodyOf Go.Proofs.Try.f35
theorem k_impl_TreeSorted (F g : Nat) (a0 : AV) (h : H) : callD Go.Proofs.Try.prog (Env.add (Env.add (Env.add (fun _ _ _ => none : Env) 91 (u1 (c_impl_readTree F g))) 98 (u1 (c_impl_node_sort F g))) 93 (u1 (c_impl_node_text F g))) 17 F b_impl_TreeSorted [2, 3] A_impl_TreeSorted [a0] h = c_impl_TreeSorted F g a0 h := by kernel_rfl
theorem s_impl_TreeSorted (F g : Nat) : ∀ args h r, u1 (c_impl_TreeSorted F g) args h = some r → Tri Go.Proofs.Try.prog 35 args h r := by
  intro args h r e; obtain ⟨a0, rfl, e1⟩ := u1_some e; exact fn_sound Go.Proofs.Try.func35 rfl rfl rfl Go.Proofs.Try.ntmps35 (Sound.add (Sound.add (Sound.add (Sound.none _) (s_impl_readTree F g)) (s_impl_node_sort F g)) (s_impl_node_text F g)) ((k_impl_TreeSorted F g a0 h).trans e1)

-- "(*loop.example/treenumbers/impl.node).height"
noncomputable def c_impl_node_height_l1 (F g : Nat) (self : AV → H → Option R) : List AV → H → (List AV → H → Option R) → Option R := fun vs h kc5 => (fun x6 x7 x8 x9 => aCmpI ilt x9 x8 h fun x10 h => withBool x10 fun t11 => bc t11 (aIdxAddr 1 x7 x9 h fun x12 h => aLoad x12 h fun x13 h => bindR (self x13 h) fun x14 h => aArith iadd x14 (AV.int 3 (Int.ofNat 1)) h fun x15 h => aMM true x6 x15 h fun x16 h => aArith iadd x9 (AV.int 3 (Int.ofNat 1)) h fun x17 h => kc5 [x16, x7, x8, x17] h) (some (x6, h))) (hd vs) (hd (tl vs)) (hd (tl (tl vs))) (hd (tl (tl (tl vs))))
noncomputable def c_impl_node_height (F g : Nat) : AV → H → Option R := Nat.rec (motive := fun _ => AV → H → Option R) (fun _ _ => none) (fun g self a0 h => aNilCheck a0 h fun x1 h => aField 2 x1 h fun x2 h => aLoad x2 h fun x3 h => aLenK 1 x3 h fun x4 h => loopD F (c_impl_node_height_l1 F g self) [(AV.int 3 (Int.ofNat 0)), x3, x4, (AV.int 3 (Int.ofNat 0))] h) g
noncomputable def A_impl_node_height : An := (.two .o (.two .o (.two (.two .o (.two (.at_ [3, 9, 10, 11] (.two .o (.two (.two .o .o) (.two (.two (.two .o .o) .o) .o))) .o) .o)) (.two .o .o))))
noncomputable def b_impl_node_height : Code := bodyOf Go.Proofs.Try.f99
theorem k_impl_node_height (F g : Nat) (a0 : AV) (h : H) : callD Go.Proofs.Try.prog (Env.add (fun _ _ _ => none : Env) 99 (u1 (c_impl_node_height F g))) 22 F b_impl_node_height [2] A_impl_node_height [a0] h = c_impl_node_height F (g + 1) a0 h := by kernel_rfl
theorem s_impl_node_height (F g : Nat) : ∀ args h r, u1 (c_impl_node_height F g) args h = some r → Tri Go.Proofs.Try.prog 99 args h r := by
  induction g with
  | zero => intro args h r e; obtain ⟨a0, rfl, e⟩ := u1_some e; cases e
  | succ g ih => intro args h r e; obtain ⟨a0, rfl, e1⟩ := u1_some e; exact fn_sound Go.Proofs.Try.func99 rfl rfl rfl Go.Proofs.Try.ntmps99 (Sound.add (Sound.none _) ih) ((k_impl_node_height F g a0 h).trans e1)

-- "loop.example/treenumbers/impl.TreeHeight"
noncomputable def c_impl_TreeHeight (F g : Nat) (a0 : AV) (h : H) : Option R := bindR (c_impl_readTree F g a0 h) fun x1 h => aExtract x1 0 h fun x2 h => aExtract x1 1 h fun x3 h => aNot x3 h fun x4 h => withBool x4 fun t5 => bc t5 (some (AV.one .tup (AV.cons (AV.int 3 (Int.ofNat 0)) (AV.cons (AV.bool false) (AV.leaf .nil))), h)) (bindR (c_impl_node_height F g x2 h) fun x6 h => some (AV.one .tup (AV.cons x6 (AV.cons (AV.bool true) (AV.leaf .nil))), h))
noncomputable def A_impl_TreeHeight : An := (.two .o (.two .o (.two (.two .o (.two (.two .o .o) .o)) (.two .o .o))))
noncomputable def b_impl_TreeHeight : Code := bodyOf Go.Proofs.Try.f37
theorem k_impl_TreeHeight (F g : Nat) (a0 : AV) (h : H) : callD Go.Proofs.Try.prog (Env.add (Env.add (fun _ _ _ => none : Env) 91 (u1 (c_impl_readTree F g))) 99 (u1 (c_impl_node_height F g))) 15 F b_impl_TreeHeight [2, 3] A_impl_TreeHeight [a0] h = c_impl_TreeHeight F g a0 h := by kernel_rfl
theorem s_impl_TreeHeight (F g : Nat) : ∀ args h r, u1 (c_impl_TreeHeight F g) args h = some r → Tri Go.Proofs.Try.prog 37 args h r := by
  intro args h r e; obtain ⟨a0, rfl, e1⟩ := u1_some e; exact fn_sound Go.Proofs.Try.func37 rfl rfl rfl Go.Proofs.Try.ntmps37 (Sound.add (Sound.add (Sound.none _) (s_impl_readTree F g)) (s_impl_node_height F g)) ((k_impl_TreeHeight F g a0 h).trans e1)

-- "(*loop.example/treenumbers/impl.node).nodes"
noncomputable def c_impl_node_nodes_l1 (F g : Nat) (self : AV → H → Option R) : List AV → H → (List AV → H → Option R) → Option R := fun vs h kc6 => (fun x7 x8 x9 x10 => aCmpI ilt x10 x9 h fun x11 h => withBool x11 fun t12 => bc t12 (aIdxAddr 1 x8 x10 h fun x13 h => aLoad x13 h fun x14 h => bindR (self x14 h) fun x15 h => aAppend 1 8 x7 x15 h fun x16 h => aArith iadd x10 (AV.int 3 (Int.ofNat 1)) h fun x17 h => kc6 [x16, x8, x9, x17] h) (some (x7, h))) (hd vs) (hd (tl vs)) (hd (tl (tl vs))) (hd (tl (tl (tl vs))))
noncomputable def c_impl_node_nodes (F g : Nat) : AV → H → Option R := Nat.rec (motive := fun _ => AV → H → Option R) (fun _ _ => none) (fun g self a0 h => aBuildSlice 1 1 [(0, 1, a0)] h fun x1 h => aNilCheck a0 h fun x2 h => aField 2 x2 h fun x3 h => aLoad x3 h fun x4 h => aLenK 1 x4 h fun x5 h => loopD F (c_impl_node_nodes_l1 F g self) [x1, x4, x5, (AV.int 3 (Int.ofNat 0))] h) g
noncomputable def A_impl_node_nodes : An := (.two .o (.two .o (.two (.two .o (.two (.at_ [3, 11, 12, 13] (.two .o (.two (.two .o .o) (.two (.two (.two .o .o) .o) .o))) .o) .o)) (.two .o .o))))
noncomputable def b_impl_node_nodes : Code := bodyOf Go.Proofs.Try.f95
theorem k_impl_node_nodes (F g : Nat) (a0 : AV) (h : H) : callD Go.Proofs.Try.prog (Env.add (fun _ _ _ => none : Env) 95 (u1 (c_impl_node_nodes F g))) 23 F b_impl_node_nodes [2] A_impl_node_nodes [a0] h = c_impl_node_nodes F (g + 1) a0 h := by kernel_rfl
theorem s_impl_node_nodes (F g : Nat) : ∀ args h r, u1 (c_impl_node_nodes F g) args h = some r → Tri Go.Proofs.Try.prog 95 args h r := by
  induction g with
  | zero => intro args h r e; obtain ⟨a0, rfl, e⟩ := u1_some e; cases e
  | succ g ih => intro args h r e; obtain ⟨a0, rfl, e1⟩ := u1_some e; exact fn_sound Go.Proofs.Try.func95 rfl rfl rfl Go.Proofs.Try.ntmps95 (Sound.add (Sound.none _) ih) ((k_impl_node_nodes F g a0 h).trans e1)

-- "loop.example/treenumbers/impl.TreeLeaves"
noncomputable def c_impl_TreeLeaves_j1 (F g : Nat) (kc8 : List AV → H → Option R) (vs : List AV) (h : H) : Option R := (fun x15 x16 x17 x18 => aArith iadd x18 (AV.int 3 (Int.ofNat 1)) h fun x19 h => kc8 [x15, x16, x17, x19] h) (hd vs) (hd (tl vs)) (hd (tl (tl vs))) (hd (tl (tl (tl vs))))
noncomputable def c_impl_TreeLeaves_l2 (F g : Nat) : List AV → H → (List AV → H → Option R) → Option R := fun vs h kc8 => (fun x9 x10 x11 x12 => aCmpI ilt x12 x11 h fun x13 h => withBool x13 fun t14 => bc t14 (aIdxAddr 1 x10 x12 h fun x20 h => aLoad x20 h fun x21 h => aNilCheck x21 h fun x22 h => aField 2 x22 h fun x23 h => aLoad x23 h fun x24 h => aLenK 1 x24 h fun x25 h => aCmpI ieq x25 (AV.int 3 (Int.ofNat 0)) h fun x26 h => withBool x26 fun t27 => bc t27 (aArith iadd x9 (AV.int 3 (Int.ofNat 1)) h fun x28 h => (c_impl_TreeLeaves_j1 F g kc8) [x28, x10, x11, x12] h) ((c_impl_TreeLeaves_j1 F g kc8) [x9, x10, x11, x12] h)) (some (AV.one .tup (AV.cons x9 (AV.cons (AV.bool true) (AV.leaf .nil))), h))) (hd vs) (hd (tl vs)) (hd (tl (tl vs))) (hd (tl (tl (tl vs))))
noncomputable def c_impl_TreeLeaves (F g : Nat) (a0 : AV) (h : H) : Option R := bindR (c_impl_readTree F g a0 h) fun x1 h => aExtract x1 0 h fun x2 h => aExtract x1 1 h fun x3 h => aNot x3 h fun x4 h => withBool x4 fun t5 => bc t5 (some (AV.one .tup (AV.cons (AV.int 3 (Int.ofNat 0)) (AV.cons (AV.bool false) (AV.leaf .nil))), h)) (bindR (c_impl_node_nodes F g x2 h) fun x6 h => aLenK 1 x6 h fun x7 h => loopD F (c_impl_TreeLeaves_l2 F g) [(AV.int 3 (Int.ofNat 0)), x6, x7, (AV.int 3 (Int.ofNat 0))] h)
noncomputable def A_impl_TreeLeaves : An := (.two .o (.two .o (.two (.two .o (.two (.two .o .o) .o)) (.two .o (.two (.two .o (.two (.at_ [6, 17, 18, 19] (.two .o (.two (.two .o .o) (.at_ [6, 17, 18, 19] (.two (.two .o (.two .o (.two .o .o))) .o) .o))) .o) .o)) (.two .o .o))))))
noncomputable def b_impl_TreeLeaves : Code := bodyOf Go.Proofs.Try.f32
theorem k_impl_TreeLeaves (F g : Nat) (a0 : AV) (h : H) : callD Go.Proofs.Try.prog (Env.add (Env.add (fun _ _ _ => none : Env) 91 (u1 (c_impl_readTree F g))) 95 (u1 (c_impl_node_nodes F g))) 33 F b_impl_TreeLeaves [2, 3] A_impl_TreeLeaves [a0] h = c_impl_TreeLeaves F g a0 h := by kernel_rfl
theorem s_impl_TreeLeaves (F g : Nat) : ∀ args h r, u1 (c_impl_TreeLeaves F g) args h = some r → Tri Go.Proofs.Try.prog 32 args h r := by
  intro args h r e; obtain ⟨a0, rfl, e1⟩ := u1_some e; exact fn_sound Go.Proofs.Try.func32 rfl rfl rfl Go.Proofs.Try.ntmps32 (Sound.add (Sound.add (Sound.none _) (s_impl_readTree F g)) (s_impl_node_nodes F g)) ((k_impl_TreeLeaves F g a0 h).trans e1)

end
end Go.AI.T
namespace Go.AI.O
open Go Go.RowKit Go.AI
set_option linter.unusedVariables false
set_option linter.unusedSimpArgs false
set_option maxRecDepth 100000
noncomputable section
-- "loop.example/treenumbers/spec.DrawTreeAlike"
noncomputable def c_spec_DrawTreeAlike (F g : Nat) (a0 : AV) (h : H) : Option R := bindR (c_spec_l6Open F g a0 h) fun x1 h => bindR (c_spec_l91Two F g x1 (AV.int 3 (Int.ofNat 7)) h) fun x2 h => aExtract x2 0 h fun x3 h => aExtract x2 1 h fun x4 h => some (AV.one .tup (AV.cons x3 (AV.cons x4 (AV.leaf .nil))), h)
noncomputable def A_spec_DrawTreeAlike : An := (.two .o (.two .o .o))
noncomputable def b_spec_DrawTreeAlike : Code := bodyOf Go.Proofs.Try.f50
theorem k_spec_DrawTreeAlike (F g : Nat) (a0 : AV) (h : H) : callD Go.Proofs.Try.prog (Env.add (Env.add (fun _ _ _ => none : Env) 103 (u1 (c_spec_l6Open F g))) 109 (u2 (c_spec_l91Two F g))) 9 F b_spec_DrawTreeAlike [2, 3] A_spec_DrawTreeAlike [a0] h = c_spec_DrawTreeAlike F g a0 h := by kernel_rfl
theorem s_spec_DrawTreeAlike (F g : Nat) : ∀ args h r, u1 (c_spec_DrawTreeAlike F g) args h = some r → Tri Go.Proofs.Try.prog 50 args h r := by
  intro args h r e; obtain ⟨a0, rfl, e1⟩ := u1_some e; exact fn_sound Go.Proofs.Try.func50 rfl rfl rfl Go.Proofs.Try.ntmps50 (Sound.add (Sound.add (Sound.none _) (s_spec_l6Open F g)) (s_spec_l91Two F g)) ((k_spec_DrawTreeAlike F g a0 h).trans e1)

end
end Go.AI.O
namespace Go.AI.K
open Go Go.RowKit Go.AI Go.AI.O
set_option linter.unusedVariables false
set_option linter.unusedSimpArgs false
set_option maxRecDepth 100000
noncomputable section
def c_spec_TreeIn (F g : Nat) (a0 : AV) (h : H) : Option R := Go.AI.T.c_spec_TreeIn F g a0 h
theorem s_spec_TreeIn (F g : Nat) : ∀ args h r, u1 (c_spec_TreeIn F g) args h = some r → Tri Go.Proofs.Try.prog id_spec_TreeIn args h r := Go.AI.T.s_spec_TreeIn F g
def c_spec_l1Sorted (F g : Nat) (a0 : AV) (h : H) : Option R := Go.AI.O.c_spec_l1Sorted F g a0 h
theorem s_spec_l1Sorted (F g : Nat) : ∀ args h r, u1 (c_spec_l1Sorted F g) args h = some r → Tri Go.Proofs.Try.prog id_spec_l1Sorted args h r := Go.AI.O.s_spec_l1Sorted F g
def c_spec_DrawTreeAlike (F g : Nat) (a0 : AV) (h : H) : Option R := quietC (Go.AI.O.c_spec_DrawTreeAlike 20000 20) a0 h
theorem s_spec_DrawTreeAlike (F g : Nat) : ∀ args h r, u1 (c_spec_DrawTreeAlike F g) args h = some r → Tri Go.Proofs.Try.prog id_spec_DrawTreeAlike args h r := quietC_sound (Go.AI.O.s_spec_DrawTreeAlike 20000 20)
def c_impl_TreeSorted (F g : Nat) (a0 : AV) (h : H) : Option R := forgetC (Go.AI.T.c_impl_TreeSorted 20000 20) a0 h
theorem s_impl_TreeSorted (F g : Nat) : ∀ args h r, u1 (c_impl_TreeSorted F g) args h = some r → Tri Go.Proofs.Try.prog id_impl_TreeSorted args h r := forgetC_sound (Go.AI.T.s_impl_TreeSorted 20000 20)
def c_impl_TreeHeight (F g : Nat) (a0 : AV) (h : H) : Option R := forgetC (Go.AI.T.c_impl_TreeHeight 20000 20) a0 h
theorem s_impl_TreeHeight (F g : Nat) : ∀ args h r, u1 (c_impl_TreeHeight F g) args h = some r → Tri Go.Proofs.Try.prog id_impl_TreeHeight args h r := forgetC_sound (Go.AI.T.s_impl_TreeHeight 20000 20)
def c_impl_TreeLeaves (F g : Nat) (a0 : AV) (h : H) : Option R := forgetC (Go.AI.T.c_impl_TreeLeaves 20000 20) a0 h
theorem s_impl_TreeLeaves (F g : Nat) : ∀ args h r, u1 (c_impl_TreeLeaves F g) args h = some r → Tri Go.Proofs.Try.prog id_impl_TreeLeaves args h r := forgetC_sound (Go.AI.T.s_impl_TreeLeaves 20000 20)
end
end Go.AI.K
namespace Go.AI.K
open Go Go.RowKit Go.AI
set_option linter.unusedVariables false
set_option linter.unusedSimpArgs false
set_option maxRecDepth 100000
noncomputable section
-- "loop.example/treenumbers/impl.TreeAlike"
noncomputable def c_impl_TreeAlike_j1 (F g : Nat) (vs : List AV) (h : H) : Option R := (fun x12 x13 => aPick x12 x13 (AV.bool false) h fun x14 h => some (x14, h)) (hd vs) (hd (tl vs))
noncomputable def c_impl_TreeAlike_j2 (F g : Nat) (vs : List AV) (h : H) : Option R := (fun x7 x8 x9 x10 => aPick x9 x10 (AV.bool false) h fun x11 h => guardB true x11 (aCmpS eqL x7 x8 h fun x15 h => (c_impl_TreeAlike_j1 F g) [x11, x15] h) ((c_impl_TreeAlike_j1 F g) [x11, (AV.one .tup (AV.leaf .nil))] h)) (hd vs) (hd (tl vs)) (hd (tl (tl vs))) (hd (tl (tl (tl vs))))
noncomputable def c_impl_TreeAlike (F g : Nat) (a0 a1 : AV) (h : H) : Option R := bindR (c_impl_TreeSorted F g a0 h) fun x1 h => aExtract x1 0 h fun x2 h => aExtract x1 1 h fun x3 h => bindR (c_impl_TreeSorted F g a1 h) fun x4 h => aExtract x4 0 h fun x5 h => aExtract x4 1 h fun x6 h => guardB true x3 ((c_impl_TreeAlike_j2 F g) [x2, x5, x3, x6] h) ((c_impl_TreeAlike_j2 F g) [x2, x5, x3, (AV.one .tup (AV.leaf .nil))] h)
noncomputable def A_impl_TreeAlike : An := (.two .o (.two .o (.two .o (.two (.at_ [5, 7, 20, 21] .o (.at_ [23, 26] .o .o)) .o))))
noncomputable def b_impl_TreeAlike : Code := bodyOf Go.Proofs.Try.f47
theorem k_impl_TreeAlike (F g : Nat) (a0 a1 : AV) (h : H) : callD Go.Proofs.Try.prog (Env.add (fun _ _ _ => none : Env) 35 (u1 (c_impl_TreeSorted F g))) 28 F b_impl_TreeAlike [4] A_impl_TreeAlike [a0, a1] h = c_impl_TreeAlike F g a0 a1 h := by kernel_rfl
theorem s_impl_TreeAlike (F g : Nat) : ∀ args h r, u2 (c_impl_TreeAlike F g) args h = some r → Tri Go.Proofs.Try.prog 47 args h r := by
  intro args h r e; obtain ⟨a0, a1, rfl, e1⟩ := u2_some e; exact fn_sound Go.Proofs.Try.func47 rfl rfl rfl Go.Proofs.Try.ntmps47 (Sound.add (Sound.none _) (s_impl_TreeSorted F g)) ((k_impl_TreeAlike F g a0 a1 h).trans e1)

-- "loop.example/treenumbers/spec.TreeAlike"
noncomputable def c_spec_TreeAlike_j1 (F g : Nat) (vs : List AV) (h : H) : Option R := (fun x7 x8 => aPick x7 x8 (AV.bool false) h fun x9 h => some (x9, h)) (hd vs) (hd (tl vs))
noncomputable def c_spec_TreeAlike_j2 (F g : Nat) (vs : List AV) (h : H) : Option R := (fun x2 x3 x4 x5 => aPick x4 x5 (AV.bool false) h fun x6 h => guardB true x6 (bindR (c_spec_l1Sorted F g x2 h) fun x10 h => bindR (c_spec_l1Sorted F g x3 h) fun x11 h => aCmpS eqL x10 x11 h fun x12 h => (c_spec_TreeAlike_j1 F g) [x6, x12] h) ((c_spec_TreeAlike_j1 F g) [x6, (AV.one .tup (AV.leaf .nil))] h)) (hd vs) (hd (tl vs)) (hd (tl (tl vs))) (hd (tl (tl (tl vs))))
noncomputable def c_spec_TreeAlike (F g : Nat) (a0 a1 : AV) (h : H) : Option R := bindR (c_spec_TreeIn F g a0 h) fun x1 h => guardB true x1 (bindR (c_spec_TreeIn F g a1 h) fun x13 h => (c_spec_TreeAlike_j2 F g) [a0, a1, x1, x13] h) ((c_spec_TreeAlike_j2 F g) [a0, a1, x1, (AV.one .tup (AV.leaf .nil))] h)
noncomputable def A_spec_TreeAlike : An := (.two .o (.two (.at_ [0, 1, 7, 9] .o (.at_ [11, 16] .o .o)) .o))
noncomputable def b_spec_TreeAlike : Code := bodyOf Go.Proofs.Try.f51
theorem k_spec_TreeAlike (F g : Nat) (a0 a1 : AV) (h : H) : callD Go.Proofs.Try.prog (Env.add (Env.add (fun _ _ _ => none : Env) 25 (u1 (c_spec_TreeIn F g))) 108 (u1 (c_spec_l1Sorted F g))) 18 F b_spec_TreeAlike [4] A_spec_TreeAlike [a0, a1] h = c_spec_TreeAlike F g a0 a1 h := by kernel_rfl
theorem s_spec_TreeAlike (F g : Nat) : ∀ args h r, u2 (c_spec_TreeAlike F g) args h = some r → Tri Go.Proofs.Try.prog 51 args h r := by
  intro args h r e; obtain ⟨a0, a1, rfl, e1⟩ := u2_some e; exact fn_sound Go.Proofs.Try.func51 rfl rfl rfl Go.Proofs.Try.ntmps51 (Sound.add (Sound.add (Sound.none _) (s_spec_TreeIn F g)) (s_spec_l1Sorted F g)) ((k_spec_TreeAlike F g a0 a1 h).trans e1)

-- "loop.example/treenumbers/laws.FnAlike"
noncomputable def c_laws_FnAlike_j1 (F g : Nat) (vs : List AV) (h : H) : Option R := (fun x73 x74 => aPick x73 x74 (AV.bool false) h fun x75 h => some (x75, h)) (hd vs) (hd (tl vs))
noncomputable def c_laws_FnAlike_j2 (F g : Nat) (vs : List AV) (h : H) : Option R := (fun x68 x69 x70 x71 => aPick x70 x71 (AV.bool false) h fun x72 h => guardB true x72 (bindR (c_impl_TreeAlike F g x69 x68 h) fun x76 h => (c_laws_FnAlike_j1 F g) [x72, x76] h) ((c_laws_FnAlike_j1 F g) [x72, (AV.one .tup (AV.leaf .nil))] h)) (hd vs) (hd (tl vs)) (hd (tl (tl vs))) (hd (tl (tl (tl vs))))
noncomputable def c_laws_FnAlike_j3 (F g : Nat) (vs : List AV) (h : H) : Option R := (fun x61 x62 x63 x64 x65 x66 => aPick x65 x66 (AV.bool false) h fun x67 h => guardB true x67 (aCmpI ieq x63 x64 h fun x77 h => (c_laws_FnAlike_j2 F g) [x61, x62, x67, x77] h) ((c_laws_FnAlike_j2 F g) [x61, x62, x67, (AV.one .tup (AV.leaf .nil))] h)) (hd vs) (hd (tl vs)) (hd (tl (tl vs))) (hd (tl (tl (tl vs)))) (hd (tl (tl (tl (tl vs))))) (hd (tl (tl (tl (tl (tl vs))))))
noncomputable def c_laws_FnAlike_j4 (F g : Nat) (vs : List AV) (h : H) : Option R := (fun x52 x53 x54 x55 x56 x57 x58 x59 => aPick x58 x59 (AV.bool false) h fun x60 h => guardB true x60 (aCmpI ieq x54 x55 h fun x78 h => (c_laws_FnAlike_j3 F g) [x52, x53, x56, x57, x60, x78] h) ((c_laws_FnAlike_j3 F g) [x52, x53, x56, x57, x60, (AV.one .tup (AV.leaf .nil))] h)) (hd vs) (hd (tl vs)) (hd (tl (tl vs))) (hd (tl (tl (tl vs)))) (hd (tl (tl (tl (tl vs))))) (hd (tl (tl (tl (tl (tl vs)))))) (hd (tl (tl (tl (tl (tl (tl vs))))))) (hd (tl (tl (tl (tl (tl (tl (tl vs))))))))
noncomputable def c_laws_FnAlike_j5 (F g : Nat) (vs : List AV) (h : H) : Option R := (fun x42 x43 x44 x45 x46 x47 x48 x49 x50 => aPick x49 x50 (AV.bool false) h fun x51 h => guardB true x51 ((c_laws_FnAlike_j4 F g) [x42, x43, x44, x45, x46, x47, x51, x48] h) ((c_laws_FnAlike_j4 F g) [x42, x43, x44, x45, x46, x47, x51, (AV.one .tup (AV.leaf .nil))] h)) (hd vs) (hd (tl vs)) (hd (tl (tl vs))) (hd (tl (tl (tl vs)))) (hd (tl (tl (tl (tl vs))))) (hd (tl (tl (tl (tl (tl vs)))))) (hd (tl (tl (tl (tl (tl (tl vs))))))) (hd (tl (tl (tl (tl (tl (tl (tl vs)))))))) (hd (tl (tl (tl (tl (tl (tl (tl (tl vs)))))))))
noncomputable def c_laws_FnAlike_j6 (F g : Nat) (vs : List AV) (h : H) : Option R := (fun x31 x32 x33 x34 x35 x36 x37 x38 x39 x40 => aPick x39 x40 (AV.bool false) h fun x41 h => guardB true x41 ((c_laws_FnAlike_j5 F g) [x31, x32, x33, x34, x35, x37, x38, x41, x36] h) ((c_laws_FnAlike_j5 F g) [x31, x32, x33, x34, x35, x37, x38, x41, (AV.one .tup (AV.leaf .nil))] h)) (hd vs) (hd (tl vs)) (hd (tl (tl vs))) (hd (tl (tl (tl vs)))) (hd (tl (tl (tl (tl vs))))) (hd (tl (tl (tl (tl (tl vs)))))) (hd (tl (tl (tl (tl (tl (tl vs))))))) (hd (tl (tl (tl (tl (tl (tl (tl vs)))))))) (hd (tl (tl (tl (tl (tl (tl (tl (tl vs))))))))) (hd (tl (tl (tl (tl (tl (tl (tl (tl (tl vs))))))))))
noncomputable def c_laws_FnAlike_j7 (F g : Nat) (vs : List AV) (h : H) : Option R := (fun x10 x11 x12 x13 x14 x15 => aPick x14 (AV.bool true) x15 h fun x16 h => withBool x16 fun t17 => bc t17 (aEq false 0 x12 x13 h fun x18 h => some (x18, h)) (bindR (c_impl_TreeHeight F g x10 h) fun x19 h => aExtract x19 0 h fun x20 h => aExtract x19 1 h fun x21 h => bindR (c_impl_TreeHeight F g x11 h) fun x22 h => aExtract x22 0 h fun x23 h => aExtract x22 1 h fun x24 h => bindR (c_impl_TreeLeaves F g x10 h) fun x25 h => aExtract x25 0 h fun x26 h => aExtract x25 1 h fun x27 h => bindR (c_impl_TreeLeaves F g x11 h) fun x28 h => aExtract x28 0 h fun x29 h => aExtract x28 1 h fun x30 h => guardB true x21 ((c_laws_FnAlike_j6 F g) [x10, x11, x20, x23, x26, x27, x29, x30, x21, x24] h) ((c_laws_FnAlike_j6 F g) [x10, x11, x20, x23, x26, x27, x29, x30, x21, (AV.one .tup (AV.leaf .nil))] h))) (hd vs) (hd (tl vs)) (hd (tl (tl vs))) (hd (tl (tl (tl vs)))) (hd (tl (tl (tl (tl vs))))) (hd (tl (tl (tl (tl (tl vs))))))
noncomputable def c_laws_FnAlike (F g : Nat) (a0 : AV) (h : H) : Option R := aLenK 1 a0 h fun x1 h => aCmpI (fun a b => ilt b a) x1 (AV.int 3 (Int.ofNat 1048576)) h fun x2 h => withBool x2 fun t3 => bc t3 (some ((AV.bool true), h)) (bindR (c_spec_DrawTreeAlike F g a0 h) fun x4 h => aExtract x4 0 h fun x5 h => aExtract x4 1 h fun x6 h => bindR (c_impl_TreeAlike F g x5 x6 h) fun x7 h => bindR (c_spec_TreeAlike F g x5 x6 h) fun x8 h => aEq true 0 x7 x8 h fun x9 h => guardB false x9 (aNot x7 h fun x79 h => (c_laws_FnAlike_j7 F g) [x5, x6, x7, x8, x9, x79] h) ((c_laws_FnAlike_j7 F g) [x5, x6, x7, x8, x9, (AV.one .tup (AV.leaf .nil))] h))
noncomputable def A_laws_FnAlike : An := (.two .o (.two (.two .o (.two (.two .o .o) .o)) (.two .o (.two .o (.two .o (.two (.two (.at_ [3, 4, 5, 6, 32, 34] .o .o) (.two (.two .o .o) .o)) (.two .o (.two .o (.two .o (.two .o (.two (.at_ [3, 4, 7, 9, 11, 12, 13, 14, 60, 61] .o (.at_ [3, 4, 7, 9, 11, 13, 14, 63, 64] .o (.at_ [3, 4, 7, 9, 11, 13, 66, 67] .o (.at_ [3, 4, 11, 13, 69, 72] .o (.at_ [3, 4, 74, 77] .o (.at_ [79, 82] .o .o)))))) .o)))))))))))
noncomputable def b_laws_FnAlike : Code := bodyOf Go.Proofs.Try.f11
theorem k_laws_FnAlike (F g : Nat) (a0 : AV) (h : H) : callD Go.Proofs.Try.prog (Env.add (Env.add (Env.add (Env.add (Env.add (fun _ _ _ => none : Env) 50 (u1 (c_spec_DrawTreeAlike F g))) 47 (u2 (c_impl_TreeAlike F g))) 51 (u2 (c_spec_TreeAlike F g))) 37 (u1 (c_impl_TreeHeight F g))) 32 (u1 (c_impl_TreeLeaves F g))) 84 F b_laws_FnAlike [2] A_laws_FnAlike [a0] h = c_laws_FnAlike F g a0 h := by kernel_rfl
theorem s_laws_FnAlike (F g : Nat) : ∀ args h r, u1 (c_laws_FnAlike F g) args h = some r → Tri Go.Proofs.Try.prog 11 args h r := by
  intro args h r e; obtain ⟨a0, rfl, e1⟩ := u1_some e; exact fn_sound Go.Proofs.Try.func11 rfl rfl rfl Go.Proofs.Try.ntmps11 (Sound.add (Sound.add (Sound.add (Sound.add (Sound.add (Sound.none _) (s_spec_DrawTreeAlike F g)) (s_impl_TreeAlike F g)) (s_spec_TreeAlike F g)) (s_impl_TreeHeight F g)) (s_impl_TreeLeaves F g)) ((k_laws_FnAlike F g a0 h).trans e1)

end
end Go.AI.K
