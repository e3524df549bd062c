/- The functions that the law FnExactCutCount reaches, as the evaluator reads them. -/
import Derived.KernelRfl
import Derived.Test.YtjnmogmddhichaaRaw
import Derived.Test.YtjnmogmddhichaaProg
namespace Go.AI.T
open Go Go.RowKit Go.AI
set_option linter.unusedVariables false
set_option linter.unusedSimpArgs false
set_option maxRecDepth 100000
noncomputable section
-- "loop.example/treenumbers/spec.l1End"
noncomputable def c_spec_l1End_j1 (F g : Nat) (kc1 : List AV → H → Option R) (vs : List AV) (h : H) : Option R := (fun x8 x9 x10 => aCmpI ieq x9 (AV.int 3 (Int.ofNat 0)) h fun x11 h => withBool x11 fun t12 => bc t12 (aArith iadd x10 (AV.int 3 (Int.ofNat 1)) h fun x13 h => some (x13, h)) (aCmpI ilt x9 (AV.int 3 (Int.ofNat 0)) h fun x14 h => withBool x14 fun t15 => bc t15 (some ((AV.int 3 (Int.negSucc 0)), h)) (aArith iadd x10 (AV.int 3 (Int.ofNat 1)) h fun x16 h => kc1 [x8, x9, x16] h))) (hd vs) (hd (tl vs)) (hd (tl (tl vs)))
noncomputable def c_spec_l1End_l2 (F g : Nat) : List AV → H → (List AV → H → Option R) → Option R := fun vs h kc1 => (fun x2 x3 x4 => aLenK 0 x2 h fun x5 h => aCmpI ilt x4 x5 h fun x6 h => withBool x6 fun t7 => bc t7 (aIdxStr x2 x4 h fun x17 h => aCmpI ieq x17 (AV.int 4 (Int.ofNat 40)) h fun x18 h => withBool x18 fun t19 => bc t19 (aArith iadd x3 (AV.int 3 (Int.ofNat 1)) h fun x20 h => (c_spec_l1End_j1 F g kc1) [x2, x20, x4] h) (aCmpI ieq x17 (AV.int 4 (Int.ofNat 41)) h fun x21 h => withBool x21 fun t22 => bc t22 (aArith isub x3 (AV.int 3 (Int.ofNat 1)) h fun x23 h => (c_spec_l1End_j1 F g kc1) [x2, x23, x4] h) (some ((AV.int 3 (Int.negSucc 0)), h)))) (some ((AV.int 3 (Int.negSucc 0)), h))) (hd vs) (hd (tl vs)) (hd (tl (tl vs)))
noncomputable def c_spec_l1End (F g : Nat) (a0 a1 : AV) (h : H) : Option R := loopD F (c_spec_l1End_l2 F g) [a0, (AV.int 3 (Int.ofNat 0)), a1] h
noncomputable def A_spec_l1End : An := (.two .o (.two .o (.two (.two .o (.two (.at_ [0, 5, 6] (.two (.two .o (.two .o .o)) (.two (.two (.at_ [0, 5, 6] (.two .o (.two (.two .o (.two .o (.two .o (.two .o (.two .o .o))))) .o)) (.two (.two .o (.two (.two .o .o) .o)) (.two .o (.two (.two .o .o) .o)))) .o) .o)) .o) .o)) (.two .o .o))))
noncomputable def b_spec_l1End : Code := bodyOf Go.Proofs.Try.f47
theorem k_spec_l1End (F g : Nat) (a0 a1 : AV) (h : H) : callD Go.Proofs.Try.prog (fun _ _ _ => none : Env) 31 F b_spec_l1End [4] A_spec_l1End [a0, a1] h = c_spec_l1End F g a0 a1 h := by kernel_rfl
theorem s_spec_l1End (F g : Nat) : ∀ args h r, u2 (c_spec_l1End F g) args h = some r → Tri Go.Proofs.Try.prog 47 args h r := by
  intro args h r e; obtain ⟨a0, a1, rfl, e1⟩ := u2_some e; exact fn_sound Go.Proofs.Try.func47 rfl rfl rfl Go.Proofs.Try.ntmps47 (Sound.none _) ((k_spec_l1End F g a0 a1 h).trans e1)

-- "loop.example/treenumbers/spec.l1Kids"
noncomputable def c_spec_l1Kids_l1 (F g : Nat) : List AV → H → (List AV → H → Option R) → Option R := fun vs h kc2 => (fun x3 x4 x5 => aLenK 0 x3 h fun x6 h => aArith isub x6 (AV.int 3 (Int.ofNat 1)) h fun x7 h => aCmpI ilt x5 x7 h fun x8 h => withBool x8 fun t9 => bc t9 (bindR (c_spec_l1End F g x3 x5 h) fun x10 h => aSliceS x3 (some x5) (some x10) none h fun x11 h => aBuildSlice 1 1 [(0, 1, x11)] h fun x12 h => aAppend 1 16 x4 x12 h fun x13 h => kc2 [x3, x13, x10] h) (some (x4, h))) (hd vs) (hd (tl vs)) (hd (tl (tl vs)))
noncomputable def c_spec_l1Kids (F g : Nat) (a0 : AV) (h : H) : Option R := aBuildSlice 0 1 [] h fun x1 h => loopD F (c_spec_l1Kids_l1 F g) [a0, x1, (AV.int 3 (Int.ofNat 1))] h
noncomputable def A_spec_l1Kids : An := (.two .o (.two .o (.two .o (.two (.two (.at_ [0, 3, 4] (.two (.two .o (.two .o .o)) (.two (.two .o (.two .o .o)) .o)) .o) .o) (.two .o .o)))))
noncomputable def b_spec_l1Kids : Code := bodyOf Go.Proofs.Try.f48
theorem k_spec_l1Kids (F g : Nat) (a0 : AV) (h : H) : callD Go.Proofs.Try.prog (Env.add (fun _ _ _ => none : Env) 47 (u2 (c_spec_l1End F g))) 24 F b_spec_l1Kids [2] A_spec_l1Kids [a0] h = c_spec_l1Kids F g a0 h := by kernel_rfl
theorem s_spec_l1Kids (F g : Nat) : ∀ args h r, u1 (c_spec_l1Kids F g) args h = some r → Tri Go.Proofs.Try.prog 48 args h r := by
  intro args h r e; obtain ⟨a0, rfl, e1⟩ := u1_some e; exact fn_sound Go.Proofs.Try.func48 rfl rfl rfl Go.Proofs.Try.ntmps48 (Sound.add (Sound.none _) (s_spec_l1End F g)) ((k_spec_l1Kids F g a0 h).trans e1)

-- "loop.example/treenumbers/spec.l7Cuts"
noncomputable def c_spec_l7Cuts_l1 (F g : Nat) (self : AV → H → Option R) : List AV → H → (List AV → H → Option R) → Option R := fun vs h kc5 => (fun x6 x7 x8 => aLenK 1 x6 h fun x9 h => aCmpI ilt x8 x9 h fun x10 h => withBool x10 fun t11 => bc t11 (aIdxAddr 1 x6 x8 h fun x12 h => aLoad x12 h fun x13 h => bindR (self x13 h) fun x14 h => aArith imul x7 x14 h fun x15 h => aArith iadd x8 (AV.int 3 (Int.ofNat 1)) h fun x16 h => kc5 [x6, x15, x16] h) (aArith iadd x7 (AV.int 3 (Int.ofNat 1)) h fun x17 h => some (x17, h))) (hd vs) (hd (tl vs)) (hd (tl (tl vs)))
noncomputable def c_spec_l7Cuts (F g : Nat) : AV → H → Option R := Nat.rec (motive := fun _ => AV → H → Option R) (fun _ _ => none) (fun g self a0 h => bindR (c_spec_l1Kids F g a0 h) fun x1 h => aLenK 1 x1 h fun x2 h => aCmpI ieq x2 (AV.int 3 (Int.ofNat 0)) h fun x3 h => withBool x3 fun t4 => bc t4 (some ((AV.int 3 (Int.ofNat 1)), h)) (loopD F (c_spec_l7Cuts_l1 F g self) [x1, (AV.int 3 (Int.ofNat 1)), (AV.int 3 (Int.ofNat 0))] h)) g
noncomputable def A_spec_l7Cuts : An := (.two .o (.two .o (.two (.two .o (.two (.two .o .o) .o)) (.two .o (.two (.two .o (.two (.at_ [3, 4, 5] (.two (.two .o (.two .o .o)) (.two (.two .o .o) .o)) .o) .o)) (.two .o .o))))))
noncomputable def b_spec_l7Cuts : Code := bodyOf Go.Proofs.Try.f40
theorem k_spec_l7Cuts (F g : Nat) (a0 : AV) (h : H) : callD Go.Proofs.Try.prog (Env.add (Env.add (fun _ _ _ => none : Env) 48 (u1 (c_spec_l1Kids F g))) 40 (u1 (c_spec_l7Cuts F g))) 26 F b_spec_l7Cuts [2] A_spec_l7Cuts [a0] h = c_spec_l7Cuts F (g + 1) a0 h := by kernel_rfl
theorem s_spec_l7Cuts (F g : Nat) : ∀ args h r, u1 (c_spec_l7Cuts F g) args h = some r → Tri Go.Proofs.Try.prog 40 args h r := by
  induction g with
  | zero => intro args h r e; obtain ⟨a0, rfl, e⟩ := u1_some e; cases e
  | succ g ih => intro args h r e; obtain ⟨a0, rfl, e1⟩ := u1_some e; exact fn_sound Go.Proofs.Try.func40 rfl rfl rfl Go.Proofs.Try.ntmps40 (Sound.add (Sound.add (Sound.none _) (s_spec_l1Kids F g)) ih) ((k_spec_l7Cuts F g a0 h).trans e1)

-- "loop.example/treenumbers/spec.CutCount"
noncomputable def c_spec_CutCount (F g : Nat) (a0 : AV) (h : H) : Option R := bindR (c_spec_TreeIn F g a0 h) fun x1 h => aNot x1 h fun x2 h => withBool x2 fun t3 => bc t3 (some (AV.one .tup (AV.cons (AV.int 3 (Int.ofNat 0)) (AV.cons (AV.bool false) (AV.leaf .nil))), h)) (bindR (c_spec_l7Cuts F g a0 h) fun x4 h => some (AV.one .tup (AV.cons x4 (AV.cons (AV.bool true) (AV.leaf .nil))), h))
noncomputable def A_spec_CutCount : An := (.two .o (.two (.two .o (.two (.two .o .o) .o)) (.two .o .o)))
noncomputable def b_spec_CutCount : Code := bodyOf Go.Proofs.Try.f18
theorem k_spec_CutCount (F g : Nat) (a0 : AV) (h : H) : callD Go.Proofs.Try.prog (Env.add (Env.add (fun _ _ _ => none : Env) 25 (u1 (c_spec_TreeIn F g))) 40 (u1 (c_spec_l7Cuts F g))) 9 F b_spec_CutCount [2, 3] A_spec_CutCount [a0] h = c_spec_CutCount F g a0 h := by kernel_rfl
theorem s_spec_CutCount (F g : Nat) : ∀ args h r, u1 (c_spec_CutCount F g) args h = some r → Tri Go.Proofs.Try.prog 18 args h r := by
  intro args h r e; obtain ⟨a0, rfl, e1⟩ := u1_some e; exact fn_sound Go.Proofs.Try.func18 rfl rfl rfl Go.Proofs.Try.ntmps18 (Sound.add (Sound.add (Sound.none _) (s_spec_TreeIn F g)) (s_spec_l7Cuts F g)) ((k_spec_CutCount F g a0 h).trans e1)

-- "slices.Grow[[]*loop.example/treenumbers/impl.node,*loop.example/treenumbers/impl.node]"
noncomputable def c_slices_Grow_4168_j1 (F g : Nat) (vs : List AV) (h : H) : Option R := (fun x3 => some (x3, h)) (hd vs)
noncomputable def c_slices_Grow_4168_j2 (F g : Nat) (vs : List AV) (h : H) : Option R := (fun x1 x2 => aCap x1 h fun x4 h => aLenK 1 x1 h fun x5 h => aArith isub x4 x5 h fun x6 h => aArith isub x2 x6 h fun x7 h => aCmpI (fun a b => ilt b a) x7 (AV.int 3 (Int.ofNat 0)) h fun x8 h => withBool x8 fun t9 => bc t9 (aCap x1 h fun x10 h => aSliceV 1 x1 none (some x10) none h fun x11 h => aAppZ 1 8 [(AV.leaf .nilp)] x11 x7 h fun x12 h => aLenK 1 x1 h fun x13 h => aSliceV 1 x12 none (some x13) none h fun x14 h => (c_slices_Grow_4168_j1 F g) [x14] h) ((c_slices_Grow_4168_j1 F g) [x1] h)) (hd vs) (hd (tl vs))
noncomputable def c_slices_Grow_4168 (F g : Nat) (a0 a1 : AV) (h : H) : Option R := aCmpI ilt a1 (AV.int 3 (Int.ofNat 0)) h fun x15 h => withBool x15 fun t16 => bc t16 (aMkIface 9 (AV.str [99, 97, 110, 110, 111, 116, 32, 98, 101, 32, 110, 101, 103, 97, 116, 105, 118, 101] 18) h fun x17 h => none) ((c_slices_Grow_4168_j2 F g) [a0, a1] h)
noncomputable def A_slices_Grow_4168 : An := (.two .o (.at_ [0, 1] (.two .o (.two .o .o)) (.at_ [0] (.two .o (.two .o (.two .o .o))) (.two .o .o))))
noncomputable def b_slices_Grow_4168 : Code := bodyOf Go.Proofs.Try.f65
theorem k_slices_Grow_4168 (F g : Nat) (a0 a1 : AV) (h : H) : callD Go.Proofs.Try.prog (fun _ _ _ => none : Env) 27 F b_slices_Grow_4168 [4] A_slices_Grow_4168 [a0, a1] h = c_slices_Grow_4168 F g a0 a1 h := by kernel_rfl
theorem s_slices_Grow_4168 (F g : Nat) : ∀ args h r, u2 (c_slices_Grow_4168 F g) args h = some r → Tri Go.Proofs.Try.prog 65 args h r := by
  intro args h r e; obtain ⟨a0, a1, rfl, e1⟩ := u2_some e; exact fn_sound Go.Proofs.Try.func65 rfl rfl rfl Go.Proofs.Try.ntmps65 (Sound.none _) ((k_slices_Grow_4168 F g a0 a1 h).trans e1)

-- "slices.Concat[[]*loop.example/treenumbers/impl.node,*loop.example/treenumbers/impl.node]"
noncomputable def c_slices_Concat_4168_j1 (F g : Nat) (kc2 : List AV → H → Option R) (vs : List AV) (h : H) : Option R := (fun x10 x11 x12 x13 x14 => aArith iadd x14 (AV.int 3 (Int.ofNat 1)) h fun x15 h => kc2 [x10, x11, x12, x13, x15] h) (hd vs) (hd (tl vs)) (hd (tl (tl vs))) (hd (tl (tl (tl vs)))) (hd (tl (tl (tl (tl vs)))))
noncomputable def c_slices_Concat_4168_l2 (F g : Nat) : List AV → H → (List AV → H → Option R) → Option R := fun vs h kc25 => (fun x26 x27 x28 x29 => aCmpI ilt x29 x28 h fun x30 h => withBool x30 fun t31 => bc t31 (aIdxAddr 1 x27 x29 h fun x32 h => aLoad x32 h fun x33 h => aAppend 1 8 x26 x33 h fun x34 h => aArith iadd x29 (AV.int 3 (Int.ofNat 1)) h fun x35 h => kc25 [x34, x27, x28, x35] h) (some (x26, h))) (hd vs) (hd (tl vs)) (hd (tl (tl vs))) (hd (tl (tl (tl vs))))
noncomputable def c_slices_Concat_4168_l3 (F g : Nat) : List AV → H → (List AV → H → Option R) → Option R := fun vs h kc2 => (fun x3 x4 x5 x6 x7 => aCmpI ilt x7 x6 h fun x8 h => withBool x8 fun t9 => bc t9 (aIdxAddr 1 x5 x7 h fun x16 h => aLoad x16 h fun x17 h => aLenK 1 x17 h fun x18 h => aArith iadd x4 x18 h fun x19 h => aCmpI ilt x19 (AV.int 3 (Int.ofNat 0)) h fun x20 h => withBool x20 fun t21 => bc t21 (aMkIface 9 (AV.str [108, 101, 110, 32, 111, 117, 116, 32, 111, 102, 32, 114, 97, 110, 103, 101] 16) h fun x22 h => none) ((c_slices_Concat_4168_j1 F g kc2) [x3, x19, x5, x6, x7] h)) (bindR (c_slices_Grow_4168 F g (AV.leaf .nils) x4 h) fun x23 h => aLenK 1 x3 h fun x24 h => loopD F (c_slices_Concat_4168_l2 F g) [x23, x3, x24, (AV.int 3 (Int.ofNat 0))] h)) (hd vs) (hd (tl vs)) (hd (tl (tl vs))) (hd (tl (tl (tl vs)))) (hd (tl (tl (tl (tl vs)))))
noncomputable def c_slices_Concat_4168 (F g : Nat) (a0 : AV) (h : H) : Option R := aLenK 1 a0 h fun x1 h => loopD F (c_slices_Concat_4168_l3 F g) [a0, (AV.int 3 (Int.ofNat 0)), a0, x1, (AV.int 3 (Int.ofNat 0))] h
noncomputable def A_slices_Concat_4168 : An := (.two .o (.two .o (.two (.two .o (.two (.at_ [0, 3, 9, 10, 11] (.two .o (.two (.two .o .o) (.at_ [0, 3, 9, 10, 11] (.two (.two .o (.two .o (.two .o (.two .o .o)))) .o) .o))) .o) .o)) (.two .o (.two (.two .o (.two (.at_ [6, 25, 26, 27] (.two .o (.two (.two .o .o) (.two (.two (.two .o .o) .o) .o))) .o) .o)) (.two .o .o))))))
noncomputable def b_slices_Concat_4168 : Code := bodyOf Go.Proofs.Try.f42
theorem k_slices_Concat_4168 (F g : Nat) (a0 : AV) (h : H) : callD Go.Proofs.Try.prog (Env.add (fun _ _ _ => none : Env) 65 (u2 (c_slices_Grow_4168 F g))) 36 F b_slices_Concat_4168 [2] A_slices_Concat_4168 [a0] h = c_slices_Concat_4168 F g a0 h := by kernel_rfl
theorem s_slices_Concat_4168 (F g : Nat) : ∀ args h r, u1 (c_slices_Concat_4168 F g) args h = some r → Tri Go.Proofs.Try.prog 42 args h r := by
  intro args h r e; obtain ⟨a0, rfl, e1⟩ := u1_some e; exact fn_sound Go.Proofs.Try.func42 rfl rfl rfl Go.Proofs.Try.ntmps42 (Sound.add (Sound.none _) (s_slices_Grow_4168 F g)) ((k_slices_Concat_4168 F g a0 h).trans e1)

-- "loop.example/treenumbers/impl.CutCount$1"
noncomputable abbrev D_impl_CutCount_d1 (F g : Nat) (E : Env) : Env := E
noncomputable abbrev G_impl_CutCount_d1 (F g : Nat) (E : Env) : Env := (Env.add (D_impl_CutCount_d1 F g E) 42 (u1 (c_slices_Concat_4168 F g)))
noncomputable def c_impl_CutCount_d1 (F g : Nat) (E : Env) (a0 a1 a2 : AV) (h : H) : Option R := aLenK 1 a0 h fun x1 h => aCmpI ieq x1 (AV.int 3 (Int.ofNat 0)) h fun x2 h => withBool x2 fun t3 => bc t3 (aLoad a1 h fun x4 h => aArith iadd x4 (AV.int 3 (Int.ofNat 1)) h fun x5 h => aStore a1 x5 h fun x6 h => some (AV.one .tup (AV.leaf .nil), h)) (aIdxAddr 1 a0 (AV.int 3 (Int.ofNat 0)) h fun x7 _ => aLoad x7 h fun x8 _ => aSliceV 1 a0 (some (AV.int 3 (Int.ofNat 1))) none none h fun x9 _ => aLoad a2 h fun x10 h => dCall (G_impl_CutCount_d1 F g E) x10 [x9] h fun x11 h => aNilCheck x8 h fun x12 h => aField 2 x12 h fun x13 h => aLoad x13 h fun x14 h => aLenK 1 x14 h fun x15 h => aCmpI (fun a b => ilt b a) x15 (AV.int 3 (Int.ofNat 0)) h fun x16 h => withBool x16 fun t17 => bc t17 ((fun (W18 : List (Nat × List AV)) (lo19 : Nat) => (fun h => aLoad4 W18 a2 h fun x20 h => bc (okL W18 h) (aNilCheck x8 h fun x21 _ => bc (okL W18 h) (aField 2 x21 h fun x22 _ => bc (okL W18 h) (aLoad4 W18 x22 h fun x23 h => bc (okL W18 h) (aBuildSlice 2 1 [(0, 1, x23), (1, 1, x9)] h fun x24 h => bc (okL W18 h) (bindR (c_slices_Concat_4168 F g x24 h) fun x25 h => bc (okL W18 h) (dCall (G_impl_CutCount_d1 F g E) x20 [x25] h fun x26 h => (fun h => some (AV.one .tup (AV.leaf .nil), h)) (H.unmark h lo19)) none) none) none) none) none) none) (H.mark h)) (watchP h [a2, x8, (AV.leaf .undef)]) h.lo) (some (AV.one .tup (AV.leaf .nil), h)))
noncomputable def A_impl_CutCount_d1 : An := (.two (.two .o (.two (.two .o .o) .o)) (.two .o (.two .o (.two .o (.two (.at_ [0, 1, 2, 3, 4, 5, 6, 7, 8] .o .o) .o)))))
noncomputable def b_impl_CutCount_d1 : Code := bodyOf Go.Proofs.Try.f41
theorem k_impl_CutCount_d1 (F g : Nat) (E : Env) (a0 a1 a2 : AV) (h : H) : callD Go.Proofs.Try.prog (G_impl_CutCount_d1 F g E) 34 F b_impl_CutCount_d1 [] A_impl_CutCount_d1 [a0, a1, a2] h = c_impl_CutCount_d1 F g E a0 a1 a2 h := by kernel_rfl
theorem s_impl_CutCount_d1 (F g : Nat) (E : Env) (hE : Sound Go.Proofs.Try.prog E) : ∀ args h r, u3 (c_impl_CutCount_d1 F g E) args h = some r → Tri Go.Proofs.Try.prog 41 args h r := by
  intro args h r e; obtain ⟨a0, a1, a2, rfl, e1⟩ := u3_some e; exact fn_sound Go.Proofs.Try.func41 rfl rfl rfl Go.Proofs.Try.ntmps41 (Sound.add hE (s_slices_Concat_4168 F g)) ((k_impl_CutCount_d1 F g E a0 a1 a2 h).trans e1)
noncomputable def R_impl_CutCount_d1 (F : Nat) : Nat → Env := Nat.rec (motive := fun _ => Env) (fun _ _ _ => none) (fun g r => Env.add (fun _ _ _ => none) 41 (u3 (c_impl_CutCount_d1 F g r)))
theorem R_impl_CutCount_d1_sound (F : Nat) : ∀ g, Sound Go.Proofs.Try.prog (R_impl_CutCount_d1 F g)
  | 0 => Sound.none _
  | g + 1 => Sound.add (Sound.none _) (s_impl_CutCount_d1 F g (R_impl_CutCount_d1 F g) (R_impl_CutCount_d1_sound F g))


-- "loop.example/treenumbers/impl.CutCount"
noncomputable abbrev D_impl_CutCount (F g : Nat) (E : Env) : Env := (Env.add E 41 (u3 (c_impl_CutCount_d1 F g (R_impl_CutCount_d1 F g))))
noncomputable abbrev G_impl_CutCount (F g : Nat) (E : Env) : Env := (Env.add (D_impl_CutCount F g E) 27 (u1 (c_impl_readTree F g)))
noncomputable def c_impl_CutCount (F g : Nat) (E : Env) (a0 : AV) (h : H) : Option R := bindR (c_impl_readTree F g a0 h) fun x1 h => aExtract x1 0 h fun x2 h => aExtract x1 1 h fun x3 h => aNot x3 h fun x4 h => withBool x4 fun t5 => bc t5 (some (AV.one .tup (AV.cons (AV.int 3 (Int.ofNat 0)) (AV.cons (AV.bool false) (AV.leaf .nil))), h)) (aAlloc [(AV.int 3 (Int.ofNat 0))] h fun x6 h => aStore x6 (AV.int 3 (Int.ofNat 0)) h fun x7 h => aAlloc [(AV.leaf .nilf)] h fun x8 h => aMakeF (.func 41) [] [x6, x8] h fun x9 h => aStore x8 x9 h fun x10 h => aLoad x8 h fun x11 h => aBuildSlice 1 1 [(0, 1, x2)] h fun x12 h => dCall (G_impl_CutCount F g E) x11 [x12] h fun x13 h => aLoad x6 h fun x14 h => some (AV.one .tup (AV.cons x14 (AV.cons (AV.bool true) (AV.leaf .nil))), h))
noncomputable def A_impl_CutCount : An := (.two .o (.two .o (.two (.two .o (.two (.two .o .o) .o)) (.two .o (.two .o (.two .o (.two .o (.two .o .o))))))))
noncomputable def b_impl_CutCount : Code := bodyOf Go.Proofs.Try.f19
theorem k_impl_CutCount (F g : Nat) (E : Env) (a0 : AV) (h : H) : callD Go.Proofs.Try.prog (G_impl_CutCount F g E) 21 F b_impl_CutCount [2, 3] A_impl_CutCount [a0] h = c_impl_CutCount F g E a0 h := by kernel_rfl
theorem s_impl_CutCount (F g : Nat) (E : Env) (hE : Sound Go.Proofs.Try.prog E) : ∀ args h r, u1 (c_impl_CutCount F g E) args h = some r → Tri Go.Proofs.Try.prog 19 args h r := by
  intro args h r e; obtain ⟨a0, rfl, e1⟩ := u1_some e; exact fn_sound Go.Proofs.Try.func19 rfl rfl rfl Go.Proofs.Try.ntmps19 (Sound.add (Sound.add hE (s_impl_CutCount_d1 F g (R_impl_CutCount_d1 F g) (R_impl_CutCount_d1_sound F g))) (s_impl_readTree F g)) ((k_impl_CutCount F g E a0 h).trans e1)

-- "loop.example/treenumbers/laws.FnExactCutCount"
noncomputable abbrev D_laws_FnExactCutCount (F g : Nat) : Env := (fun _ _ _ => none : Env)
noncomputable def c_laws_FnExactCutCount_j1 (F g : Nat) (vs : List AV) (h : H) : Option R := (fun x11 x12 => aPick x11 (AV.bool true) x12 h fun x13 h => withBool x13 fun t14 => bc t14 (some ((AV.bool false), h)) (some ((AV.bool true), h))) (hd vs) (hd (tl vs))
noncomputable def c_laws_FnExactCutCount (F g : Nat) (a0 : AV) (h : H) : Option R := aLenK 0 a0 h fun x1 h => aCmpI (fun a b => ilt b a) x1 (AV.int 3 (Int.ofNat 1048576)) h fun x2 h => withBool x2 fun t3 => bc t3 (some ((AV.bool true), h)) (bindR (c_spec_CutCount F g a0 h) fun x4 h => aExtract x4 0 h fun x5 h => aExtract x4 1 h fun x6 h => bindR (c_impl_CutCount F g (D_laws_FnExactCutCount F g) a0 h) fun x7 h => aExtract x7 0 h fun x8 h => aExtract x7 1 h fun x9 h => aCmpI (fun a b => bnot (ieq a b)) x8 x5 h fun x10 h => guardB false x10 (aEq true 0 x9 x6 h fun x15 h => (c_laws_FnExactCutCount_j1 F g) [x10, x15] h) ((c_laws_FnExactCutCount_j1 F g) [x10, (AV.one .tup (AV.leaf .nil))] h))
noncomputable def A_laws_FnExactCutCount : An := (.two .o (.two (.two .o (.two (.two .o .o) .o)) (.two .o (.two .o (.two (.two (.at_ [23, 26] .o .o) (.two (.two .o .o) .o)) (.two .o .o))))))
noncomputable def b_laws_FnExactCutCount : Code := bodyOf Go.Proofs.Try.f5
theorem k_laws_FnExactCutCount (F g : Nat) (a0 : AV) (h : H) : callD Go.Proofs.Try.prog (Env.add (Env.add (fun _ _ _ => none : Env) 18 (u1 (c_spec_CutCount F g))) 19 (u1 (c_impl_CutCount F g (D_laws_FnExactCutCount F g)))) 28 F b_laws_FnExactCutCount [2] A_laws_FnExactCutCount [a0] h = c_laws_FnExactCutCount F g a0 h := by kernel_rfl
theorem s_laws_FnExactCutCount (F g : Nat) : ∀ args h r, u1 (c_laws_FnExactCutCount F g) args h = some r → Tri Go.Proofs.Try.prog 5 args h r := by
  intro args h r e; obtain ⟨a0, rfl, e1⟩ := u1_some e; exact fn_sound Go.Proofs.Try.func5 rfl rfl rfl Go.Proofs.Try.ntmps5 (Sound.add (Sound.add (Sound.none _) (s_spec_CutCount F g)) (s_impl_CutCount F g (D_laws_FnExactCutCount F g) (Sound.none _))) ((k_laws_FnExactCutCount F g a0 h).trans e1)

end
end Go.AI.T
