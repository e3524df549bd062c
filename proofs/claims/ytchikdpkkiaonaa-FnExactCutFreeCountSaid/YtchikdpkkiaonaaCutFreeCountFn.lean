/- The functions that the law FnExactCutFreeCount reaches, as the evaluator reads them. -/
import Derived.KernelRfl
import Derived.Test.YtchikdpkkiaonaaRaw
import Derived.Test.YtchikdpkkiaonaaProg
namespace Go.AI.T
open Go Go.RowKit Go.AI
set_option linter.unusedVariables false
set_option linter.unusedSimpArgs false
set_option maxRecDepth 100000
noncomputable section
-- "loop.example/treenumbers/spec.l1End"
noncomputable def c_spec_l1End_j1 (F g : Nat) (kc1 : List AV → H → Option R) (vs : List AV) (h : H) : Option R := (fun x8 x9 x10 => aCmpI ieq x9 (AV.int 3 (Int.ofNat 0)) h fun x11 h => withBool x11 fun t12 => bc t12 (aArith iadd x10 (AV.int 3 (Int.ofNat 1)) h fun x13 h => some (x13, h)) (aCmpI ilt x9 (AV.int 3 (Int.ofNat 0)) h fun x14 h => withBool x14 fun t15 => bc t15 (some ((AV.int 3 (Int.negSucc 0)), h)) (aArith iadd x10 (AV.int 3 (Int.ofNat 1)) h fun x16 h => kc1 [x8, x9, x16] h))) (hd vs) (hd (tl vs)) (hd (tl (tl vs)))
noncomputable def c_spec_l1End_l2 (F g : Nat) : List AV → H → (List AV → H → Option R) → Option R := fun vs h kc1 => (fun x2 x3 x4 => aLenK 0 x2 h fun x5 h => aCmpI ilt x4 x5 h fun x6 h => withBool x6 fun t7 => bc t7 (aIdxStr x2 x4 h fun x17 h => aCmpI ieq x17 (AV.int 4 (Int.ofNat 40)) h fun x18 h => withBool x18 fun t19 => bc t19 (aArith iadd x3 (AV.int 3 (Int.ofNat 1)) h fun x20 h => (c_spec_l1End_j1 F g kc1) [x2, x20, x4] h) (aCmpI ieq x17 (AV.int 4 (Int.ofNat 41)) h fun x21 h => withBool x21 fun t22 => bc t22 (aArith isub x3 (AV.int 3 (Int.ofNat 1)) h fun x23 h => (c_spec_l1End_j1 F g kc1) [x2, x23, x4] h) (some ((AV.int 3 (Int.negSucc 0)), h)))) (some ((AV.int 3 (Int.negSucc 0)), h))) (hd vs) (hd (tl vs)) (hd (tl (tl vs)))
noncomputable def c_spec_l1End (F g : Nat) (a0 a1 : AV) (h : H) : Option R := loopD F (c_spec_l1End_l2 F g) [a0, (AV.int 3 (Int.ofNat 0)), a1] h
noncomputable def A_spec_l1End : An := (.two .o (.two .o (.two (.two .o (.two (.at_ [0, 5, 6] (.two (.two .o (.two .o .o)) (.two (.two (.at_ [0, 5, 6] (.two .o (.two (.two .o (.two .o (.two .o (.two .o (.two .o .o))))) .o)) (.two (.two .o (.two (.two .o .o) .o)) (.two .o (.two (.two .o .o) .o)))) .o) .o)) .o) .o)) (.two .o .o))))
noncomputable def b_spec_l1End : Code := bodyOf Go.Proofs.Try.f46
theorem k_spec_l1End (F g : Nat) (a0 a1 : AV) (h : H) : callD Go.Proofs.Try.prog (fun _ _ _ => none : Env) 31 F b_spec_l1End [4] A_spec_l1End [a0, a1] h = c_spec_l1End F g a0 a1 h := by kernel_rfl
theorem s_spec_l1End (F g : Nat) : ∀ args h r, u2 (c_spec_l1End F g) args h = some r → Tri Go.Proofs.Try.prog 46 args h r := by
  intro args h r e; obtain ⟨a0, a1, rfl, e1⟩ := u2_some e; exact fn_sound Go.Proofs.Try.func46 rfl rfl rfl Go.Proofs.Try.ntmps46 (Sound.none _) ((k_spec_l1End F g a0 a1 h).trans e1)

-- "loop.example/treenumbers/spec.l1Kids"
noncomputable def c_spec_l1Kids_l1 (F g : Nat) : List AV → H → (List AV → H → Option R) → Option R := fun vs h kc2 => (fun x3 x4 x5 => aLenK 0 x3 h fun x6 h => aArith isub x6 (AV.int 3 (Int.ofNat 1)) h fun x7 h => aCmpI ilt x5 x7 h fun x8 h => withBool x8 fun t9 => bc t9 (bindR (c_spec_l1End F g x3 x5 h) fun x10 h => aSliceS x3 (some x5) (some x10) none h fun x11 h => aBuildSlice 1 1 [(0, 1, x11)] h fun x12 h => aAppend 1 16 x4 x12 h fun x13 h => kc2 [x3, x13, x10] h) (some (x4, h))) (hd vs) (hd (tl vs)) (hd (tl (tl vs)))
noncomputable def c_spec_l1Kids (F g : Nat) (a0 : AV) (h : H) : Option R := aBuildSlice 0 1 [] h fun x1 h => loopD F (c_spec_l1Kids_l1 F g) [a0, x1, (AV.int 3 (Int.ofNat 1))] h
noncomputable def A_spec_l1Kids : An := (.two .o (.two .o (.two .o (.two (.two (.at_ [0, 3, 4] (.two (.two .o (.two .o .o)) (.two (.two .o (.two .o .o)) .o)) .o) .o) (.two .o .o)))))
noncomputable def b_spec_l1Kids : Code := bodyOf Go.Proofs.Try.f47
theorem k_spec_l1Kids (F g : Nat) (a0 : AV) (h : H) : callD Go.Proofs.Try.prog (Env.add (fun _ _ _ => none : Env) 46 (u2 (c_spec_l1End F g))) 24 F b_spec_l1Kids [2] A_spec_l1Kids [a0] h = c_spec_l1Kids F g a0 h := by kernel_rfl
theorem s_spec_l1Kids (F g : Nat) : ∀ args h r, u1 (c_spec_l1Kids F g) args h = some r → Tri Go.Proofs.Try.prog 47 args h r := by
  intro args h r e; obtain ⟨a0, rfl, e1⟩ := u1_some e; exact fn_sound Go.Proofs.Try.func47 rfl rfl rfl Go.Proofs.Try.ntmps47 (Sound.add (Sound.none _) (s_spec_l1End F g)) ((k_spec_l1Kids F g a0 h).trans e1)

-- "loop.example/treenumbers/spec.l7Count"
noncomputable def c_spec_l7Count_l1 (F g : Nat) (self : AV → H → Option R) : List AV → H → (List AV → H → Option R) → Option R := fun vs h kc2 => (fun x3 x4 x5 x6 => aLenK 1 x5 h fun x7 h => aCmpI ilt x6 x7 h fun x8 h => withBool x8 fun t9 => bc t9 (aIdxAddr 1 x5 x6 h fun x10 h => aLoad x10 h fun x11 h => bindR (self x11 h) fun x12 h => aExtract x12 0 h fun x13 h => aExtract x12 1 h fun x14 h => aArith imul x3 x14 h fun x15 h => aArith iadd x13 x14 h fun x16 h => aArith imul x4 x16 h fun x17 h => aArith iadd x6 (AV.int 3 (Int.ofNat 1)) h fun x18 h => kc2 [x15, x17, x5, x18] h) (some (AV.one .tup (AV.cons x3 (AV.cons x4 (AV.leaf .nil))), h))) (hd vs) (hd (tl vs)) (hd (tl (tl vs))) (hd (tl (tl (tl vs))))
noncomputable def c_spec_l7Count (F g : Nat) : AV → H → Option R := Nat.rec (motive := fun _ => AV → H → Option R) (fun _ _ => none) (fun g self a0 h => bindR (c_spec_l1Kids F g a0 h) fun x1 h => loopD F (c_spec_l7Count_l1 F g self) [(AV.int 3 (Int.ofNat 1)), (AV.int 3 (Int.ofNat 1)), x1, (AV.int 3 (Int.ofNat 0))] h) g
noncomputable def A_spec_l7Count : An := (.two .o (.two .o (.two .o (.two .o (.two (.two .o (.two (.at_ [4, 5, 6, 7] (.two (.two .o (.two .o .o)) (.two (.two (.two .o (.two .o .o)) .o) .o)) .o) .o)) (.two .o .o))))))
noncomputable def b_spec_l7Count : Code := bodyOf Go.Proofs.Try.f40
theorem k_spec_l7Count (F g : Nat) (a0 : AV) (h : H) : callD Go.Proofs.Try.prog (Env.add (Env.add (fun _ _ _ => none : Env) 47 (u1 (c_spec_l1Kids F g))) 40 (u1 (c_spec_l7Count F g))) 36 F b_spec_l7Count [2, 3] A_spec_l7Count [a0] h = c_spec_l7Count F (g + 1) a0 h := by kernel_rfl
theorem s_spec_l7Count (F g : Nat) : ∀ args h r, u1 (c_spec_l7Count F g) args h = some r → Tri Go.Proofs.Try.prog 40 args h r := by
  induction g with
  | zero => intro args h r e; obtain ⟨a0, rfl, e⟩ := u1_some e; cases e
  | succ g ih => intro args h r e; obtain ⟨a0, rfl, e1⟩ := u1_some e; exact fn_sound Go.Proofs.Try.func40 rfl rfl rfl Go.Proofs.Try.ntmps40 (Sound.add (Sound.add (Sound.none _) (s_spec_l1Kids F g)) ih) ((k_spec_l7Count F g a0 h).trans e1)

-- "loop.example/treenumbers/spec.CutFreeCount"
noncomputable def c_spec_CutFreeCount (F g : Nat) (a0 : AV) (h : H) : Option R := bindR (c_spec_TreeIn F g a0 h) fun x1 h => aNot x1 h fun x2 h => withBool x2 fun t3 => bc t3 (some (AV.one .tup (AV.cons (AV.int 3 (Int.ofNat 0)) (AV.cons (AV.bool false) (AV.leaf .nil))), h)) (bindR (c_spec_l7Count F g a0 h) fun x4 h => aExtract x4 0 h fun x5 h => aExtract x4 1 h fun x6 h => aArith iadd x5 x6 h fun x7 h => some (AV.one .tup (AV.cons x7 (AV.cons (AV.bool true) (AV.leaf .nil))), h))
noncomputable def A_spec_CutFreeCount : An := (.two .o (.two (.two .o (.two (.two .o .o) .o)) (.two .o (.two .o .o))))
noncomputable def b_spec_CutFreeCount : Code := bodyOf Go.Proofs.Try.f22
theorem k_spec_CutFreeCount (F g : Nat) (a0 : AV) (h : H) : callD Go.Proofs.Try.prog (Env.add (Env.add (fun _ _ _ => none : Env) 28 (u1 (c_spec_TreeIn F g))) 40 (u1 (c_spec_l7Count F g))) 17 F b_spec_CutFreeCount [2, 3] A_spec_CutFreeCount [a0] h = c_spec_CutFreeCount F g a0 h := by kernel_rfl
theorem s_spec_CutFreeCount (F g : Nat) : ∀ args h r, u1 (c_spec_CutFreeCount F g) args h = some r → Tri Go.Proofs.Try.prog 22 args h r := by
  intro args h r e; obtain ⟨a0, rfl, e1⟩ := u1_some e; exact fn_sound Go.Proofs.Try.func22 rfl rfl rfl Go.Proofs.Try.ntmps22 (Sound.add (Sound.add (Sound.none _) (s_spec_TreeIn F g)) (s_spec_l7Count F g)) ((k_spec_CutFreeCount F g a0 h).trans e1)

-- "loop.example/treenumbers/impl.freeSets[int]"
noncomputable def D_impl_freeSets_46f8 (F g : Nat) (E : Env) : Env := E
noncomputable def G_impl_freeSets_46f8 (F g : Nat) (E : Env) (self : AV → AV → AV → AV → H → Option R) : Env := (Env.add (D_impl_freeSets_46f8 F g E) 51 (u4 self))
noncomputable def c_impl_freeSets_46f8_l1 (F g : Nat) (E : Env) (self : AV → AV → AV → AV → H → Option R) : List AV → H → (List AV → H → Option R) → Option R := fun vs h kc10 => (fun x11 x12 x13 x14 x15 x16 x17 x18 => aCmpI ilt x18 x17 h fun x19 h => withBool x19 fun t20 => bc t20 (aIdxAddr 1 x16 x18 h fun x21 h => aLoad x21 h fun x22 h => aLoadN 2 x13 h fun x23 h => bindR (self x22 x23 x11 x12 h) fun x24 h => aAlloc [(AV.int 3 (Int.ofNat 0)), (AV.int 3 (Int.ofNat 0))] h fun x25 h => aStoreN 2 x25 x24 h fun x26 h => aField 0 x15 h fun x27 h => aLoad x27 h fun x28 h => aField 1 x25 h fun x29 h => aLoad x29 h fun x30 h => dCall (G_impl_freeSets_46f8 F g E self) x11 [x28, x30] h fun x31 h => aField 0 x15 h fun x32 h => aStore x32 x31 h fun x33 h => aField 1 x15 h fun x34 _ => aLoad x34 h fun x35 _ => aField 0 x25 h fun x36 _ => aLoad x36 h fun x37 _ => aField 1 x25 h fun x38 _ => aLoad x38 h fun x39 _ => dCallF (G_impl_freeSets_46f8 F g E self) x12 [x37, x39] h fun x40 _ => dCallF (G_impl_freeSets_46f8 F g E self) x11 [x35, x40] h fun x41 _ => aField 1 x15 h fun x42 _ => aStore x42 x41 h fun x43 h => aArith iadd x18 (AV.int 3 (Int.ofNat 1)) h fun x44 h => kc10 [x11, x12, x13, x14, x15, x16, x17, x44] h) (aLoadN 2 x15 h fun x45 h => aStoreN 2 x14 x45 h fun x46 h => aLoadN 2 x14 h (fun x h => some (x, h)))) (hd vs) (hd (tl vs)) (hd (tl (tl vs))) (hd (tl (tl (tl vs)))) (hd (tl (tl (tl (tl vs))))) (hd (tl (tl (tl (tl (tl vs)))))) (hd (tl (tl (tl (tl (tl (tl vs))))))) (hd (tl (tl (tl (tl (tl (tl (tl vs))))))))
noncomputable def c_impl_freeSets_46f8 (F g : Nat) (E : Env) : AV → AV → AV → AV → H → Option R := Nat.rec (motive := fun _ => AV → AV → AV → AV → H → Option R) (fun _ _ _ _ _ => none) (fun g self a0 a1 a2 a3 h => aBox a1 h fun x1 h => aAlloc [(AV.int 3 (Int.ofNat 0)), (AV.int 3 (Int.ofNat 0))] h fun x2 h => aLoadN 2 x1 h fun x3 h => aAlloc [(AV.int 3 (Int.ofNat 0)), (AV.int 3 (Int.ofNat 0))] h fun x4 h => aStoreN 2 x4 x3 h fun x5 h => aNilCheck a0 h fun x6 h => aField 2 x6 h fun x7 h => aLoad x7 h fun x8 h => aLenK 1 x8 h fun x9 h => loopD F (c_impl_freeSets_46f8_l1 F g E self) [a2, a3, x1, x2, x4, x8, x9, (AV.int 3 (Int.ofNat 0))] h) g
noncomputable def A_impl_freeSets_46f8 : An := (.two .o (.two .o (.two (.two .o (.two (.at_ [2, 3, 5, 8, 9, 17, 18, 19] (.two .o (.two (.two .o .o) (.two (.two (.two .o (.two .o (.two .o .o))) .o) .o))) .o) .o)) (.two .o .o))))
noncomputable def b_impl_freeSets_46f8 : Code := bodyOf Go.Proofs.Try.f51
theorem k_impl_freeSets_46f8 (F g : Nat) (E : Env) (a0 a1 a2 a3 : AV) (h : H) : callC Go.Proofs.Try.prog (G_impl_freeSets_46f8 F g E (c_impl_freeSets_46f8 F g E)) 48 F b_impl_freeSets_46f8 8 41 A_impl_freeSets_46f8 [a0, a1, a2, a3] h = c_impl_freeSets_46f8 F (g + 1) E a0 a1 a2 a3 h := by kernel_rfl
theorem s_impl_freeSets_46f8 (F g : Nat) (E : Env) (hE : Sound Go.Proofs.Try.prog E) : ∀ args h r, u4 (c_impl_freeSets_46f8 F g E) args h = some r → Tri Go.Proofs.Try.prog 51 args h r := by
  induction g with
  | zero => intro args h r e; obtain ⟨a0, a1, a2, a3, rfl, e⟩ := u4_some e; cases e
  | succ g ih => intro args h r e; obtain ⟨a0, a1, a2, a3, rfl, e1⟩ := u4_some e; exact fn_sound_c Go.Proofs.Try.func51 rfl rfl rfl Go.Proofs.Try.ntmps51 (Sound.add hE ih) ((k_impl_freeSets_46f8 F g E a0 a1 a2 a3 h).trans e1)

-- "loop.example/treenumbers/impl.freeIn[int]"
noncomputable def D_impl_freeIn_46f8 (F g : Nat) (E : Env) : Env := E
noncomputable def G_impl_freeIn_46f8 (F g : Nat) (E : Env) : Env := (Env.add (Env.add (D_impl_freeIn_46f8 F g E) 26 (u1 (c_impl_readTree F g))) 51 (u4 (c_impl_freeSets_46f8 F g (D_impl_freeIn_46f8 F g E))))
noncomputable def c_impl_freeIn_46f8 (F g : Nat) (E : Env) (a0 a1 a2 a3 : AV) (h : H) : Option R := aBox a1 h fun x1 h => bindR (c_impl_readTree F g a0 h) fun x2 h => aExtract x2 0 h fun x3 h => aExtract x2 1 h fun x4 h => aNot x4 h fun x5 h => withBool x5 fun t6 => bc t6 (some (AV.one .tup (AV.cons (AV.int 3 (Int.ofNat 0)) (AV.cons (AV.bool false) (AV.leaf .nil))), h)) (aLoadN 2 x1 h fun x7 h => bindR (c_impl_freeSets_46f8 F g (D_impl_freeIn_46f8 F g E) x3 x7 a2 a3 h) fun x8 h => aAlloc [(AV.int 3 (Int.ofNat 0)), (AV.int 3 (Int.ofNat 0))] h fun x9 h => aStoreN 2 x9 x8 h fun x10 h => aField 0 x9 h fun x11 h => aLoad x11 h fun x12 h => aField 1 x9 h fun x13 h => aLoad x13 h fun x14 h => dCall (G_impl_freeIn_46f8 F g E) a3 [x12, x14] h fun x15 h => some (AV.one .tup (AV.cons x15 (AV.cons (AV.bool true) (AV.leaf .nil))), h))
noncomputable def A_impl_freeIn_46f8 : An := (.two .o (.two .o (.two (.two .o (.two (.two .o (.two .o .o)) .o)) (.two .o (.two .o .o)))))
noncomputable def b_impl_freeIn_46f8 : Code := bodyOf Go.Proofs.Try.f32
theorem k_impl_freeIn_46f8 (F g : Nat) (E : Env) (a0 a1 a2 a3 : AV) (h : H) : callD Go.Proofs.Try.prog (G_impl_freeIn_46f8 F g E) 33 F b_impl_freeIn_46f8 [8, 9] A_impl_freeIn_46f8 [a0, a1, a2, a3] h = c_impl_freeIn_46f8 F g E a0 a1 a2 a3 h := by kernel_rfl
theorem s_impl_freeIn_46f8 (F g : Nat) (E : Env) (hE : Sound Go.Proofs.Try.prog E) : ∀ args h r, u4 (c_impl_freeIn_46f8 F g E) args h = some r → Tri Go.Proofs.Try.prog 32 args h r := by
  intro args h r e; obtain ⟨a0, a1, a2, a3, rfl, e1⟩ := u4_some e; exact fn_sound Go.Proofs.Try.func32 rfl rfl rfl Go.Proofs.Try.ntmps32 (Sound.add (Sound.add hE (s_impl_readTree F g)) (s_impl_freeSets_46f8 F g (D_impl_freeIn_46f8 F g E) hE)) ((k_impl_freeIn_46f8 F g E a0 a1 a2 a3 h).trans e1)

-- "loop.example/treenumbers/impl.times"
noncomputable def c_impl_times (F g : Nat) (a0 a1 : AV) (h : H) : Option R := aArith imul a0 a1 h fun x1 h => some (x1, h)
noncomputable def A_impl_times : An := (.two .o (.two .o .o))
noncomputable def b_impl_times : Code := bodyOf Go.Proofs.Try.f41
theorem k_impl_times (F g : Nat) (a0 a1 : AV) (h : H) : callD Go.Proofs.Try.prog (fun _ _ _ => none : Env) 8 F b_impl_times [4] A_impl_times [a0, a1] h = c_impl_times F g a0 a1 h := by kernel_rfl
theorem s_impl_times (F g : Nat) : ∀ args h r, u2 (c_impl_times F g) args h = some r → Tri Go.Proofs.Try.prog 41 args h r := by
  intro args h r e; obtain ⟨a0, a1, rfl, e1⟩ := u2_some e; exact fn_sound Go.Proofs.Try.func41 rfl rfl rfl Go.Proofs.Try.ntmps41 (Sound.none _) ((k_impl_times F g a0 a1 h).trans e1)

-- "loop.example/treenumbers/impl.plus"
noncomputable def c_impl_plus (F g : Nat) (a0 a1 : AV) (h : H) : Option R := aArith iadd a0 a1 h fun x1 h => some (x1, h)
noncomputable def A_impl_plus : An := (.two .o (.two .o .o))
noncomputable def b_impl_plus : Code := bodyOf Go.Proofs.Try.f33
theorem k_impl_plus (F g : Nat) (a0 a1 : AV) (h : H) : callD Go.Proofs.Try.prog (fun _ _ _ => none : Env) 8 F b_impl_plus [4] A_impl_plus [a0, a1] h = c_impl_plus F g a0 a1 h := by kernel_rfl
theorem s_impl_plus (F g : Nat) : ∀ args h r, u2 (c_impl_plus F g) args h = some r → Tri Go.Proofs.Try.prog 33 args h r := by
  intro args h r e; obtain ⟨a0, a1, rfl, e1⟩ := u2_some e; exact fn_sound Go.Proofs.Try.func33 rfl rfl rfl Go.Proofs.Try.ntmps33 (Sound.none _) ((k_impl_plus F g a0 a1 h).trans e1)

-- "loop.example/treenumbers/impl.CutFreeCount"
noncomputable def D_impl_CutFreeCount (F g : Nat) : Env := (Env.add (Env.add (fun _ _ _ => none : Env) 41 (u2 (c_impl_times F g))) 33 (u2 (c_impl_plus F g)))
noncomputable def c_impl_CutFreeCount (F g : Nat) (a0 : AV) (h : H) : Option R := aBuild [(AV.int 3 (Int.ofNat 0)), (AV.int 3 (Int.ofNat 0))] [(0, 1, (AV.int 3 (Int.ofNat 1))), (1, 1, (AV.int 3 (Int.ofNat 1)))] h fun x1 h => bindR (c_impl_freeIn_46f8 F g (D_impl_CutFreeCount F g) a0 x1 (AV.func (.func 41) (AV.leaf .nil) (AV.leaf .nil)) (AV.func (.func 33) (AV.leaf .nil) (AV.leaf .nil)) h) fun x2 h => aExtract x2 0 h fun x3 h => aExtract x2 1 h fun x4 h => some (AV.one .tup (AV.cons x3 (AV.cons x4 (AV.leaf .nil))), h)
noncomputable def A_impl_CutFreeCount : An := (.two .o (.two .o .o))
noncomputable def b_impl_CutFreeCount : Code := bodyOf Go.Proofs.Try.f23
theorem k_impl_CutFreeCount (F g : Nat) (a0 : AV) (h : H) : callD Go.Proofs.Try.prog (Env.add (D_impl_CutFreeCount F g) 32 (u4 (c_impl_freeIn_46f8 F g (D_impl_CutFreeCount F g)))) 9 F b_impl_CutFreeCount [2, 3] A_impl_CutFreeCount [a0] h = c_impl_CutFreeCount F g a0 h := by kernel_rfl
theorem s_impl_CutFreeCount (F g : Nat) : ∀ args h r, u1 (c_impl_CutFreeCount F g) args h = some r → Tri Go.Proofs.Try.prog 23 args h r := by
  intro args h r e; obtain ⟨a0, rfl, e1⟩ := u1_some e; exact fn_sound Go.Proofs.Try.func23 rfl rfl rfl Go.Proofs.Try.ntmps23 (Sound.add (Sound.add (Sound.add (Sound.none _) (s_impl_times F g)) (s_impl_plus F g)) (s_impl_freeIn_46f8 F g (D_impl_CutFreeCount F g) (Sound.add (Sound.add (Sound.none _) (s_impl_times F g)) (s_impl_plus F g)))) ((k_impl_CutFreeCount F g a0 h).trans e1)

-- "loop.example/treenumbers/laws.FnExactCutFreeCount"
noncomputable def c_laws_FnExactCutFreeCount_j1 (F g : Nat) (vs : List AV) (h : H) : Option R := (fun x11 x12 => aPick x11 (AV.bool true) x12 h fun x13 h => withBool x13 fun t14 => bc t14 (some ((AV.bool false), h)) (some ((AV.bool true), h))) (hd vs) (hd (tl vs))
noncomputable def c_laws_FnExactCutFreeCount (F g : Nat) (a0 : AV) (h : H) : Option R := aLenK 0 a0 h fun x1 h => aCmpI (fun a b => ilt b a) x1 (AV.int 3 (Int.ofNat 1048576)) h fun x2 h => withBool x2 fun t3 => bc t3 (some ((AV.bool true), h)) (bindR (c_spec_CutFreeCount F g a0 h) fun x4 h => aExtract x4 0 h fun x5 h => aExtract x4 1 h fun x6 h => bindR (c_impl_CutFreeCount F g a0 h) fun x7 h => aExtract x7 0 h fun x8 h => aExtract x7 1 h fun x9 h => aCmpI (fun a b => bnot (ieq a b)) x8 x5 h fun x10 h => guardB false x10 (aEq true 0 x9 x6 h fun x15 h => (c_laws_FnExactCutFreeCount_j1 F g) [x10, x15] h) ((c_laws_FnExactCutFreeCount_j1 F g) [x10, (AV.one .tup (AV.leaf .nil))] h))
noncomputable def A_laws_FnExactCutFreeCount : An := (.two .o (.two (.two .o (.two (.two .o .o) .o)) (.two .o (.two .o (.two (.two (.at_ [23, 26] .o .o) (.two (.two .o .o) .o)) (.two .o .o))))))
noncomputable def b_laws_FnExactCutFreeCount : Code := bodyOf Go.Proofs.Try.f8
theorem k_laws_FnExactCutFreeCount (F g : Nat) (a0 : AV) (h : H) : callD Go.Proofs.Try.prog (Env.add (Env.add (fun _ _ _ => none : Env) 22 (u1 (c_spec_CutFreeCount F g))) 23 (u1 (c_impl_CutFreeCount F g))) 28 F b_laws_FnExactCutFreeCount [2] A_laws_FnExactCutFreeCount [a0] h = c_laws_FnExactCutFreeCount F g a0 h := by kernel_rfl
theorem s_laws_FnExactCutFreeCount (F g : Nat) : ∀ args h r, u1 (c_laws_FnExactCutFreeCount F g) args h = some r → Tri Go.Proofs.Try.prog 8 args h r := by
  intro args h r e; obtain ⟨a0, rfl, e1⟩ := u1_some e; exact fn_sound Go.Proofs.Try.func8 rfl rfl rfl Go.Proofs.Try.ntmps8 (Sound.add (Sound.add (Sound.none _) (s_spec_CutFreeCount F g)) (s_impl_CutFreeCount F g)) ((k_laws_FnExactCutFreeCount F g a0 h).trans e1)

end
end Go.AI.T
