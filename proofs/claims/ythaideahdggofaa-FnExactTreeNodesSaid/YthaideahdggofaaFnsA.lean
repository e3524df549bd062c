/- The functions that the laws reach, as the evaluator reads them. -/
import Derived.Test.YthaideahdggofaaAi
import Derived.Test.YthaideahdggofaaProg
import Derived.KernelRfl

namespace Go.AI
open Go Go.RowKit
set_option linter.unusedVariables false
set_option maxRecDepth 100000
noncomputable section
-- "loop.example/treenumbers/spec.l1End"
noncomputable def c46_j1 (F g : Nat) (kc1 : List AV → H → Option R) (vs : List AV) (h : H) : Option R := (fun x8 x9 x10 => aCmpI ieq x9 (AV.int 3 (Int.ofNat 0)) h fun x11 h => withBool x11 fun t12 => bc t12 (aArith iadd x10 (AV.int 3 (Int.ofNat 1)) h fun x13 h => some (x13, h)) (aCmpI ilt x9 (AV.int 3 (Int.ofNat 0)) h fun x14 h => withBool x14 fun t15 => bc t15 (some ((AV.int 3 (Int.negSucc 0)), h)) (aArith iadd x10 (AV.int 3 (Int.ofNat 1)) h fun x16 h => kc1 [x8, x9, x16] h))) (hd vs) (hd (tl vs)) (hd (tl (tl vs)))
noncomputable def c46_l2 (F g : Nat) : List AV → H → (List AV → H → Option R) → Option R := fun vs h kc1 => (fun x2 x3 x4 => aLenK 0 x2 h fun x5 h => aCmpI ilt x4 x5 h fun x6 h => withBool x6 fun t7 => bc t7 (aIdxStr x2 x4 h fun x17 h => aCmpI ieq x17 (AV.int 4 (Int.ofNat 40)) h fun x18 h => withBool x18 fun t19 => bc t19 (aArith iadd x3 (AV.int 3 (Int.ofNat 1)) h fun x20 h => (c46_j1 F g kc1) [x2, x20, x4] h) (aCmpI ieq x17 (AV.int 4 (Int.ofNat 41)) h fun x21 h => withBool x21 fun t22 => bc t22 (aArith isub x3 (AV.int 3 (Int.ofNat 1)) h fun x23 h => (c46_j1 F g kc1) [x2, x23, x4] h) (some ((AV.int 3 (Int.negSucc 0)), h)))) (some ((AV.int 3 (Int.negSucc 0)), h))) (hd vs) (hd (tl vs)) (hd (tl (tl vs)))
noncomputable def c46 (F g : Nat) (a0 a1 : AV) (h : H) : Option R := loopD F (c46_l2 F g) [a0, (AV.int 3 (Int.ofNat 0)), a1] h
noncomputable def A46 : An := (.two .o (.two .o (.two (.two .o (.two (.at_ [0, 5, 6] (.two (.two .o (.two .o .o)) (.two (.two (.at_ [0, 5, 6] (.two .o (.two (.two .o (.two .o (.two .o (.two .o (.two .o .o))))) .o)) (.two (.two .o (.two (.two .o .o) .o)) (.two .o (.two (.two .o .o) .o)))) .o) .o)) .o) .o)) (.two .o .o))))
noncomputable def b46 : Code := bodyOf Go.Proofs.Try.f46
theorem k46 (F g : Nat) (a0 a1 : AV) (h : H) : callD Go.Proofs.Try.prog (fun _ _ _ => none : Env) 31 F b46 [4] A46 [a0, a1] h = c46 F g a0 a1 h := by kernel_rfl
theorem s46 (F g : Nat) : ∀ args h r, u2 (c46 F g) args h = some r → Tri Go.Proofs.Try.prog 46 args h r := by
  intro args h r e; obtain ⟨a0, a1, rfl, e1⟩ := u2_some e; exact fn_sound Go.Proofs.Try.func46 rfl rfl rfl Go.Proofs.Try.ntmps46 (Sound.none _) ((k46 F g a0 a1 h).trans e1)

-- "loop.example/treenumbers/spec.TreeIn"
noncomputable def c15_j1 (F g : Nat) (vs : List AV) (h : H) : Option R := (fun x7 x8 => aPick x7 x8 (AV.bool false) h fun x9 h => some (x9, h)) (hd vs) (hd (tl vs))
noncomputable def c15_j2 (F g : Nat) (vs : List AV) (h : H) : Option R := (fun x3 x4 x5 => aPick x4 x5 (AV.bool false) h fun x6 h => guardB true x6 (bindR (c46 F g x3 (AV.int 3 (Int.ofNat 0)) h) fun x10 h => aLenK 0 x3 h fun x11 h => aCmpI ieq x10 x11 h fun x12 h => (c15_j1 F g) [x6, x12] h) ((c15_j1 F g) [x6, (AV.one .tup (AV.leaf .nil))] h)) (hd vs) (hd (tl vs)) (hd (tl (tl vs)))
noncomputable def c15 (F g : Nat) (a0 : AV) (h : H) : Option R := aLenK 0 a0 h fun x1 h => aCmpI (fun a b => ilt b a) x1 (AV.int 3 (Int.ofNat 0)) h fun x2 h => guardB true x2 (aLenK 0 a0 h fun x13 h => aCmpI ile x13 (AV.int 3 (Int.ofNat 18)) h fun x14 h => (c15_j2 F g) [a0, x2, x14] h) ((c15_j2 F g) [a0, x2, (AV.one .tup (AV.leaf .nil))] h)
noncomputable def A15 : An := (.two .o (.two (.at_ [0, 6, 9] .o (.at_ [11, 16] .o .o)) .o))
noncomputable def b15 : Code := bodyOf Go.Proofs.Try.f15
theorem k15 (F g : Nat) (a0 : AV) (h : H) : callD Go.Proofs.Try.prog (Env.add (fun _ _ _ => none : Env) 46 (u2 (c46 F g))) 18 F b15 [2] A15 [a0] h = c15 F g a0 h := by kernel_rfl
theorem s15 (F g : Nat) : ∀ args h r, u1 (c15 F g) args h = some r → Tri Go.Proofs.Try.prog 15 args h r := by
  intro args h r e; obtain ⟨a0, rfl, e1⟩ := u1_some e; exact fn_sound Go.Proofs.Try.func15 rfl rfl rfl Go.Proofs.Try.ntmps15 (Sound.add (Sound.none _) (s46 F g)) ((k15 F g a0 h).trans e1)

-- "(*loop.example/treenumbers/impl.node).add"
noncomputable def c66 (F g : Nat) (a0 a1 : AV) (h : H) : Option R := aBuild [(AV.int 3 (Int.ofNat 0)), (AV.leaf .nilp), (AV.leaf .nils)] [(0, 1, a1), (1, 1, a0)] h fun x1 h => aBox x1 h fun x2 h => aNilCheck a0 h fun x3 h => aField 2 x3 h fun x4 h => aLoad x4 h fun x5 h => aBuildSlice 1 1 [(0, 1, x2)] h fun x6 h => aAppend 1 8 x5 x6 h fun x7 h => aNilCheck a0 h fun x8 h => aField 2 x8 h fun x9 h => aStore x9 x7 h fun x10 h => some (x2, h)
noncomputable def A66 : An := (.two .o (.two .o (.two .o (.two .o .o))))
noncomputable def b66 : Code := bodyOf Go.Proofs.Try.f66
theorem k66 (F g : Nat) (a0 a1 : AV) (h : H) : callD Go.Proofs.Try.prog (fun _ _ _ => none : Env) 21 F b66 [4] A66 [a0, a1] h = c66 F g a0 a1 h := by kernel_rfl
theorem s66 (F g : Nat) : ∀ args h r, u2 (c66 F g) args h = some r → Tri Go.Proofs.Try.prog 66 args h r := by
  intro args h r e; obtain ⟨a0, a1, rfl, e1⟩ := u2_some e; exact fn_sound Go.Proofs.Try.func66 rfl rfl rfl Go.Proofs.Try.ntmps66 (Sound.none _) ((k66 F g a0 a1 h).trans e1)

-- "loop.example/treenumbers/impl.readTree"
noncomputable def c47_j1 (F g : Nat) (vs : List AV) (h : H) : Option R := (fun x12 x13 x14 => aPick x13 (AV.bool true) x14 h fun x15 h => withBool x15 fun t16 => bc t16 (some (AV.one .tup (AV.cons (AV.leaf .nilp) (AV.cons (AV.bool false) (AV.leaf .nil))), h)) (some (AV.one .tup (AV.cons x12 (AV.cons (AV.bool true) (AV.leaf .nil))), h))) (hd vs) (hd (tl vs)) (hd (tl (tl vs)))
noncomputable def c47_j2 (F g : Nat) (vs : List AV) (h : H) : Option R := (fun x7 x8 x9 x10 => aPick x9 (AV.bool true) x10 h fun x11 h => guardB false x11 (aEq true 1 x8 (AV.leaf .nilp) h fun x17 h => (c47_j1 F g) [x7, x11, x17] h) ((c47_j1 F g) [x7, x11, (AV.one .tup (AV.leaf .nil))] h)) (hd vs) (hd (tl vs)) (hd (tl (tl vs))) (hd (tl (tl (tl vs))))
noncomputable def c47_j3 (F g : Nat) (vs : List AV) (h : H) : Option R := (fun x1 x2 x3 x4 => aLenK 0 x1 h fun x5 h => aCmpI ilt x4 x5 h fun x6 h => guardB false x6 (aEq false 1 x2 (AV.leaf .nilp) h fun x18 h => (c47_j2 F g) [x2, x3, x6, x18] h) ((c47_j2 F g) [x2, x3, x6, (AV.one .tup (AV.leaf .nil))] h)) (hd vs) (hd (tl vs)) (hd (tl (tl vs))) (hd (tl (tl (tl vs))))
noncomputable def c47_j4 (F g : Nat) (kc19 : List AV → H → Option R) (vs : List AV) (h : H) : Option R := (fun x28 x29 x30 x31 x32 => aArith iadd x32 (AV.int 3 (Int.ofNat 1)) h fun x33 h => kc19 [x28, x29, x30, x31, x33] h) (hd vs) (hd (tl vs)) (hd (tl (tl vs))) (hd (tl (tl (tl vs)))) (hd (tl (tl (tl (tl vs)))))
noncomputable def c47_j5 (F g : Nat) (kc19 : List AV → H → Option R) (vs : List AV) (h : H) : Option R := (fun x72 x73 x74 x75 x76 x77 x78 => aPick x77 x78 (AV.bool false) h fun x79 h => withBool x79 fun t80 => bc t80 (bindR (c66 F g x74 x75 h) fun x81 h => aArith iadd x75 (AV.int 3 (Int.ofNat 1)) h fun x82 h => (c47_j4 F g kc19) [x72, x73, x81, x82, x76] h) ((c47_j3 F g) [x72, x73, x74, x76] h)) (hd vs) (hd (tl vs)) (hd (tl (tl vs))) (hd (tl (tl (tl vs)))) (hd (tl (tl (tl (tl vs))))) (hd (tl (tl (tl (tl (tl vs)))))) (hd (tl (tl (tl (tl (tl (tl vs)))))))
noncomputable def c47_j6 (F g : Nat) (kc19 : List AV → H → Option R) (vs : List AV) (h : H) : Option R := (fun x64 x65 x66 x67 x68 x69 x70 => aPick x69 x70 (AV.bool false) h fun x71 h => guardB true x71 (aCmpI ilt x67 (AV.int 3 (Int.ofNat 9)) h fun x83 h => (c47_j5 F g kc19) [x64, x65, x66, x67, x68, x71, x83] h) ((c47_j5 F g kc19) [x64, x65, x66, x67, x68, x71, (AV.one .tup (AV.leaf .nil))] h)) (hd vs) (hd (tl vs)) (hd (tl (tl vs))) (hd (tl (tl (tl vs)))) (hd (tl (tl (tl (tl vs))))) (hd (tl (tl (tl (tl (tl vs)))))) (hd (tl (tl (tl (tl (tl (tl vs)))))))
noncomputable def c47_j7 (F g : Nat) (kc19 : List AV → H → Option R) (vs : List AV) (h : H) : Option R := (fun x50 x51 x52 x53 x54 x55 x56 => aPick x55 x56 (AV.bool false) h fun x57 h => withBool x57 fun t58 => bc t58 (aBuild [(AV.int 3 (Int.ofNat 0)), (AV.leaf .nilp), (AV.leaf .nils)] [] h fun x59 h => aBox x59 h fun x60 h => aArith iadd x53 (AV.int 3 (Int.ofNat 1)) h fun x61 h => (c47_j4 F g kc19) [x50, x60, x60, x61, x54] h) (aIdxStr x50 x54 h fun x62 h => aCmpI ieq x62 (AV.int 4 (Int.ofNat 40)) h fun x63 h => guardB true x63 (aEq true 1 x52 (AV.leaf .nilp) h fun x84 h => (c47_j6 F g kc19) [x50, x51, x52, x53, x54, x63, x84] h) ((c47_j6 F g kc19) [x50, x51, x52, x53, x54, x63, (AV.one .tup (AV.leaf .nil))] h))) (hd vs) (hd (tl vs)) (hd (tl (tl vs))) (hd (tl (tl (tl vs)))) (hd (tl (tl (tl (tl vs))))) (hd (tl (tl (tl (tl (tl vs)))))) (hd (tl (tl (tl (tl (tl (tl vs)))))))
noncomputable def c47_j8 (F g : Nat) (kc19 : List AV → H → Option R) (vs : List AV) (h : H) : Option R := (fun x36 x37 x38 x39 x40 x41 x42 => aPick x41 x42 (AV.bool false) h fun x43 h => withBool x43 fun t44 => bc t44 (aNilCheck x38 h fun x45 h => aField 1 x45 h fun x46 h => aLoad x46 h fun x47 h => (c47_j4 F g kc19) [x36, x37, x47, x39, x40] h) (aIdxStr x36 x40 h fun x48 h => aCmpI ieq x48 (AV.int 4 (Int.ofNat 40)) h fun x49 h => guardB true x49 (aEq false 1 x37 (AV.leaf .nilp) h fun x85 h => (c47_j7 F g kc19) [x36, x37, x38, x39, x40, x49, x85] h) ((c47_j7 F g kc19) [x36, x37, x38, x39, x40, x49, (AV.one .tup (AV.leaf .nil))] h))) (hd vs) (hd (tl vs)) (hd (tl (tl vs))) (hd (tl (tl (tl vs)))) (hd (tl (tl (tl (tl vs))))) (hd (tl (tl (tl (tl (tl vs)))))) (hd (tl (tl (tl (tl (tl (tl vs)))))))
noncomputable def c47_l9 (F g : Nat) : List AV → H → (List AV → H → Option R) → Option R := fun vs h kc19 => (fun x20 x21 x22 x23 x24 => aLenK 0 x20 h fun x25 h => aCmpI ilt x24 x25 h fun x26 h => withBool x26 fun t27 => bc t27 (aIdxStr x20 x24 h fun x34 h => aCmpI ieq x34 (AV.int 4 (Int.ofNat 41)) h fun x35 h => guardB true x35 (aEq true 1 x22 (AV.leaf .nilp) h fun x86 h => (c47_j8 F g kc19) [x20, x21, x22, x23, x24, x35, x86] h) ((c47_j8 F g kc19) [x20, x21, x22, x23, x24, x35, (AV.one .tup (AV.leaf .nil))] h)) ((c47_j3 F g) [x20, x21, x22, x24] h)) (hd vs) (hd (tl vs)) (hd (tl (tl vs))) (hd (tl (tl (tl vs)))) (hd (tl (tl (tl (tl vs)))))
noncomputable def c47 (F g : Nat) (a0 : AV) (h : H) : Option R := loopD F (c47_l9 F g) [a0, (AV.leaf .nilp), (AV.leaf .nilp), (AV.int 3 (Int.ofNat 0)), (AV.int 3 (Int.ofNat 0))] h
noncomputable def A47 : An := (.two .o (.two (.two .o (.two .o (.two .o (.at_ [0, 4, 5, 7] (.two (.at_ [0, 4, 5, 6, 7] (.two (.two .o (.two .o .o)) (.two (.at_ [0, 4, 5, 6, 7] (.two (.two (.at_ [0, 4, 5, 6, 7, 17, 19] .o .o) (.two .o (.two (.at_ [0, 4, 5, 6, 7, 30, 32] .o .o) (.two (.two .o (.two .o .o)) (.two (.at_ [0, 4, 5, 6, 7, 44, 46] .o (.at_ [0, 4, 5, 6, 7, 48, 50] .o .o)) (.two (.two .o .o) .o)))))) .o) .o) .o)) .o) .o) (.two (.two (.at_ [4, 5, 63, 65] .o (.at_ [4, 67, 69] .o .o)) (.two (.two .o .o) .o)) (.two .o .o)))))) .o))
noncomputable def b47 : Code := bodyOf Go.Proofs.Try.f47
theorem k47 (F g : Nat) (a0 : AV) (h : H) : callD Go.Proofs.Try.prog (Env.add (fun _ _ _ => none : Env) 66 (u2 (c66 F g))) 72 F b47 [2, 3] A47 [a0] h = c47 F g a0 h := by kernel_rfl
theorem s47 (F g : Nat) : ∀ args h r, u1 (c47 F g) args h = some r → Tri Go.Proofs.Try.prog 47 args h r := by
  intro args h r e; obtain ⟨a0, rfl, e1⟩ := u1_some e; exact fn_sound Go.Proofs.Try.func47 rfl rfl rfl Go.Proofs.Try.ntmps47 (Sound.add (Sound.none _) (s66 F g)) ((k47 F g a0 h).trans e1)

-- "loop.example/treenumbers/impl.TreeIn"
noncomputable def c16 (F g : Nat) (a0 : AV) (h : H) : Option R := bindR (c47 F g a0 h) fun x1 h => aExtract x1 0 h fun x2 h => aExtract x1 1 h fun x3 h => some (x3, h)
noncomputable def A16 : An := (.two .o (.two .o (.two .o .o)))
noncomputable def b16 : Code := bodyOf Go.Proofs.Try.f16
theorem k16 (F g : Nat) (a0 : AV) (h : H) : callD Go.Proofs.Try.prog (Env.add (fun _ _ _ => none : Env) 47 (u1 (c47 F g))) 11 F b16 [2] A16 [a0] h = c16 F g a0 h := by kernel_rfl
theorem s16 (F g : Nat) : ∀ args h r, u1 (c16 F g) args h = some r → Tri Go.Proofs.Try.prog 16 args h r := by
  intro args h r e; obtain ⟨a0, rfl, e1⟩ := u1_some e; exact fn_sound Go.Proofs.Try.func16 rfl rfl rfl Go.Proofs.Try.ntmps16 (Sound.add (Sound.none _) (s47 F g)) ((k16 F g a0 h).trans e1)

-- "loop.example/treenumbers/laws.FnExactTreeIn"
noncomputable def c3 (F g : Nat) (a0 : AV) (h : H) : Option R := aLenK 0 a0 h fun x1 h => aCmpI (fun a b => ilt b a) x1 (AV.int 3 (Int.ofNat 1048576)) h fun x2 h => withBool x2 fun t3 => bc t3 (some ((AV.bool true), h)) (bindR (c15 F g a0 h) fun x4 h => bindR (c16 F g a0 h) fun x5 h => aEq true 0 x5 x4 h fun x6 h => withBool x6 fun t7 => bc t7 (some ((AV.bool false), h)) (some ((AV.bool true), h)))
noncomputable def A3 : An := (.two .o (.two (.two .o (.two (.two .o .o) .o)) (.two .o (.two .o (.two (.two .o (.two (.two .o .o) .o)) (.two .o .o))))))
noncomputable def b3 : Code := bodyOf Go.Proofs.Try.f3
theorem k3 (F g : Nat) (a0 : AV) (h : H) : callD Go.Proofs.Try.prog (Env.add (Env.add (fun _ _ _ => none : Env) 15 (u1 (c15 F g))) 16 (u1 (c16 F g))) 15 F b3 [2] A3 [a0] h = c3 F g a0 h := by kernel_rfl
theorem s3 (F g : Nat) : ∀ args h r, u1 (c3 F g) args h = some r → Tri Go.Proofs.Try.prog 3 args h r := by
  intro args h r e; obtain ⟨a0, rfl, e1⟩ := u1_some e; exact fn_sound Go.Proofs.Try.func3 rfl rfl rfl Go.Proofs.Try.ntmps3 (Sound.add (Sound.add (Sound.none _) (s15 F g)) (s16 F g)) ((k3 F g a0 h).trans e1)

-- "loop.example/treenumbers/spec.TreeNodes"
noncomputable def c17 (F g : Nat) (a0 : AV) (h : H) : Option R := bindR (c15 F g a0 h) fun x1 h => aNot x1 h fun x2 h => withBool x2 fun t3 => bc t3 (some (AV.one .tup (AV.cons (AV.int 3 (Int.ofNat 0)) (AV.cons (AV.bool false) (AV.leaf .nil))), h)) (aLenK 0 a0 h fun x4 h => aQuo x4 (AV.int 3 (Int.ofNat 2)) h fun x5 h => some (AV.one .tup (AV.cons x5 (AV.cons (AV.bool true) (AV.leaf .nil))), h))
noncomputable def A17 : An := (.two .o (.two (.two .o (.two (.two .o .o) .o)) (.two .o .o)))
noncomputable def b17 : Code := bodyOf Go.Proofs.Try.f17
theorem k17 (F g : Nat) (a0 : AV) (h : H) : callD Go.Proofs.Try.prog (Env.add (fun _ _ _ => none : Env) 15 (u1 (c15 F g))) 10 F b17 [2, 3] A17 [a0] h = c17 F g a0 h := by kernel_rfl
theorem s17 (F g : Nat) : ∀ args h r, u1 (c17 F g) args h = some r → Tri Go.Proofs.Try.prog 17 args h r := by
  intro args h r e; obtain ⟨a0, rfl, e1⟩ := u1_some e; exact fn_sound Go.Proofs.Try.func17 rfl rfl rfl Go.Proofs.Try.ntmps17 (Sound.add (Sound.none _) (s15 F g)) ((k17 F g a0 h).trans e1)

-- "(*loop.example/treenumbers/impl.node).nodes"
noncomputable def c48_l1 (F g : Nat) (self : AV → H → Option R) : List AV → H → (List AV → H → Option R) → Option R := fun vs h kc6 => (fun x7 x8 x9 x10 => aCmpI ilt x10 x9 h fun x11 h => withBool x11 fun t12 => bc t12 (aIdxAddr 1 x8 x10 h fun x13 h => aLoad x13 h fun x14 h => bindR (self x14 h) fun x15 h => aAppend 1 8 x7 x15 h fun x16 h => aArith iadd x10 (AV.int 3 (Int.ofNat 1)) h fun x17 h => kc6 [x16, x8, x9, x17] h) (some (x7, h))) (hd vs) (hd (tl vs)) (hd (tl (tl vs))) (hd (tl (tl (tl vs))))
noncomputable def c48 (F g : Nat) : AV → H → Option R := Nat.rec (motive := fun _ => AV → H → Option R) (fun _ _ => none) (fun g self a0 h => aBuildSlice 1 1 [(0, 1, a0)] h fun x1 h => aNilCheck a0 h fun x2 h => aField 2 x2 h fun x3 h => aLoad x3 h fun x4 h => aLenK 1 x4 h fun x5 h => loopD F (c48_l1 F g self) [x1, x4, x5, (AV.int 3 (Int.ofNat 0))] h) g
noncomputable def A48 : An := (.two .o (.two .o (.two (.two .o (.two (.at_ [3, 11, 12, 13] (.two .o (.two (.two .o .o) (.two (.two (.two .o .o) .o) .o))) .o) .o)) (.two .o .o))))
noncomputable def b48 : Code := bodyOf Go.Proofs.Try.f48
theorem k48 (F g : Nat) (a0 : AV) (h : H) : callD Go.Proofs.Try.prog (Env.add (fun _ _ _ => none : Env) 48 (u1 (c48 F g))) 23 F b48 [2] A48 [a0] h = c48 F (g + 1) a0 h := by kernel_rfl
theorem s48 (F g : Nat) : ∀ args h r, u1 (c48 F g) args h = some r → Tri Go.Proofs.Try.prog 48 args h r := by
  induction g with
  | zero => intro args h r e; obtain ⟨a0, rfl, e⟩ := u1_some e; cases e
  | succ g ih => intro args h r e; obtain ⟨a0, rfl, e1⟩ := u1_some e; exact fn_sound Go.Proofs.Try.func48 rfl rfl rfl Go.Proofs.Try.ntmps48 (Sound.add (Sound.none _) ih) ((k48 F g a0 h).trans e1)

-- "loop.example/treenumbers/impl.TreeNodes"
noncomputable def c18 (F g : Nat) (a0 : AV) (h : H) : Option R := bindR (c47 F g a0 h) fun x1 h => aExtract x1 0 h fun x2 h => aExtract x1 1 h fun x3 h => aNot x3 h fun x4 h => withBool x4 fun t5 => bc t5 (some (AV.one .tup (AV.cons (AV.int 3 (Int.ofNat 0)) (AV.cons (AV.bool false) (AV.leaf .nil))), h)) (bindR (c48 F g x2 h) fun x6 h => aLenK 1 x6 h fun x7 h => some (AV.one .tup (AV.cons x7 (AV.cons (AV.bool true) (AV.leaf .nil))), h))
noncomputable def A18 : An := (.two .o (.two .o (.two (.two .o (.two (.two .o .o) .o)) (.two .o .o))))
noncomputable def b18 : Code := bodyOf Go.Proofs.Try.f18
theorem k18 (F g : Nat) (a0 : AV) (h : H) : callD Go.Proofs.Try.prog (Env.add (Env.add (fun _ _ _ => none : Env) 47 (u1 (c47 F g))) 48 (u1 (c48 F g))) 16 F b18 [2, 3] A18 [a0] h = c18 F g a0 h := by kernel_rfl
theorem s18 (F g : Nat) : ∀ args h r, u1 (c18 F g) args h = some r → Tri Go.Proofs.Try.prog 18 args h r := by
  intro args h r e; obtain ⟨a0, rfl, e1⟩ := u1_some e; exact fn_sound Go.Proofs.Try.func18 rfl rfl rfl Go.Proofs.Try.ntmps18 (Sound.add (Sound.add (Sound.none _) (s47 F g)) (s48 F g)) ((k18 F g a0 h).trans e1)

-- "loop.example/treenumbers/laws.FnExactTreeNodes"
noncomputable def c4_j1 (F g : Nat) (vs : List AV) (h : H) : Option R := (fun x11 x12 => aPick x11 (AV.bool true) x12 h fun x13 h => withBool x13 fun t14 => bc t14 (some ((AV.bool false), h)) (some ((AV.bool true), h))) (hd vs) (hd (tl vs))
noncomputable def c4 (F g : Nat) (a0 : AV) (h : H) : Option R := aLenK 0 a0 h fun x1 h => aCmpI (fun a b => ilt b a) x1 (AV.int 3 (Int.ofNat 1048576)) h fun x2 h => withBool x2 fun t3 => bc t3 (some ((AV.bool true), h)) (bindR (c17 F g a0 h) fun x4 h => aExtract x4 0 h fun x5 h => aExtract x4 1 h fun x6 h => bindR (c18 F g a0 h) fun x7 h => aExtract x7 0 h fun x8 h => aExtract x7 1 h fun x9 h => aCmpI (fun a b => bnot (ieq a b)) x8 x5 h fun x10 h => guardB false x10 (aEq true 0 x9 x6 h fun x15 h => (c4_j1 F g) [x10, x15] h) ((c4_j1 F g) [x10, (AV.one .tup (AV.leaf .nil))] h))
noncomputable def A4 : An := (.two .o (.two (.two .o (.two (.two .o .o) .o)) (.two .o (.two .o (.two (.two (.at_ [23, 26] .o .o) (.two (.two .o .o) .o)) (.two .o .o))))))
noncomputable def b4 : Code := bodyOf Go.Proofs.Try.f4
theorem k4 (F g : Nat) (a0 : AV) (h : H) : callD Go.Proofs.Try.prog (Env.add (Env.add (fun _ _ _ => none : Env) 17 (u1 (c17 F g))) 18 (u1 (c18 F g))) 28 F b4 [2] A4 [a0] h = c4 F g a0 h := by kernel_rfl
theorem s4 (F g : Nat) : ∀ args h r, u1 (c4 F g) args h = some r → Tri Go.Proofs.Try.prog 4 args h r := by
  intro args h r e; obtain ⟨a0, rfl, e1⟩ := u1_some e; exact fn_sound Go.Proofs.Try.func4 rfl rfl rfl Go.Proofs.Try.ntmps4 (Sound.add (Sound.add (Sound.none _) (s17 F g)) (s18 F g)) ((k4 F g a0 h).trans e1)

-- "loop.example/treenumbers/spec.l1Leaves"
noncomputable def c49_j1 (F g : Nat) (kc1 : List AV → H → Option R) (vs : List AV) (h : H) : Option R := (fun x9 x10 x11 => aArith iadd x11 (AV.int 3 (Int.ofNat 1)) h fun x12 h => kc1 [x9, x10, x12] h) (hd vs) (hd (tl vs)) (hd (tl (tl vs)))
noncomputable def c49_j2 (F g : Nat) (kc1 : List AV → H → Option R) (vs : List AV) (h : H) : Option R := (fun x15 x16 x17 x18 x19 => aPick x18 x19 (AV.bool false) h fun x20 h => withBool x20 fun t21 => bc t21 (aArith iadd x16 (AV.int 3 (Int.ofNat 1)) h fun x22 h => (c49_j1 F g kc1) [x15, x22, x17] h) ((c49_j1 F g kc1) [x15, x16, x17] h)) (hd vs) (hd (tl vs)) (hd (tl (tl vs))) (hd (tl (tl (tl vs)))) (hd (tl (tl (tl (tl vs)))))
noncomputable def c49_l3 (F g : Nat) : List AV → H → (List AV → H → Option R) → Option R := fun vs h kc1 => (fun x2 x3 x4 => aArith iadd x4 (AV.int 3 (Int.ofNat 1)) h fun x5 h => aLenK 0 x2 h fun x6 h => aCmpI ilt x5 x6 h fun x7 h => withBool x7 fun t8 => bc t8 (aIdxStr x2 x4 h fun x13 h => aCmpI ieq x13 (AV.int 4 (Int.ofNat 40)) h fun x14 h => guardB true x14 (aArith iadd x4 (AV.int 3 (Int.ofNat 1)) h fun x23 h => aIdxStr x2 x23 h fun x24 h => aCmpI ieq x24 (AV.int 4 (Int.ofNat 41)) h fun x25 h => (c49_j2 F g kc1) [x2, x3, x4, x14, x25] h) ((c49_j2 F g kc1) [x2, x3, x4, x14, (AV.one .tup (AV.leaf .nil))] h)) (some (x3, h))) (hd vs) (hd (tl vs)) (hd (tl (tl vs)))
noncomputable def c49 (F g : Nat) (a0 : AV) (h : H) : Option R := loopD F (c49_l3 F g) [a0, (AV.int 3 (Int.ofNat 0)), (AV.int 3 (Int.ofNat 0))] h
noncomputable def A49 : An := (.two .o (.two .o (.two (.two .o (.two (.at_ [0, 3, 4] (.two (.two .o (.two .o .o)) (.at_ [0, 3, 4] (.two (.two (.at_ [0, 3, 4, 16, 21] .o .o) (.two .o .o)) .o) .o)) .o) .o)) (.two .o .o))))
noncomputable def b49 : Code := bodyOf Go.Proofs.Try.f49
theorem k49 (F g : Nat) (a0 : AV) (h : H) : callD Go.Proofs.Try.prog (fun _ _ _ => none : Env) 26 F b49 [2] A49 [a0] h = c49 F g a0 h := by kernel_rfl
theorem s49 (F g : Nat) : ∀ args h r, u1 (c49 F g) args h = some r → Tri Go.Proofs.Try.prog 49 args h r := by
  intro args h r e; obtain ⟨a0, rfl, e1⟩ := u1_some e; exact fn_sound Go.Proofs.Try.func49 rfl rfl rfl Go.Proofs.Try.ntmps49 (Sound.none _) ((k49 F g a0 h).trans e1)

-- "loop.example/treenumbers/spec.TreeLeaves"
noncomputable def c19 (F g : Nat) (a0 : AV) (h : H) : Option R := bindR (c15 F g a0 h) fun x1 h => aNot x1 h fun x2 h => withBool x2 fun t3 => bc t3 (some (AV.one .tup (AV.cons (AV.int 3 (Int.ofNat 0)) (AV.cons (AV.bool false) (AV.leaf .nil))), h)) (bindR (c49 F g a0 h) fun x4 h => some (AV.one .tup (AV.cons x4 (AV.cons (AV.bool true) (AV.leaf .nil))), h))
noncomputable def A19 : An := (.two .o (.two (.two .o (.two (.two .o .o) .o)) (.two .o .o)))
noncomputable def b19 : Code := bodyOf Go.Proofs.Try.f19
theorem k19 (F g : Nat) (a0 : AV) (h : H) : callD Go.Proofs.Try.prog (Env.add (Env.add (fun _ _ _ => none : Env) 15 (u1 (c15 F g))) 49 (u1 (c49 F g))) 9 F b19 [2, 3] A19 [a0] h = c19 F g a0 h := by kernel_rfl
theorem s19 (F g : Nat) : ∀ args h r, u1 (c19 F g) args h = some r → Tri Go.Proofs.Try.prog 19 args h r := by
  intro args h r e; obtain ⟨a0, rfl, e1⟩ := u1_some e; exact fn_sound Go.Proofs.Try.func19 rfl rfl rfl Go.Proofs.Try.ntmps19 (Sound.add (Sound.add (Sound.none _) (s15 F g)) (s49 F g)) ((k19 F g a0 h).trans e1)

-- "loop.example/treenumbers/impl.TreeLeaves"
noncomputable def c20_j1 (F g : Nat) (kc8 : List AV → H → Option R) (vs : List AV) (h : H) : Option R := (fun x15 x16 x17 x18 => aArith iadd x18 (AV.int 3 (Int.ofNat 1)) h fun x19 h => kc8 [x15, x16, x17, x19] h) (hd vs) (hd (tl vs)) (hd (tl (tl vs))) (hd (tl (tl (tl vs))))
noncomputable def c20_l2 (F g : Nat) : List AV → H → (List AV → H → Option R) → Option R := fun vs h kc8 => (fun x9 x10 x11 x12 => aCmpI ilt x12 x11 h fun x13 h => withBool x13 fun t14 => bc t14 (aIdxAddr 1 x10 x12 h fun x20 h => aLoad x20 h fun x21 h => aNilCheck x21 h fun x22 h => aField 2 x22 h fun x23 h => aLoad x23 h fun x24 h => aLenK 1 x24 h fun x25 h => aCmpI ieq x25 (AV.int 3 (Int.ofNat 0)) h fun x26 h => withBool x26 fun t27 => bc t27 (aArith iadd x9 (AV.int 3 (Int.ofNat 1)) h fun x28 h => (c20_j1 F g kc8) [x28, x10, x11, x12] h) ((c20_j1 F g kc8) [x9, x10, x11, x12] h)) (some (AV.one .tup (AV.cons x9 (AV.cons (AV.bool true) (AV.leaf .nil))), h))) (hd vs) (hd (tl vs)) (hd (tl (tl vs))) (hd (tl (tl (tl vs))))
noncomputable def c20 (F g : Nat) (a0 : AV) (h : H) : Option R := bindR (c47 F g a0 h) fun x1 h => aExtract x1 0 h fun x2 h => aExtract x1 1 h fun x3 h => aNot x3 h fun x4 h => withBool x4 fun t5 => bc t5 (some (AV.one .tup (AV.cons (AV.int 3 (Int.ofNat 0)) (AV.cons (AV.bool false) (AV.leaf .nil))), h)) (bindR (c48 F g x2 h) fun x6 h => aLenK 1 x6 h fun x7 h => loopD F (c20_l2 F g) [(AV.int 3 (Int.ofNat 0)), x6, x7, (AV.int 3 (Int.ofNat 0))] h)
noncomputable def A20 : An := (.two .o (.two .o (.two (.two .o (.two (.two .o .o) .o)) (.two .o (.two (.two .o (.two (.at_ [6, 17, 18, 19] (.two .o (.two (.two .o .o) (.at_ [6, 17, 18, 19] (.two (.two .o (.two .o (.two .o .o))) .o) .o))) .o) .o)) (.two .o .o))))))
noncomputable def b20 : Code := bodyOf Go.Proofs.Try.f20
theorem k20 (F g : Nat) (a0 : AV) (h : H) : callD Go.Proofs.Try.prog (Env.add (Env.add (fun _ _ _ => none : Env) 47 (u1 (c47 F g))) 48 (u1 (c48 F g))) 33 F b20 [2, 3] A20 [a0] h = c20 F g a0 h := by kernel_rfl
theorem s20 (F g : Nat) : ∀ args h r, u1 (c20 F g) args h = some r → Tri Go.Proofs.Try.prog 20 args h r := by
  intro args h r e; obtain ⟨a0, rfl, e1⟩ := u1_some e; exact fn_sound Go.Proofs.Try.func20 rfl rfl rfl Go.Proofs.Try.ntmps20 (Sound.add (Sound.add (Sound.none _) (s47 F g)) (s48 F g)) ((k20 F g a0 h).trans e1)

-- "loop.example/treenumbers/laws.FnExactTreeLeaves"
noncomputable def c5_j1 (F g : Nat) (vs : List AV) (h : H) : Option R := (fun x11 x12 => aPick x11 (AV.bool true) x12 h fun x13 h => withBool x13 fun t14 => bc t14 (some ((AV.bool false), h)) (some ((AV.bool true), h))) (hd vs) (hd (tl vs))
noncomputable def c5 (F g : Nat) (a0 : AV) (h : H) : Option R := aLenK 0 a0 h fun x1 h => aCmpI (fun a b => ilt b a) x1 (AV.int 3 (Int.ofNat 1048576)) h fun x2 h => withBool x2 fun t3 => bc t3 (some ((AV.bool true), h)) (bindR (c19 F g a0 h) fun x4 h => aExtract x4 0 h fun x5 h => aExtract x4 1 h fun x6 h => bindR (c20 F g a0 h) fun x7 h => aExtract x7 0 h fun x8 h => aExtract x7 1 h fun x9 h => aCmpI (fun a b => bnot (ieq a b)) x8 x5 h fun x10 h => guardB false x10 (aEq true 0 x9 x6 h fun x15 h => (c5_j1 F g) [x10, x15] h) ((c5_j1 F g) [x10, (AV.one .tup (AV.leaf .nil))] h))
noncomputable def A5 : An := (.two .o (.two (.two .o (.two (.two .o .o) .o)) (.two .o (.two .o (.two (.two (.at_ [23, 26] .o .o) (.two (.two .o .o) .o)) (.two .o .o))))))
noncomputable def b5 : Code := bodyOf Go.Proofs.Try.f5
theorem k5 (F g : Nat) (a0 : AV) (h : H) : callD Go.Proofs.Try.prog (Env.add (Env.add (fun _ _ _ => none : Env) 19 (u1 (c19 F g))) 20 (u1 (c20 F g))) 28 F b5 [2] A5 [a0] h = c5 F g a0 h := by kernel_rfl
theorem s5 (F g : Nat) : ∀ args h r, u1 (c5 F g) args h = some r → Tri Go.Proofs.Try.prog 5 args h r := by
  intro args h r e; obtain ⟨a0, rfl, e1⟩ := u1_some e; exact fn_sound Go.Proofs.Try.func5 rfl rfl rfl Go.Proofs.Try.ntmps5 (Sound.add (Sound.add (Sound.none _) (s19 F g)) (s20 F g)) ((k5 F g a0 h).trans e1)

-- "loop.example/treenumbers/spec.l6In"
noncomputable def c70_j1 (F g : Nat) (vs : List AV) (h : H) : Option R := (fun x2 x3 => aPick x2 x3 (AV.bool false) h fun x4 h => some (x4, h)) (hd vs) (hd (tl vs))
noncomputable def c70 (F g : Nat) (a0 a1 a2 : AV) (h : H) : Option R := aCmpI (fun a b => ile b a) a0 a1 h fun x1 h => guardB true x1 (aCmpI ile a0 a2 h fun x5 h => (c70_j1 F g) [x1, x5] h) ((c70_j1 F g) [x1, (AV.one .tup (AV.leaf .nil))] h)
noncomputable def A70 : An := (.two .o (.two (.at_ [10, 13] .o .o) .o))
noncomputable def b70 : Code := bodyOf Go.Proofs.Try.f70
theorem k70 (F g : Nat) (a0 a1 a2 : AV) (h : H) : callD Go.Proofs.Try.prog (fun _ _ _ => none : Env) 15 F b70 [6] A70 [a0, a1, a2] h = c70 F g a0 a1 a2 h := by kernel_rfl
theorem s70 (F g : Nat) : ∀ args h r, u3 (c70 F g) args h = some r → Tri Go.Proofs.Try.prog 70 args h r := by
  intro args h r e; obtain ⟨a0, a1, a2, rfl, e1⟩ := u3_some e; exact fn_sound Go.Proofs.Try.func70 rfl rfl rfl Go.Proofs.Try.ntmps70 (Sound.none _) ((k70 F g a0 a1 a2 h).trans e1)

-- "loop.example/treenumbers/spec.l1Node"
noncomputable def c59_j1 (F g : Nat) (vs : List AV) (h : H) : Option R := (fun x2 x3 => aPick x2 x3 (AV.bool false) h fun x4 h => some (x4, h)) (hd vs) (hd (tl vs))
noncomputable def c59 (F g : Nat) (a0 a1 : AV) (h : H) : Option R := bindR (c15 F g a0 h) fun x1 h => guardB true x1 (aLenK 0 a0 h fun x5 h => aQuo x5 (AV.int 3 (Int.ofNat 2)) h fun x6 h => aArith isub x6 (AV.int 3 (Int.ofNat 1)) h fun x7 h => bindR (c70 F g a1 (AV.int 3 (Int.ofNat 0)) x7 h) fun x8 h => (c59_j1 F g) [x1, x8] h) ((c59_j1 F g) [x1, (AV.one .tup (AV.leaf .nil))] h)
noncomputable def A59 : An := (.two .o (.two (.at_ [7, 13] .o .o) .o))
noncomputable def b59 : Code := bodyOf Go.Proofs.Try.f59
theorem k59 (F g : Nat) (a0 a1 : AV) (h : H) : callD Go.Proofs.Try.prog (Env.add (Env.add (fun _ _ _ => none : Env) 15 (u1 (c15 F g))) 70 (u3 (c70 F g))) 15 F b59 [4] A59 [a0, a1] h = c59 F g a0 a1 h := by kernel_rfl
theorem s59 (F g : Nat) : ∀ args h r, u2 (c59 F g) args h = some r → Tri Go.Proofs.Try.prog 59 args h r := by
  intro args h r e; obtain ⟨a0, a1, rfl, e1⟩ := u2_some e; exact fn_sound Go.Proofs.Try.func59 rfl rfl rfl Go.Proofs.Try.ntmps59 (Sound.add (Sound.add (Sound.none _) (s15 F g)) (s70 F g)) ((k59 F g a0 a1 h).trans e1)

-- "loop.example/treenumbers/spec.l1Opens"
noncomputable def c71_j1 (F g : Nat) (kc2 : List AV → H → Option R) (vs : List AV) (h : H) : Option R := (fun x9 x10 x11 => aArith iadd x11 (AV.int 3 (Int.ofNat 1)) h fun x12 h => kc2 [x9, x10, x12] h) (hd vs) (hd (tl vs)) (hd (tl (tl vs)))
noncomputable def c71_l2 (F g : Nat) : List AV → H → (List AV → H → Option R) → Option R := fun vs h kc2 => (fun x3 x4 x5 => aLenK 0 x3 h fun x6 h => aCmpI ilt x5 x6 h fun x7 h => withBool x7 fun t8 => bc t8 (aIdxStr x3 x5 h fun x13 h => aCmpI ieq x13 (AV.int 4 (Int.ofNat 40)) h fun x14 h => withBool x14 fun t15 => bc t15 (aBuildSlice 1 1 [(0, 1, x5)] h fun x16 h => aAppend 1 8 x4 x16 h fun x17 h => (c71_j1 F g kc2) [x3, x17, x5] h) ((c71_j1 F g kc2) [x3, x4, x5] h)) (some (x4, h))) (hd vs) (hd (tl vs)) (hd (tl (tl vs)))
noncomputable def c71 (F g : Nat) (a0 : AV) (h : H) : Option R := aBuildSlice 0 1 [] h fun x1 h => loopD F (c71_l2 F g) [a0, x1, (AV.int 3 (Int.ofNat 0))] h
noncomputable def A71 : An := (.two .o (.two .o (.two (.two .o (.two (.at_ [0, 3, 4] (.two (.two .o (.two .o .o)) (.at_ [0, 3, 4] (.two (.two .o (.two .o .o)) .o) .o)) .o) .o)) (.two .o .o))))
noncomputable def b71 : Code := bodyOf Go.Proofs.Try.f71
theorem k71 (F g : Nat) (a0 : AV) (h : H) : callD Go.Proofs.Try.prog (fun _ _ _ => none : Env) 21 F b71 [2] A71 [a0] h = c71 F g a0 h := by kernel_rfl
theorem s71 (F g : Nat) : ∀ args h r, u1 (c71 F g) args h = some r → Tri Go.Proofs.Try.prog 71 args h r := by
  intro args h r e; obtain ⟨a0, rfl, e1⟩ := u1_some e; exact fn_sound Go.Proofs.Try.func71 rfl rfl rfl Go.Proofs.Try.ntmps71 (Sound.none _) ((k71 F g a0 h).trans e1)

-- "loop.example/treenumbers/spec.l1Part"
noncomputable def c60 (F g : Nat) (a0 a1 : AV) (h : H) : Option R := bindR (c71 F g a0 h) fun x1 h => aIdxAddr 1 x1 a1 h fun x2 h => aLoad x2 h fun x3 h => bindR (c46 F g a0 x3 h) fun x4 h => aSliceS a0 (some x3) (some x4) none h fun x5 h => some (x5, h)
noncomputable def A60 : An := (.two .o (.two .o (.two .o .o)))
noncomputable def b60 : Code := bodyOf Go.Proofs.Try.f60
theorem k60 (F g : Nat) (a0 a1 : AV) (h : H) : callD Go.Proofs.Try.prog (Env.add (Env.add (fun _ _ _ => none : Env) 71 (u1 (c71 F g))) 46 (u2 (c46 F g))) 17 F b60 [4] A60 [a0, a1] h = c60 F g a0 a1 h := by kernel_rfl
theorem s60 (F g : Nat) : ∀ args h r, u2 (c60 F g) args h = some r → Tri Go.Proofs.Try.prog 60 args h r := by
  intro args h r e; obtain ⟨a0, a1, rfl, e1⟩ := u2_some e; exact fn_sound Go.Proofs.Try.func60 rfl rfl rfl Go.Proofs.Try.ntmps60 (Sound.add (Sound.add (Sound.none _) (s71 F g)) (s46 F g)) ((k60 F g a0 a1 h).trans e1)

-- "loop.example/treenumbers/spec.TreePart"
noncomputable def c32 (F g : Nat) (a0 a1 : AV) (h : H) : Option R := bindR (c59 F g a0 a1 h) fun x1 h => aNot x1 h fun x2 h => withBool x2 fun t3 => bc t3 (some (AV.one .tup (AV.cons (AV.str [] 0) (AV.cons (AV.bool false) (AV.leaf .nil))), h)) (bindR (c60 F g a0 a1 h) fun x4 h => some (AV.one .tup (AV.cons x4 (AV.cons (AV.bool true) (AV.leaf .nil))), h))
noncomputable def A32 : An := (.two .o (.two (.two .o (.two (.two .o .o) .o)) (.two .o .o)))
noncomputable def b32 : Code := bodyOf Go.Proofs.Try.f32
theorem k32 (F g : Nat) (a0 a1 : AV) (h : H) : callD Go.Proofs.Try.prog (Env.add (Env.add (fun _ _ _ => none : Env) 59 (u2 (c59 F g))) 60 (u2 (c60 F g))) 13 F b32 [4, 5] A32 [a0, a1] h = c32 F g a0 a1 h := by kernel_rfl
theorem s32 (F g : Nat) : ∀ args h r, u2 (c32 F g) args h = some r → Tri Go.Proofs.Try.prog 32 args h r := by
  intro args h r e; obtain ⟨a0, a1, rfl, e1⟩ := u2_some e; exact fn_sound Go.Proofs.Try.func32 rfl rfl rfl Go.Proofs.Try.ntmps32 (Sound.add (Sound.add (Sound.none _) (s59 F g)) (s60 F g)) ((k32 F g a0 a1 h).trans e1)

-- "(*loop.example/treenumbers/impl.node).text"
noncomputable def c54_l1 (F g : Nat) (self : AV → H → Option R) : List AV → H → (List AV → H → Option R) → Option R := fun vs h kc5 => (fun x6 x7 x8 x9 => aCmpI ilt x9 x8 h fun x10 h => withBool x10 fun t11 => bc t11 (aIdxAddr 1 x7 x9 h fun x12 h => aLoad x12 h fun x13 h => bindR (self x13 h) fun x14 h => aSAdd x6 x14 h fun x15 h => aArith iadd x9 (AV.int 3 (Int.ofNat 1)) h fun x16 h => kc5 [x15, x7, x8, x16] h) (aSAdd x6 (AV.str [41] 1) h fun x17 h => some (x17, h))) (hd vs) (hd (tl vs)) (hd (tl (tl vs))) (hd (tl (tl (tl vs))))
noncomputable def c54 (F g : Nat) : AV → H → Option R := Nat.rec (motive := fun _ => AV → H → Option R) (fun _ _ => none) (fun g self a0 h => aNilCheck a0 h fun x1 h => aField 2 x1 h fun x2 h => aLoad x2 h fun x3 h => aLenK 1 x3 h fun x4 h => loopD F (c54_l1 F g self) [(AV.str [40] 1), x3, x4, (AV.int 3 (Int.ofNat 0))] h) g
noncomputable def A54 : An := (.two .o (.two .o (.two (.two .o (.two (.at_ [3, 9, 10, 11] (.two .o (.two (.two .o .o) (.two (.two (.two .o .o) .o) .o))) .o) .o)) (.two .o .o))))
noncomputable def b54 : Code := bodyOf Go.Proofs.Try.f54
theorem k54 (F g : Nat) (a0 : AV) (h : H) : callD Go.Proofs.Try.prog (Env.add (fun _ _ _ => none : Env) 54 (u1 (c54 F g))) 22 F b54 [2] A54 [a0] h = c54 F (g + 1) a0 h := by kernel_rfl
theorem s54 (F g : Nat) : ∀ args h r, u1 (c54 F g) args h = some r → Tri Go.Proofs.Try.prog 54 args h r := by
  induction g with
  | zero => intro args h r e; obtain ⟨a0, rfl, e⟩ := u1_some e; cases e
  | succ g ih => intro args h r e; obtain ⟨a0, rfl, e1⟩ := u1_some e; exact fn_sound Go.Proofs.Try.func54 rfl rfl rfl Go.Proofs.Try.ntmps54 (Sound.add (Sound.none _) ih) ((k54 F g a0 h).trans e1)

-- "loop.example/treenumbers/impl.TreePart"
noncomputable def c33_j1 (F g : Nat) (vs : List AV) (h : H) : Option R := (fun x8 x9 x10 x11 => aPick x10 (AV.bool true) x11 h fun x12 h => withBool x12 fun t13 => bc t13 (some (AV.one .tup (AV.cons (AV.str [] 0) (AV.cons (AV.bool false) (AV.leaf .nil))), h)) (aIdxAddr 1 x9 x8 h fun x14 h => aLoad x14 h fun x15 h => bindR (c54 F g x15 h) fun x16 h => some (AV.one .tup (AV.cons x16 (AV.cons (AV.bool true) (AV.leaf .nil))), h))) (hd vs) (hd (tl vs)) (hd (tl (tl vs))) (hd (tl (tl (tl vs))))
noncomputable def c33 (F g : Nat) (a0 a1 : AV) (h : H) : Option R := bindR (c47 F g a0 h) fun x1 h => aExtract x1 0 h fun x2 h => aExtract x1 1 h fun x3 h => aNot x3 h fun x4 h => withBool x4 fun t5 => bc t5 (some (AV.one .tup (AV.cons (AV.str [] 0) (AV.cons (AV.bool false) (AV.leaf .nil))), h)) (bindR (c48 F g x2 h) fun x6 h => aCmpI ilt a1 (AV.int 3 (Int.ofNat 0)) h fun x7 h => guardB false x7 (aLenK 1 x6 h fun x17 h => aCmpI (fun a b => ile b a) a1 x17 h fun x18 h => (c33_j1 F g) [a1, x6, x7, x18] h) ((c33_j1 F g) [a1, x6, x7, (AV.one .tup (AV.leaf .nil))] h))
noncomputable def A33 : An := (.two .o (.two .o (.two (.two .o (.two (.two .o .o) .o)) (.two .o (.two (.two (.at_ [1, 8, 20, 24] .o .o) (.two (.two .o .o) .o)) (.two .o .o))))))
noncomputable def b33 : Code := bodyOf Go.Proofs.Try.f33
theorem k33 (F g : Nat) (a0 a1 : AV) (h : H) : callD Go.Proofs.Try.prog (Env.add (Env.add (Env.add (fun _ _ _ => none : Env) 47 (u1 (c47 F g))) 48 (u1 (c48 F g))) 54 (u1 (c54 F g))) 31 F b33 [4, 5] A33 [a0, a1] h = c33 F g a0 a1 h := by kernel_rfl
theorem s33 (F g : Nat) : ∀ args h r, u2 (c33 F g) args h = some r → Tri Go.Proofs.Try.prog 33 args h r := by
  intro args h r e; obtain ⟨a0, a1, rfl, e1⟩ := u2_some e; exact fn_sound Go.Proofs.Try.func33 rfl rfl rfl Go.Proofs.Try.ntmps33 (Sound.add (Sound.add (Sound.add (Sound.none _) (s47 F g)) (s48 F g)) (s54 F g)) ((k33 F g a0 a1 h).trans e1)

-- "loop.example/treenumbers/laws.FnExactTreePart"
noncomputable def c9_j1 (F g : Nat) (vs : List AV) (h : H) : Option R := (fun x11 x12 => aPick x11 (AV.bool true) x12 h fun x13 h => withBool x13 fun t14 => bc t14 (some ((AV.bool false), h)) (some ((AV.bool true), h))) (hd vs) (hd (tl vs))
noncomputable def c9 (F g : Nat) (a0 a1 : AV) (h : H) : Option R := aLenK 0 a0 h fun x1 h => aCmpI (fun a b => ilt b a) x1 (AV.int 3 (Int.ofNat 1048576)) h fun x2 h => withBool x2 fun t3 => bc t3 (some ((AV.bool true), h)) (bindR (c32 F g a0 a1 h) fun x4 h => aExtract x4 0 h fun x5 h => aExtract x4 1 h fun x6 h => bindR (c33 F g a0 a1 h) fun x7 h => aExtract x7 0 h fun x8 h => aExtract x7 1 h fun x9 h => aCmpS (fun a b => bnot (eqL a b)) x8 x5 h fun x10 h => guardB false x10 (aEq true 0 x9 x6 h fun x15 h => (c9_j1 F g) [x10, x15] h) ((c9_j1 F g) [x10, (AV.one .tup (AV.leaf .nil))] h))
noncomputable def A9 : An := (.two .o (.two (.two .o (.two (.two .o .o) .o)) (.two .o (.two .o (.two (.two (.at_ [27, 30] .o .o) (.two (.two .o .o) .o)) (.two .o .o))))))
noncomputable def b9 : Code := bodyOf Go.Proofs.Try.f9
theorem k9 (F g : Nat) (a0 a1 : AV) (h : H) : callD Go.Proofs.Try.prog (Env.add (Env.add (fun _ _ _ => none : Env) 32 (u2 (c32 F g))) 33 (u2 (c33 F g))) 32 F b9 [4] A9 [a0, a1] h = c9 F g a0 a1 h := by kernel_rfl
theorem s9 (F g : Nat) : ∀ args h r, u2 (c9 F g) args h = some r → Tri Go.Proofs.Try.prog 9 args h r := by
  intro args h r e; obtain ⟨a0, a1, rfl, e1⟩ := u2_some e; exact fn_sound Go.Proofs.Try.func9 rfl rfl rfl Go.Proofs.Try.ntmps9 (Sound.add (Sound.add (Sound.none _) (s32 F g)) (s33 F g)) ((k9 F g a0 a1 h).trans e1)

end
end Go.AI
