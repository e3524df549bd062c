/- The functions that the laws reach, as the evaluator reads them. -/
import Derived.Test.YthaideahdggofaaAiF
import Derived.Test.YthaideahdggofaaGivE
import Derived.Test.YthaideahdggofaaProg
import Derived.KernelRfl

namespace Go.AI
open Go Go.RowKit
set_option linter.unusedVariables false
set_option maxRecDepth 100000
noncomputable section
-- "loop.example/treenumbers/spec.l1End"
noncomputable def c46_j1 (F g : Nat) (kc1 : List AV → H → Option R) (vs : List AV) (h : H) : Option R := (fun x8 x9 x10 => aCmpI ieq x9 (AV.int 3 (Int.ofNat 0)) h fun x11 h => withBool x11 fun t12 => bc t12 (aArith iadd x10 (AV.int 3 (Int.ofNat 1)) h fun x13 h => some (x13, h)) (aCmpI ilt x9 (AV.int 3 (Int.ofNat 0)) h fun x14 h => withBool x14 fun t15 => bc t15 (some ((AV.int 3 (Int.negSucc 0)), h)) (aArith iadd x10 (AV.int 3 (Int.ofNat 1)) h fun x16 h => kc1 [x8, x9, x16] h))) (hd vs) (hd (tl vs)) (hd (tl (tl vs)))
noncomputable def c46_l2 (F g : Nat) : List AV → H → (List AV → H → Option R) → Option R := fun vs h kc1 => (fun x2 x3 x4 => aLenK 0 x2 h fun x5 h => aCmpI ilt x4 x5 h fun x6 h => withBool x6 fun t7 => bc t7 (aIdxStr x2 x4 h fun x17 h => aCmpI ieq x17 (AV.int 4 (Int.ofNat 40)) h fun x18 h => withBool x18 fun t19 => bc t19 (aArith iadd x3 (AV.int 3 (Int.ofNat 1)) h fun x20 h => (c46_j1 F g kc1) [x2, x20, x4] h) (aCmpI ieq x17 (AV.int 4 (Int.ofNat 41)) h fun x21 h => withBool x21 fun t22 => bc t22 (aArith isub x3 (AV.int 3 (Int.ofNat 1)) h fun x23 h => (c46_j1 F g kc1) [x2, x23, x4] h) (some ((AV.int 3 (Int.negSucc 0)), h)))) (some ((AV.int 3 (Int.negSucc 0)), h))) (hd vs) (hd (tl vs)) (hd (tl (tl vs)))
noncomputable def c46 (F g : Nat) (a0 a1 : AV) (h : H) : Option R := loopD F (c46_l2 F g) [a0, (AV.int 3 (Int.ofNat 0)), a1] h
noncomputable def A46 : An := (.two .o (.two .o (.two (.two .o (.two (.at_ [0, 5, 6] (.two (.two .o (.two .o .o)) (.two (.two (.at_ [0, 5, 6] (.two .o (.two (.two .o (.two .o (.two .o (.two .o (.two .o .o))))) .o)) (.two (.two .o (.two (.two .o .o) .o)) (.two .o (.two (.two .o .o) .o)))) .o) .o)) .o) .o)) (.two .o .o))))
noncomputable def b46 : Code := bodyOf Go.Proofs.Try.f46
theorem k46 (F g : Nat) (a0 a1 : AV) (h : H) : callD Go.Proofs.Try.prog (fun _ _ _ => none : Env) 31 F b46 [4] A46 [a0, a1] h = c46 F g a0 a1 h := by kernel_rfl
theorem s46 (F g : Nat) : ∀ args h r, u2 (c46 F g) args h = some r → Tri Go.Proofs.Try.prog 46 args h r := by
  intro args h r e; obtain ⟨a0, a1, rfl, e1⟩ := u2_some e; exact fn_sound Go.Proofs.Try.func46 rfl rfl rfl Go.Proofs.Try.ntmps46 (Sound.none _) ((k46 F g a0 a1 h).trans e1)

-- "loop.example/treenumbers/spec.TreeIn"
noncomputable def c15_j1 (F g : Nat) (vs : List AV) (h : H) : Option R := (fun x7 x8 => aPick x7 x8 (AV.bool false) h fun x9 h => some (x9, h)) (hd vs) (hd (tl vs))
noncomputable def c15_j2 (F g : Nat) (vs : List AV) (h : H) : Option R := (fun x3 x4 x5 => aPick x4 x5 (AV.bool false) h fun x6 h => guardB true x6 (bindR (c46 F g x3 (AV.int 3 (Int.ofNat 0)) h) fun x10 h => aLenK 0 x3 h fun x11 h => aCmpI ieq x10 x11 h fun x12 h => (c15_j1 F g) [x6, x12] h) ((c15_j1 F g) [x6, (AV.one .tup (AV.leaf .nil))] h)) (hd vs) (hd (tl vs)) (hd (tl (tl vs)))
noncomputable def c15 (F g : Nat) (a0 : AV) (h : H) : Option R := aLenK 0 a0 h fun x1 h => aCmpI (fun a b => ilt b a) x1 (AV.int 3 (Int.ofNat 0)) h fun x2 h => guardB true x2 (aLenK 0 a0 h fun x13 h => aCmpI ile x13 (AV.int 3 (Int.ofNat 18)) h fun x14 h => (c15_j2 F g) [a0, x2, x14] h) ((c15_j2 F g) [a0, x2, (AV.one .tup (AV.leaf .nil))] h)
noncomputable def A15 : An := (.two .o (.two (.at_ [0, 6, 9] .o (.at_ [11, 16] .o .o)) .o))
noncomputable def b15 : Code := bodyOf Go.Proofs.Try.f15
theorem k15 (F g : Nat) (a0 : AV) (h : H) : callD Go.Proofs.Try.prog (Env.add (fun _ _ _ => none : Env) 46 (u2 (c46 F g))) 18 F b15 [2] A15 [a0] h = c15 F g a0 h := by kernel_rfl
theorem s15 (F g : Nat) : ∀ args h r, u1 (c15 F g) args h = some r → Tri Go.Proofs.Try.prog 15 args h r := by
  intro args h r e; obtain ⟨a0, rfl, e1⟩ := u1_some e; exact fn_sound Go.Proofs.Try.func15 rfl rfl rfl Go.Proofs.Try.ntmps15 (Sound.add (Sound.none _) (s46 F g)) ((k15 F g a0 h).trans e1)

-- "(*loop.example/treenumbers/impl.node).add"
noncomputable def c66 (F g : Nat) (a0 a1 : AV) (h : H) : Option R := aBuild [(AV.int 3 (Int.ofNat 0)), (AV.leaf .nilp), (AV.leaf .nils)] [(0, 1, a1), (1, 1, a0)] h fun x1 h => aBox x1 h fun x2 h => aNilCheck a0 h fun x3 h => aField 2 x3 h fun x4 h => aLoad x4 h fun x5 h => aBuildSlice 1 1 [(0, 1, x2)] h fun x6 h => aAppend 1 8 x5 x6 h fun x7 h => aNilCheck a0 h fun x8 h => aField 2 x8 h fun x9 h => aStore x9 x7 h fun x10 h => some (x2, h)
noncomputable def A66 : An := (.two .o (.two .o (.two .o (.two .o .o))))
noncomputable def b66 : Code := bodyOf Go.Proofs.Try.f66
theorem k66 (F g : Nat) (a0 a1 : AV) (h : H) : callD Go.Proofs.Try.prog (fun _ _ _ => none : Env) 21 F b66 [4] A66 [a0, a1] h = c66 F g a0 a1 h := by kernel_rfl
theorem s66 (F g : Nat) : ∀ args h r, u2 (c66 F g) args h = some r → Tri Go.Proofs.Try.prog 66 args h r := by
  intro args h r e; obtain ⟨a0, a1, rfl, e1⟩ := u2_some e; exact fn_sound Go.Proofs.Try.func66 rfl rfl rfl Go.Proofs.Try.ntmps66 (Sound.none _) ((k66 F g a0 a1 h).trans e1)

-- "loop.example/treenumbers/impl.readTree"
noncomputable def c47_j1 (F g : Nat) (vs : List AV) (h : H) : Option R := (fun x12 x13 x14 => aPick x13 (AV.bool true) x14 h fun x15 h => withBool x15 fun t16 => bc t16 (some (AV.one .tup (AV.cons (AV.leaf .nilp) (AV.cons (AV.bool false) (AV.leaf .nil))), h)) (some (AV.one .tup (AV.cons x12 (AV.cons (AV.bool true) (AV.leaf .nil))), h))) (hd vs) (hd (tl vs)) (hd (tl (tl vs)))
noncomputable def c47_j2 (F g : Nat) (vs : List AV) (h : H) : Option R := (fun x7 x8 x9 x10 => aPick x9 (AV.bool true) x10 h fun x11 h => guardB false x11 (aEq true 1 x8 (AV.leaf .nilp) h fun x17 h => (c47_j1 F g) [x7, x11, x17] h) ((c47_j1 F g) [x7, x11, (AV.one .tup (AV.leaf .nil))] h)) (hd vs) (hd (tl vs)) (hd (tl (tl vs))) (hd (tl (tl (tl vs))))
noncomputable def c47_j3 (F g : Nat) (vs : List AV) (h : H) : Option R := (fun x1 x2 x3 x4 => aLenK 0 x1 h fun x5 h => aCmpI ilt x4 x5 h fun x6 h => guardB false x6 (aEq false 1 x2 (AV.leaf .nilp) h fun x18 h => (c47_j2 F g) [x2, x3, x6, x18] h) ((c47_j2 F g) [x2, x3, x6, (AV.one .tup (AV.leaf .nil))] h)) (hd vs) (hd (tl vs)) (hd (tl (tl vs))) (hd (tl (tl (tl vs))))
noncomputable def c47_j4 (F g : Nat) (kc19 : List AV → H → Option R) (vs : List AV) (h : H) : Option R := (fun x28 x29 x30 x31 x32 => aArith iadd x32 (AV.int 3 (Int.ofNat 1)) h fun x33 h => kc19 [x28, x29, x30, x31, x33] h) (hd vs) (hd (tl vs)) (hd (tl (tl vs))) (hd (tl (tl (tl vs)))) (hd (tl (tl (tl (tl vs)))))
noncomputable def c47_j5 (F g : Nat) (kc19 : List AV → H → Option R) (vs : List AV) (h : H) : Option R := (fun x72 x73 x74 x75 x76 x77 x78 => aPick x77 x78 (AV.bool false) h fun x79 h => withBool x79 fun t80 => bc t80 (bindR (c66 F g x74 x75 h) fun x81 h => aArith iadd x75 (AV.int 3 (Int.ofNat 1)) h fun x82 h => (c47_j4 F g kc19) [x72, x73, x81, x82, x76] h) ((c47_j3 F g) [x72, x73, x74, x76] h)) (hd vs) (hd (tl vs)) (hd (tl (tl vs))) (hd (tl (tl (tl vs)))) (hd (tl (tl (tl (tl vs))))) (hd (tl (tl (tl (tl (tl vs)))))) (hd (tl (tl (tl (tl (tl (tl vs)))))))
noncomputable def c47_j6 (F g : Nat) (kc19 : List AV → H → Option R) (vs : List AV) (h : H) : Option R := (fun x64 x65 x66 x67 x68 x69 x70 => aPick x69 x70 (AV.bool false) h fun x71 h => guardB true x71 (aCmpI ilt x67 (AV.int 3 (Int.ofNat 9)) h fun x83 h => (c47_j5 F g kc19) [x64, x65, x66, x67, x68, x71, x83] h) ((c47_j5 F g kc19) [x64, x65, x66, x67, x68, x71, (AV.one .tup (AV.leaf .nil))] h)) (hd vs) (hd (tl vs)) (hd (tl (tl vs))) (hd (tl (tl (tl vs)))) (hd (tl (tl (tl (tl vs))))) (hd (tl (tl (tl (tl (tl vs)))))) (hd (tl (tl (tl (tl (tl (tl vs)))))))
noncomputable def c47_j7 (F g : Nat) (kc19 : List AV → H → Option R) (vs : List AV) (h : H) : Option R := (fun x50 x51 x52 x53 x54 x55 x56 => aPick x55 x56 (AV.bool false) h fun x57 h => withBool x57 fun t58 => bc t58 (aBuild [(AV.int 3 (Int.ofNat 0)), (AV.leaf .nilp), (AV.leaf .nils)] [] h fun x59 h => aBox x59 h fun x60 h => aArith iadd x53 (AV.int 3 (Int.ofNat 1)) h fun x61 h => (c47_j4 F g kc19) [x50, x60, x60, x61, x54] h) (aIdxStr x50 x54 h fun x62 h => aCmpI ieq x62 (AV.int 4 (Int.ofNat 40)) h fun x63 h => guardB true x63 (aEq true 1 x52 (AV.leaf .nilp) h fun x84 h => (c47_j6 F g kc19) [x50, x51, x52, x53, x54, x63, x84] h) ((c47_j6 F g kc19) [x50, x51, x52, x53, x54, x63, (AV.one .tup (AV.leaf .nil))] h))) (hd vs) (hd (tl vs)) (hd (tl (tl vs))) (hd (tl (tl (tl vs)))) (hd (tl (tl (tl (tl vs))))) (hd (tl (tl (tl (tl (tl vs)))))) (hd (tl (tl (tl (tl (tl (tl vs)))))))
noncomputable def c47_j8 (F g : Nat) (kc19 : List AV → H → Option R) (vs : List AV) (h : H) : Option R := (fun x36 x37 x38 x39 x40 x41 x42 => aPick x41 x42 (AV.bool false) h fun x43 h => withBool x43 fun t44 => bc t44 (aNilCheck x38 h fun x45 h => aField 1 x45 h fun x46 h => aLoad x46 h fun x47 h => (c47_j4 F g kc19) [x36, x37, x47, x39, x40] h) (aIdxStr x36 x40 h fun x48 h => aCmpI ieq x48 (AV.int 4 (Int.ofNat 40)) h fun x49 h => guardB true x49 (aEq false 1 x37 (AV.leaf .nilp) h fun x85 h => (c47_j7 F g kc19) [x36, x37, x38, x39, x40, x49, x85] h) ((c47_j7 F g kc19) [x36, x37, x38, x39, x40, x49, (AV.one .tup (AV.leaf .nil))] h))) (hd vs) (hd (tl vs)) (hd (tl (tl vs))) (hd (tl (tl (tl vs)))) (hd (tl (tl (tl (tl vs))))) (hd (tl (tl (tl (tl (tl vs)))))) (hd (tl (tl (tl (tl (tl (tl vs)))))))
noncomputable def c47_l9 (F g : Nat) : List AV → H → (List AV → H → Option R) → Option R := fun vs h kc19 => (fun x20 x21 x22 x23 x24 => aLenK 0 x20 h fun x25 h => aCmpI ilt x24 x25 h fun x26 h => withBool x26 fun t27 => bc t27 (aIdxStr x20 x24 h fun x34 h => aCmpI ieq x34 (AV.int 4 (Int.ofNat 41)) h fun x35 h => guardB true x35 (aEq true 1 x22 (AV.leaf .nilp) h fun x86 h => (c47_j8 F g kc19) [x20, x21, x22, x23, x24, x35, x86] h) ((c47_j8 F g kc19) [x20, x21, x22, x23, x24, x35, (AV.one .tup (AV.leaf .nil))] h)) ((c47_j3 F g) [x20, x21, x22, x24] h)) (hd vs) (hd (tl vs)) (hd (tl (tl vs))) (hd (tl (tl (tl vs)))) (hd (tl (tl (tl (tl vs)))))
noncomputable def c47 (F g : Nat) (a0 : AV) (h : H) : Option R := loopD F (c47_l9 F g) [a0, (AV.leaf .nilp), (AV.leaf .nilp), (AV.int 3 (Int.ofNat 0)), (AV.int 3 (Int.ofNat 0))] h
noncomputable def A47 : An := (.two .o (.two (.two .o (.two .o (.two .o (.at_ [0, 4, 5, 7] (.two (.at_ [0, 4, 5, 6, 7] (.two (.two .o (.two .o .o)) (.two (.at_ [0, 4, 5, 6, 7] (.two (.two (.at_ [0, 4, 5, 6, 7, 17, 19] .o .o) (.two .o (.two (.at_ [0, 4, 5, 6, 7, 30, 32] .o .o) (.two (.two .o (.two .o .o)) (.two (.at_ [0, 4, 5, 6, 7, 44, 46] .o (.at_ [0, 4, 5, 6, 7, 48, 50] .o .o)) (.two (.two .o .o) .o)))))) .o) .o) .o)) .o) .o) (.two (.two (.at_ [4, 5, 63, 65] .o (.at_ [4, 67, 69] .o .o)) (.two (.two .o .o) .o)) (.two .o .o)))))) .o))
noncomputable def b47 : Code := bodyOf Go.Proofs.Try.f47
theorem k47 (F g : Nat) (a0 : AV) (h : H) : callD Go.Proofs.Try.prog (Env.add (fun _ _ _ => none : Env) 66 (u2 (c66 F g))) 72 F b47 [2, 3] A47 [a0] h = c47 F g a0 h := by kernel_rfl
theorem s47 (F g : Nat) : ∀ args h r, u1 (c47 F g) args h = some r → Tri Go.Proofs.Try.prog 47 args h r := by
  intro args h r e; obtain ⟨a0, rfl, e1⟩ := u1_some e; exact fn_sound Go.Proofs.Try.func47 rfl rfl rfl Go.Proofs.Try.ntmps47 (Sound.add (Sound.none _) (s66 F g)) ((k47 F g a0 h).trans e1)

-- "loop.example/treenumbers/impl.TreeIn"
noncomputable def c16 (F g : Nat) (a0 : AV) (h : H) : Option R := bindR (c47 F g a0 h) fun x1 h => aExtract x1 0 h fun x2 h => aExtract x1 1 h fun x3 h => some (x3, h)
noncomputable def A16 : An := (.two .o (.two .o (.two .o .o)))
noncomputable def b16 : Code := bodyOf Go.Proofs.Try.f16
theorem k16 (F g : Nat) (a0 : AV) (h : H) : callD Go.Proofs.Try.prog (Env.add (fun _ _ _ => none : Env) 47 (u1 (c47 F g))) 11 F b16 [2] A16 [a0] h = c16 F g a0 h := by kernel_rfl
theorem s16 (F g : Nat) : ∀ args h r, u1 (c16 F g) args h = some r → Tri Go.Proofs.Try.prog 16 args h r := by
  intro args h r e; obtain ⟨a0, rfl, e1⟩ := u1_some e; exact fn_sound Go.Proofs.Try.func16 rfl rfl rfl Go.Proofs.Try.ntmps16 (Sound.add (Sound.none _) (s47 F g)) ((k16 F g a0 h).trans e1)

-- "loop.example/treenumbers/laws.FnExactTreeIn"
noncomputable def c3 (F g : Nat) (a0 : AV) (h : H) : Option R := aLenK 0 a0 h fun x1 h => aCmpI (fun a b => ilt b a) x1 (AV.int 3 (Int.ofNat 1048576)) h fun x2 h => withBool x2 fun t3 => bc t3 (some ((AV.bool true), h)) (bindR (c15 F g a0 h) fun x4 h => bindR (c16 F g a0 h) fun x5 h => aEq true 0 x5 x4 h fun x6 h => withBool x6 fun t7 => bc t7 (some ((AV.bool false), h)) (some ((AV.bool true), h)))
noncomputable def A3 : An := (.two .o (.two (.two .o (.two (.two .o .o) .o)) (.two .o (.two .o (.two (.two .o (.two (.two .o .o) .o)) (.two .o .o))))))
noncomputable def b3 : Code := bodyOf Go.Proofs.Try.f3
theorem k3 (F g : Nat) (a0 : AV) (h : H) : callD Go.Proofs.Try.prog (Env.add (Env.add (fun _ _ _ => none : Env) 15 (u1 (c15 F g))) 16 (u1 (c16 F g))) 15 F b3 [2] A3 [a0] h = c3 F g a0 h := by kernel_rfl
theorem s3 (F g : Nat) : ∀ args h r, u1 (c3 F g) args h = some r → Tri Go.Proofs.Try.prog 3 args h r := by
  intro args h r e; obtain ⟨a0, rfl, e1⟩ := u1_some e; exact fn_sound Go.Proofs.Try.func3 rfl rfl rfl Go.Proofs.Try.ntmps3 (Sound.add (Sound.add (Sound.none _) (s15 F g)) (s16 F g)) ((k3 F g a0 h).trans e1)

-- "loop.example/treenumbers/spec.TreeNodes"
noncomputable def c17 (F g : Nat) (a0 : AV) (h : H) : Option R := bindR (c15 F g a0 h) fun x1 h => aNot x1 h fun x2 h => withBool x2 fun t3 => bc t3 (some (AV.one .tup (AV.cons (AV.int 3 (Int.ofNat 0)) (AV.cons (AV.bool false) (AV.leaf .nil))), h)) (aLenK 0 a0 h fun x4 h => aQuo x4 (AV.int 3 (Int.ofNat 2)) h fun x5 h => some (AV.one .tup (AV.cons x5 (AV.cons (AV.bool true) (AV.leaf .nil))), h))
noncomputable def A17 : An := (.two .o (.two (.two .o (.two (.two .o .o) .o)) (.two .o .o)))
noncomputable def b17 : Code := bodyOf Go.Proofs.Try.f17
theorem k17 (F g : Nat) (a0 : AV) (h : H) : callD Go.Proofs.Try.prog (Env.add (fun _ _ _ => none : Env) 15 (u1 (c15 F g))) 10 F b17 [2, 3] A17 [a0] h = c17 F g a0 h := by kernel_rfl
theorem s17 (F g : Nat) : ∀ args h r, u1 (c17 F g) args h = some r → Tri Go.Proofs.Try.prog 17 args h r := by
  intro args h r e; obtain ⟨a0, rfl, e1⟩ := u1_some e; exact fn_sound Go.Proofs.Try.func17 rfl rfl rfl Go.Proofs.Try.ntmps17 (Sound.add (Sound.none _) (s15 F g)) ((k17 F g a0 h).trans e1)

-- "(*loop.example/treenumbers/impl.node).nodes"
noncomputable def c48_l1 (F g : Nat) (self : AV → H → Option R) : List AV → H → (List AV → H → Option R) → Option R := fun vs h kc6 => (fun x7 x8 x9 x10 => aCmpI ilt x10 x9 h fun x11 h => withBool x11 fun t12 => bc t12 (aIdxAddr 1 x8 x10 h fun x13 h => aLoad x13 h fun x14 h => bindR (self x14 h) fun x15 h => aAppend 1 8 x7 x15 h fun x16 h => aArith iadd x10 (AV.int 3 (Int.ofNat 1)) h fun x17 h => kc6 [x16, x8, x9, x17] h) (some (x7, h))) (hd vs) (hd (tl vs)) (hd (tl (tl vs))) (hd (tl (tl (tl vs))))
noncomputable def c48 (F g : Nat) : AV → H → Option R := Nat.rec (motive := fun _ => AV → H → Option R) (fun _ _ => none) (fun g self a0 h => aBuildSlice 1 1 [(0, 1, a0)] h fun x1 h => aNilCheck a0 h fun x2 h => aField 2 x2 h fun x3 h => aLoad x3 h fun x4 h => aLenK 1 x4 h fun x5 h => loopD F (c48_l1 F g self) [x1, x4, x5, (AV.int 3 (Int.ofNat 0))] h) g
noncomputable def A48 : An := (.two .o (.two .o (.two (.two .o (.two (.at_ [3, 11, 12, 13] (.two .o (.two (.two .o .o) (.two (.two (.two .o .o) .o) .o))) .o) .o)) (.two .o .o))))
noncomputable def b48 : Code := bodyOf Go.Proofs.Try.f48
theorem k48 (F g : Nat) (a0 : AV) (h : H) : callD Go.Proofs.Try.prog (Env.add (fun _ _ _ => none : Env) 48 (u1 (c48 F g))) 23 F b48 [2] A48 [a0] h = c48 F (g + 1) a0 h := by kernel_rfl
theorem s48 (F g : Nat) : ∀ args h r, u1 (c48 F g) args h = some r → Tri Go.Proofs.Try.prog 48 args h r := by
  induction g with
  | zero => intro args h r e; obtain ⟨a0, rfl, e⟩ := u1_some e; cases e
  | succ g ih => intro args h r e; obtain ⟨a0, rfl, e1⟩ := u1_some e; exact fn_sound Go.Proofs.Try.func48 rfl rfl rfl Go.Proofs.Try.ntmps48 (Sound.add (Sound.none _) ih) ((k48 F g a0 h).trans e1)

-- "loop.example/treenumbers/impl.TreeNodes"
noncomputable def c18 (F g : Nat) (a0 : AV) (h : H) : Option R := bindR (c47 F g a0 h) fun x1 h => aExtract x1 0 h fun x2 h => aExtract x1 1 h fun x3 h => aNot x3 h fun x4 h => withBool x4 fun t5 => bc t5 (some (AV.one .tup (AV.cons (AV.int 3 (Int.ofNat 0)) (AV.cons (AV.bool false) (AV.leaf .nil))), h)) (bindR (c48 F g x2 h) fun x6 h => aLenK 1 x6 h fun x7 h => some (AV.one .tup (AV.cons x7 (AV.cons (AV.bool true) (AV.leaf .nil))), h))
noncomputable def A18 : An := (.two .o (.two .o (.two (.two .o (.two (.two .o .o) .o)) (.two .o .o))))
noncomputable def b18 : Code := bodyOf Go.Proofs.Try.f18
theorem k18 (F g : Nat) (a0 : AV) (h : H) : callD Go.Proofs.Try.prog (Env.add (Env.add (fun _ _ _ => none : Env) 47 (u1 (c47 F g))) 48 (u1 (c48 F g))) 16 F b18 [2, 3] A18 [a0] h = c18 F g a0 h := by kernel_rfl
theorem s18 (F g : Nat) : ∀ args h r, u1 (c18 F g) args h = some r → Tri Go.Proofs.Try.prog 18 args h r := by
  intro args h r e; obtain ⟨a0, rfl, e1⟩ := u1_some e; exact fn_sound Go.Proofs.Try.func18 rfl rfl rfl Go.Proofs.Try.ntmps18 (Sound.add (Sound.add (Sound.none _) (s47 F g)) (s48 F g)) ((k18 F g a0 h).trans e1)

-- "loop.example/treenumbers/laws.FnExactTreeNodes"
noncomputable def c4_j1 (F g : Nat) (vs : List AV) (h : H) : Option R := (fun x11 x12 => aPick x11 (AV.bool true) x12 h fun x13 h => withBool x13 fun t14 => bc t14 (some ((AV.bool false), h)) (some ((AV.bool true), h))) (hd vs) (hd (tl vs))
noncomputable def c4 (F g : Nat) (a0 : AV) (h : H) : Option R := aLenK 0 a0 h fun x1 h => aCmpI (fun a b => ilt b a) x1 (AV.int 3 (Int.ofNat 1048576)) h fun x2 h => withBool x2 fun t3 => bc t3 (some ((AV.bool true), h)) (bindR (c17 F g a0 h) fun x4 h => aExtract x4 0 h fun x5 h => aExtract x4 1 h fun x6 h => bindR (c18 F g a0 h) fun x7 h => aExtract x7 0 h fun x8 h => aExtract x7 1 h fun x9 h => aCmpI (fun a b => bnot (ieq a b)) x8 x5 h fun x10 h => guardB false x10 (aEq true 0 x9 x6 h fun x15 h => (c4_j1 F g) [x10, x15] h) ((c4_j1 F g) [x10, (AV.one .tup (AV.leaf .nil))] h))
noncomputable def A4 : An := (.two .o (.two (.two .o (.two (.two .o .o) .o)) (.two .o (.two .o (.two (.two (.at_ [23, 26] .o .o) (.two (.two .o .o) .o)) (.two .o .o))))))
noncomputable def b4 : Code := bodyOf Go.Proofs.Try.f4
theorem k4 (F g : Nat) (a0 : AV) (h : H) : callD Go.Proofs.Try.prog (Env.add (Env.add (fun _ _ _ => none : Env) 17 (u1 (c17 F g))) 18 (u1 (c18 F g))) 28 F b4 [2] A4 [a0] h = c4 F g a0 h := by kernel_rfl
theorem s4 (F g : Nat) : ∀ args h r, u1 (c4 F g) args h = some r → Tri Go.Proofs.Try.prog 4 args h r := by
  intro args h r e; obtain ⟨a0, rfl, e1⟩ := u1_some e; exact fn_sound Go.Proofs.Try.func4 rfl rfl rfl Go.Proofs.Try.ntmps4 (Sound.add (Sound.add (Sound.none _) (s17 F g)) (s18 F g)) ((k4 F g a0 h).trans e1)

-- "loop.example/treenumbers/spec.l1Leaves"
noncomputable def c49_j1 (F g : Nat) (kc1 : List AV → H → Option R) (vs : List AV) (h : H) : Option R := (fun x9 x10 x11 => aArith iadd x11 (AV.int 3 (Int.ofNat 1)) h fun x12 h => kc1 [x9, x10, x12] h) (hd vs) (hd (tl vs)) (hd (tl (tl vs)))
noncomputable def c49_j2 (F g : Nat) (kc1 : List AV → H → Option R) (vs : List AV) (h : H) : Option R := (fun x15 x16 x17 x18 x19 => aPick x18 x19 (AV.bool false) h fun x20 h => withBool x20 fun t21 => bc t21 (aArith iadd x16 (AV.int 3 (Int.ofNat 1)) h fun x22 h => (c49_j1 F g kc1) [x15, x22, x17] h) ((c49_j1 F g kc1) [x15, x16, x17] h)) (hd vs) (hd (tl vs)) (hd (tl (tl vs))) (hd (tl (tl (tl vs)))) (hd (tl (tl (tl (tl vs)))))
noncomputable def c49_l3 (F g : Nat) : List AV → H → (List AV → H → Option R) → Option R := fun vs h kc1 => (fun x2 x3 x4 => aArith iadd x4 (AV.int 3 (Int.ofNat 1)) h fun x5 h => aLenK 0 x2 h fun x6 h => aCmpI ilt x5 x6 h fun x7 h => withBool x7 fun t8 => bc t8 (aIdxStr x2 x4 h fun x13 h => aCmpI ieq x13 (AV.int 4 (Int.ofNat 40)) h fun x14 h => guardB true x14 (aArith iadd x4 (AV.int 3 (Int.ofNat 1)) h fun x23 h => aIdxStr x2 x23 h fun x24 h => aCmpI ieq x24 (AV.int 4 (Int.ofNat 41)) h fun x25 h => (c49_j2 F g kc1) [x2, x3, x4, x14, x25] h) ((c49_j2 F g kc1) [x2, x3, x4, x14, (AV.one .tup (AV.leaf .nil))] h)) (some (x3, h))) (hd vs) (hd (tl vs)) (hd (tl (tl vs)))
noncomputable def c49 (F g : Nat) (a0 : AV) (h : H) : Option R := loopD F (c49_l3 F g) [a0, (AV.int 3 (Int.ofNat 0)), (AV.int 3 (Int.ofNat 0))] h
noncomputable def A49 : An := (.two .o (.two .o (.two (.two .o (.two (.at_ [0, 3, 4] (.two (.two .o (.two .o .o)) (.at_ [0, 3, 4] (.two (.two (.at_ [0, 3, 4, 16, 21] .o .o) (.two .o .o)) .o) .o)) .o) .o)) (.two .o .o))))
noncomputable def b49 : Code := bodyOf Go.Proofs.Try.f49
theorem k49 (F g : Nat) (a0 : AV) (h : H) : callD Go.Proofs.Try.prog (fun _ _ _ => none : Env) 26 F b49 [2] A49 [a0] h = c49 F g a0 h := by kernel_rfl
theorem s49 (F g : Nat) : ∀ args h r, u1 (c49 F g) args h = some r → Tri Go.Proofs.Try.prog 49 args h r := by
  intro args h r e; obtain ⟨a0, rfl, e1⟩ := u1_some e; exact fn_sound Go.Proofs.Try.func49 rfl rfl rfl Go.Proofs.Try.ntmps49 (Sound.none _) ((k49 F g a0 h).trans e1)

-- "loop.example/treenumbers/spec.TreeLeaves"
noncomputable def c19 (F g : Nat) (a0 : AV) (h : H) : Option R := bindR (c15 F g a0 h) fun x1 h => aNot x1 h fun x2 h => withBool x2 fun t3 => bc t3 (some (AV.one .tup (AV.cons (AV.int 3 (Int.ofNat 0)) (AV.cons (AV.bool false) (AV.leaf .nil))), h)) (bindR (c49 F g a0 h) fun x4 h => some (AV.one .tup (AV.cons x4 (AV.cons (AV.bool true) (AV.leaf .nil))), h))
noncomputable def A19 : An := (.two .o (.two (.two .o (.two (.two .o .o) .o)) (.two .o .o)))
noncomputable def b19 : Code := bodyOf Go.Proofs.Try.f19
theorem k19 (F g : Nat) (a0 : AV) (h : H) : callD Go.Proofs.Try.prog (Env.add (Env.add (fun _ _ _ => none : Env) 15 (u1 (c15 F g))) 49 (u1 (c49 F g))) 9 F b19 [2, 3] A19 [a0] h = c19 F g a0 h := by kernel_rfl
theorem s19 (F g : Nat) : ∀ args h r, u1 (c19 F g) args h = some r → Tri Go.Proofs.Try.prog 19 args h r := by
  intro args h r e; obtain ⟨a0, rfl, e1⟩ := u1_some e; exact fn_sound Go.Proofs.Try.func19 rfl rfl rfl Go.Proofs.Try.ntmps19 (Sound.add (Sound.add (Sound.none _) (s15 F g)) (s49 F g)) ((k19 F g a0 h).trans e1)

-- "loop.example/treenumbers/impl.TreeLeaves"
noncomputable def c20_j1 (F g : Nat) (kc8 : List AV → H → Option R) (vs : List AV) (h : H) : Option R := (fun x15 x16 x17 x18 => aArith iadd x18 (AV.int 3 (Int.ofNat 1)) h fun x19 h => kc8 [x15, x16, x17, x19] h) (hd vs) (hd (tl vs)) (hd (tl (tl vs))) (hd (tl (tl (tl vs))))
noncomputable def c20_l2 (F g : Nat) : List AV → H → (List AV → H → Option R) → Option R := fun vs h kc8 => (fun x9 x10 x11 x12 => aCmpI ilt x12 x11 h fun x13 h => withBool x13 fun t14 => bc t14 (aIdxAddr 1 x10 x12 h fun x20 h => aLoad x20 h fun x21 h => aNilCheck x21 h fun x22 h => aField 2 x22 h fun x23 h => aLoad x23 h fun x24 h => aLenK 1 x24 h fun x25 h => aCmpI ieq x25 (AV.int 3 (Int.ofNat 0)) h fun x26 h => withBool x26 fun t27 => bc t27 (aArith iadd x9 (AV.int 3 (Int.ofNat 1)) h fun x28 h => (c20_j1 F g kc8) [x28, x10, x11, x12] h) ((c20_j1 F g kc8) [x9, x10, x11, x12] h)) (some (AV.one .tup (AV.cons x9 (AV.cons (AV.bool true) (AV.leaf .nil))), h))) (hd vs) (hd (tl vs)) (hd (tl (tl vs))) (hd (tl (tl (tl vs))))
noncomputable def c20 (F g : Nat) (a0 : AV) (h : H) : Option R := bindR (c47 F g a0 h) fun x1 h => aExtract x1 0 h fun x2 h => aExtract x1 1 h fun x3 h => aNot x3 h fun x4 h => withBool x4 fun t5 => bc t5 (some (AV.one .tup (AV.cons (AV.int 3 (Int.ofNat 0)) (AV.cons (AV.bool false) (AV.leaf .nil))), h)) (bindR (c48 F g x2 h) fun x6 h => aLenK 1 x6 h fun x7 h => loopD F (c20_l2 F g) [(AV.int 3 (Int.ofNat 0)), x6, x7, (AV.int 3 (Int.ofNat 0))] h)
noncomputable def A20 : An := (.two .o (.two .o (.two (.two .o (.two (.two .o .o) .o)) (.two .o (.two (.two .o (.two (.at_ [6, 17, 18, 19] (.two .o (.two (.two .o .o) (.at_ [6, 17, 18, 19] (.two (.two .o (.two .o (.two .o .o))) .o) .o))) .o) .o)) (.two .o .o))))))
noncomputable def b20 : Code := bodyOf Go.Proofs.Try.f20
theorem k20 (F g : Nat) (a0 : AV) (h : H) : callD Go.Proofs.Try.prog (Env.add (Env.add (fun _ _ _ => none : Env) 47 (u1 (c47 F g))) 48 (u1 (c48 F g))) 33 F b20 [2, 3] A20 [a0] h = c20 F g a0 h := by kernel_rfl
theorem s20 (F g : Nat) : ∀ args h r, u1 (c20 F g) args h = some r → Tri Go.Proofs.Try.prog 20 args h r := by
  intro args h r e; obtain ⟨a0, rfl, e1⟩ := u1_some e; exact fn_sound Go.Proofs.Try.func20 rfl rfl rfl Go.Proofs.Try.ntmps20 (Sound.add (Sound.add (Sound.none _) (s47 F g)) (s48 F g)) ((k20 F g a0 h).trans e1)

-- "loop.example/treenumbers/laws.FnExactTreeLeaves"
noncomputable def c5_j1 (F g : Nat) (vs : List AV) (h : H) : Option R := (fun x11 x12 => aPick x11 (AV.bool true) x12 h fun x13 h => withBool x13 fun t14 => bc t14 (some ((AV.bool false), h)) (some ((AV.bool true), h))) (hd vs) (hd (tl vs))
noncomputable def c5 (F g : Nat) (a0 : AV) (h : H) : Option R := aLenK 0 a0 h fun x1 h => aCmpI (fun a b => ilt b a) x1 (AV.int 3 (Int.ofNat 1048576)) h fun x2 h => withBool x2 fun t3 => bc t3 (some ((AV.bool true), h)) (bindR (c19 F g a0 h) fun x4 h => aExtract x4 0 h fun x5 h => aExtract x4 1 h fun x6 h => bindR (c20 F g a0 h) fun x7 h => aExtract x7 0 h fun x8 h => aExtract x7 1 h fun x9 h => aCmpI (fun a b => bnot (ieq a b)) x8 x5 h fun x10 h => guardB false x10 (aEq true 0 x9 x6 h fun x15 h => (c5_j1 F g) [x10, x15] h) ((c5_j1 F g) [x10, (AV.one .tup (AV.leaf .nil))] h))
noncomputable def A5 : An := (.two .o (.two (.two .o (.two (.two .o .o) .o)) (.two .o (.two .o (.two (.two (.at_ [23, 26] .o .o) (.two (.two .o .o) .o)) (.two .o .o))))))
noncomputable def b5 : Code := bodyOf Go.Proofs.Try.f5
theorem k5 (F g : Nat) (a0 : AV) (h : H) : callD Go.Proofs.Try.prog (Env.add (Env.add (fun _ _ _ => none : Env) 19 (u1 (c19 F g))) 20 (u1 (c20 F g))) 28 F b5 [2] A5 [a0] h = c5 F g a0 h := by kernel_rfl
theorem s5 (F g : Nat) : ∀ args h r, u1 (c5 F g) args h = some r → Tri Go.Proofs.Try.prog 5 args h r := by
  intro args h r e; obtain ⟨a0, rfl, e1⟩ := u1_some e; exact fn_sound Go.Proofs.Try.func5 rfl rfl rfl Go.Proofs.Try.ntmps5 (Sound.add (Sound.add (Sound.none _) (s19 F g)) (s20 F g)) ((k5 F g a0 h).trans e1)

-- "loop.example/treenumbers/spec.l1Depths"
noncomputable def c51_j1 (F g : Nat) (kc2 : List AV → H → Option R) (vs : List AV) (h : H) : Option R := (fun x10 x11 x12 x13 => aArith iadd x13 (AV.int 3 (Int.ofNat 1)) h fun x14 h => kc2 [x10, x11, x12, x14] h) (hd vs) (hd (tl vs)) (hd (tl (tl vs))) (hd (tl (tl (tl vs))))
noncomputable def c51_l2 (F g : Nat) : List AV → H → (List AV → H → Option R) → Option R := fun vs h kc2 => (fun x3 x4 x5 x6 => aLenK 0 x3 h fun x7 h => aCmpI ilt x6 x7 h fun x8 h => withBool x8 fun t9 => bc t9 (aIdxStr x3 x6 h fun x15 h => aCmpI ieq x15 (AV.int 4 (Int.ofNat 40)) h fun x16 h => withBool x16 fun t17 => bc t17 (aBuildSlice 1 1 [(0, 1, x5)] h fun x18 h => aAppend 1 8 x4 x18 h fun x19 h => aArith iadd x5 (AV.int 3 (Int.ofNat 1)) h fun x20 h => (c51_j1 F g kc2) [x3, x19, x20, x6] h) (aArith isub x5 (AV.int 3 (Int.ofNat 1)) h fun x21 h => (c51_j1 F g kc2) [x3, x4, x21, x6] h)) (some (x4, h))) (hd vs) (hd (tl vs)) (hd (tl (tl vs))) (hd (tl (tl (tl vs))))
noncomputable def c51 (F g : Nat) (a0 : AV) (h : H) : Option R := aBuildSlice 0 1 [] h fun x1 h => loopD F (c51_l2 F g) [a0, x1, (AV.int 3 (Int.ofNat 0)), (AV.int 3 (Int.ofNat 0))] h
noncomputable def A51 : An := (.two .o (.two .o (.two .o (.two (.two .o (.two (.at_ [0, 3, 4, 5] (.two (.two .o (.two .o .o)) (.at_ [0, 3, 4, 5] (.two (.two .o (.two (.two .o .o) .o)) .o) .o)) .o) .o)) (.two .o .o)))))
noncomputable def b51 : Code := bodyOf Go.Proofs.Try.f51
theorem k51 (F g : Nat) (a0 : AV) (h : H) : callD Go.Proofs.Try.prog (fun _ _ _ => none : Env) 26 F b51 [2] A51 [a0] h = c51 F g a0 h := by kernel_rfl
theorem s51 (F g : Nat) : ∀ args h r, u1 (c51 F g) args h = some r → Tri Go.Proofs.Try.prog 51 args h r := by
  intro args h r e; obtain ⟨a0, rfl, e1⟩ := u1_some e; exact fn_sound Go.Proofs.Try.func51 rfl rfl rfl Go.Proofs.Try.ntmps51 (Sound.none _) ((k51 F g a0 h).trans e1)

-- "loop.example/treenumbers/spec.l1Most"
noncomputable def c50_l1 (F g : Nat) : List AV → H → (List AV → H → Option R) → Option R := fun vs h kc1 => (fun x2 x3 x4 => aLenK 1 x2 h fun x5 h => aCmpI ilt x4 x5 h fun x6 h => withBool x6 fun t7 => bc t7 (aIdxAddr 1 x2 x4 h fun x8 h => aLoad x8 h fun x9 h => aMM true x3 x9 h fun x10 h => aArith iadd x4 (AV.int 3 (Int.ofNat 1)) h fun x11 h => kc1 [x2, x10, x11] h) (some (x3, h))) (hd vs) (hd (tl vs)) (hd (tl (tl vs)))
noncomputable def c50 (F g : Nat) (a0 : AV) (h : H) : Option R := loopD F (c50_l1 F g) [a0, (AV.int 3 (Int.ofNat 0)), (AV.int 3 (Int.ofNat 0))] h
noncomputable def A50 : An := (.two .o (.two .o (.two (.two .o (.two (.at_ [0, 3, 4] (.two (.two .o (.two .o .o)) (.two (.two .o .o) .o)) .o) .o)) (.two .o .o))))
noncomputable def b50 : Code := bodyOf Go.Proofs.Try.f50
theorem k50 (F g : Nat) (a0 : AV) (h : H) : callD Go.Proofs.Try.prog (fun _ _ _ => none : Env) 18 F b50 [2] A50 [a0] h = c50 F g a0 h := by kernel_rfl
theorem s50 (F g : Nat) : ∀ args h r, u1 (c50 F g) args h = some r → Tri Go.Proofs.Try.prog 50 args h r := by
  intro args h r e; obtain ⟨a0, rfl, e1⟩ := u1_some e; exact fn_sound Go.Proofs.Try.func50 rfl rfl rfl Go.Proofs.Try.ntmps50 (Sound.none _) ((k50 F g a0 h).trans e1)

-- "loop.example/treenumbers/spec.TreeHeight"
noncomputable def c21 (F g : Nat) (a0 : AV) (h : H) : Option R := bindR (c15 F g a0 h) fun x1 h => aNot x1 h fun x2 h => withBool x2 fun t3 => bc t3 (some (AV.one .tup (AV.cons (AV.int 3 (Int.ofNat 0)) (AV.cons (AV.bool false) (AV.leaf .nil))), h)) (bindR (c51 F g a0 h) fun x4 h => bindR (c50 F g x4 h) fun x5 h => some (AV.one .tup (AV.cons x5 (AV.cons (AV.bool true) (AV.leaf .nil))), h))
noncomputable def A21 : An := (.two .o (.two (.two .o (.two (.two .o .o) .o)) (.two .o .o)))
noncomputable def b21 : Code := bodyOf Go.Proofs.Try.f21
theorem k21 (F g : Nat) (a0 : AV) (h : H) : callD Go.Proofs.Try.prog (Env.add (Env.add (Env.add (fun _ _ _ => none : Env) 15 (u1 (c15 F g))) 51 (u1 (c51 F g))) 50 (u1 (c50 F g))) 10 F b21 [2, 3] A21 [a0] h = c21 F g a0 h := by kernel_rfl
theorem s21 (F g : Nat) : ∀ args h r, u1 (c21 F g) args h = some r → Tri Go.Proofs.Try.prog 21 args h r := by
  intro args h r e; obtain ⟨a0, rfl, e1⟩ := u1_some e; exact fn_sound Go.Proofs.Try.func21 rfl rfl rfl Go.Proofs.Try.ntmps21 (Sound.add (Sound.add (Sound.add (Sound.none _) (s15 F g)) (s51 F g)) (s50 F g)) ((k21 F g a0 h).trans e1)

-- "(*loop.example/treenumbers/impl.node).height"
noncomputable def c52_l1 (F g : Nat) (self : AV → H → Option R) : List AV → H → (List AV → H → Option R) → Option R := fun vs h kc5 => (fun x6 x7 x8 x9 => aCmpI ilt x9 x8 h fun x10 h => withBool x10 fun t11 => bc t11 (aIdxAddr 1 x7 x9 h fun x12 h => aLoad x12 h fun x13 h => bindR (self x13 h) fun x14 h => aArith iadd x14 (AV.int 3 (Int.ofNat 1)) h fun x15 h => aMM true x6 x15 h fun x16 h => aArith iadd x9 (AV.int 3 (Int.ofNat 1)) h fun x17 h => kc5 [x16, x7, x8, x17] h) (some (x6, h))) (hd vs) (hd (tl vs)) (hd (tl (tl vs))) (hd (tl (tl (tl vs))))
noncomputable def c52 (F g : Nat) : AV → H → Option R := Nat.rec (motive := fun _ => AV → H → Option R) (fun _ _ => none) (fun g self a0 h => aNilCheck a0 h fun x1 h => aField 2 x1 h fun x2 h => aLoad x2 h fun x3 h => aLenK 1 x3 h fun x4 h => loopD F (c52_l1 F g self) [(AV.int 3 (Int.ofNat 0)), x3, x4, (AV.int 3 (Int.ofNat 0))] h) g
noncomputable def A52 : An := (.two .o (.two .o (.two (.two .o (.two (.at_ [3, 9, 10, 11] (.two .o (.two (.two .o .o) (.two (.two (.two .o .o) .o) .o))) .o) .o)) (.two .o .o))))
noncomputable def b52 : Code := bodyOf Go.Proofs.Try.f52
theorem k52 (F g : Nat) (a0 : AV) (h : H) : callD Go.Proofs.Try.prog (Env.add (fun _ _ _ => none : Env) 52 (u1 (c52 F g))) 22 F b52 [2] A52 [a0] h = c52 F (g + 1) a0 h := by kernel_rfl
theorem s52 (F g : Nat) : ∀ args h r, u1 (c52 F g) args h = some r → Tri Go.Proofs.Try.prog 52 args h r := by
  induction g with
  | zero => intro args h r e; obtain ⟨a0, rfl, e⟩ := u1_some e; cases e
  | succ g ih => intro args h r e; obtain ⟨a0, rfl, e1⟩ := u1_some e; exact fn_sound Go.Proofs.Try.func52 rfl rfl rfl Go.Proofs.Try.ntmps52 (Sound.add (Sound.none _) ih) ((k52 F g a0 h).trans e1)

-- "loop.example/treenumbers/impl.TreeHeight"
noncomputable def c22 (F g : Nat) (a0 : AV) (h : H) : Option R := bindR (c47 F g a0 h) fun x1 h => aExtract x1 0 h fun x2 h => aExtract x1 1 h fun x3 h => aNot x3 h fun x4 h => withBool x4 fun t5 => bc t5 (some (AV.one .tup (AV.cons (AV.int 3 (Int.ofNat 0)) (AV.cons (AV.bool false) (AV.leaf .nil))), h)) (bindR (c52 F g x2 h) fun x6 h => some (AV.one .tup (AV.cons x6 (AV.cons (AV.bool true) (AV.leaf .nil))), h))
noncomputable def A22 : An := (.two .o (.two .o (.two (.two .o (.two (.two .o .o) .o)) (.two .o .o))))
noncomputable def b22 : Code := bodyOf Go.Proofs.Try.f22
theorem k22 (F g : Nat) (a0 : AV) (h : H) : callD Go.Proofs.Try.prog (Env.add (Env.add (fun _ _ _ => none : Env) 47 (u1 (c47 F g))) 52 (u1 (c52 F g))) 15 F b22 [2, 3] A22 [a0] h = c22 F g a0 h := by kernel_rfl
theorem s22 (F g : Nat) : ∀ args h r, u1 (c22 F g) args h = some r → Tri Go.Proofs.Try.prog 22 args h r := by
  intro args h r e; obtain ⟨a0, rfl, e1⟩ := u1_some e; exact fn_sound Go.Proofs.Try.func22 rfl rfl rfl Go.Proofs.Try.ntmps22 (Sound.add (Sound.add (Sound.none _) (s47 F g)) (s52 F g)) ((k22 F g a0 h).trans e1)

-- "loop.example/treenumbers/laws.FnExactTreeHeight"
noncomputable def c6_j1 (F g : Nat) (vs : List AV) (h : H) : Option R := (fun x11 x12 => aPick x11 (AV.bool true) x12 h fun x13 h => withBool x13 fun t14 => bc t14 (some ((AV.bool false), h)) (some ((AV.bool true), h))) (hd vs) (hd (tl vs))
noncomputable def c6 (F g : Nat) (a0 : AV) (h : H) : Option R := aLenK 0 a0 h fun x1 h => aCmpI (fun a b => ilt b a) x1 (AV.int 3 (Int.ofNat 1048576)) h fun x2 h => withBool x2 fun t3 => bc t3 (some ((AV.bool true), h)) (bindR (c21 F g a0 h) fun x4 h => aExtract x4 0 h fun x5 h => aExtract x4 1 h fun x6 h => bindR (c22 F g a0 h) fun x7 h => aExtract x7 0 h fun x8 h => aExtract x7 1 h fun x9 h => aCmpI (fun a b => bnot (ieq a b)) x8 x5 h fun x10 h => guardB false x10 (aEq true 0 x9 x6 h fun x15 h => (c6_j1 F g) [x10, x15] h) ((c6_j1 F g) [x10, (AV.one .tup (AV.leaf .nil))] h))
noncomputable def A6 : An := (.two .o (.two (.two .o (.two (.two .o .o) .o)) (.two .o (.two .o (.two (.two (.at_ [23, 26] .o .o) (.two (.two .o .o) .o)) (.two .o .o))))))
noncomputable def b6 : Code := bodyOf Go.Proofs.Try.f6
theorem k6 (F g : Nat) (a0 : AV) (h : H) : callD Go.Proofs.Try.prog (Env.add (Env.add (fun _ _ _ => none : Env) 21 (u1 (c21 F g))) 22 (u1 (c22 F g))) 28 F b6 [2] A6 [a0] h = c6 F g a0 h := by kernel_rfl
theorem s6 (F g : Nat) : ∀ args h r, u1 (c6 F g) args h = some r → Tri Go.Proofs.Try.prog 6 args h r := by
  intro args h r e; obtain ⟨a0, rfl, e1⟩ := u1_some e; exact fn_sound Go.Proofs.Try.func6 rfl rfl rfl Go.Proofs.Try.ntmps6 (Sound.add (Sound.add (Sound.none _) (s21 F g)) (s22 F g)) ((k6 F g a0 h).trans e1)

-- "loop.example/treenumbers/spec.l1Kids"
noncomputable def c53_l1 (F g : Nat) : List AV → H → (List AV → H → Option R) → Option R := fun vs h kc2 => (fun x3 x4 x5 => aLenK 0 x3 h fun x6 h => aArith isub x6 (AV.int 3 (Int.ofNat 1)) h fun x7 h => aCmpI ilt x5 x7 h fun x8 h => withBool x8 fun t9 => bc t9 (bindR (c46 F g x3 x5 h) fun x10 h => aSliceS x3 (some x5) (some x10) none h fun x11 h => aBuildSlice 1 1 [(0, 1, x11)] h fun x12 h => aAppend 1 16 x4 x12 h fun x13 h => kc2 [x3, x13, x10] h) (some (x4, h))) (hd vs) (hd (tl vs)) (hd (tl (tl vs)))
noncomputable def c53 (F g : Nat) (a0 : AV) (h : H) : Option R := aBuildSlice 0 1 [] h fun x1 h => loopD F (c53_l1 F g) [a0, x1, (AV.int 3 (Int.ofNat 1))] h
noncomputable def A53 : An := (.two .o (.two .o (.two .o (.two (.two (.at_ [0, 3, 4] (.two (.two .o (.two .o .o)) (.two (.two .o (.two .o .o)) .o)) .o) .o) (.two .o .o)))))
noncomputable def b53 : Code := bodyOf Go.Proofs.Try.f53
theorem k53 (F g : Nat) (a0 : AV) (h : H) : callD Go.Proofs.Try.prog (Env.add (fun _ _ _ => none : Env) 46 (u2 (c46 F g))) 24 F b53 [2] A53 [a0] h = c53 F g a0 h := by kernel_rfl
theorem s53 (F g : Nat) : ∀ args h r, u1 (c53 F g) args h = some r → Tri Go.Proofs.Try.prog 53 args h r := by
  intro args h r e; obtain ⟨a0, rfl, e1⟩ := u1_some e; exact fn_sound Go.Proofs.Try.func53 rfl rfl rfl Go.Proofs.Try.ntmps53 (Sound.add (Sound.none _) (s46 F g)) ((k53 F g a0 h).trans e1)

-- "loop.example/treenumbers/spec.TreeChildren"
noncomputable def c23 (F g : Nat) (a0 : AV) (h : H) : Option R := bindR (c15 F g a0 h) fun x1 h => aNot x1 h fun x2 h => withBool x2 fun t3 => bc t3 (aBuildSlice 0 1 [] h fun x4 h => some (AV.one .tup (AV.cons x4 (AV.cons (AV.bool false) (AV.leaf .nil))), h)) (bindR (c53 F g a0 h) fun x5 h => some (AV.one .tup (AV.cons x5 (AV.cons (AV.bool true) (AV.leaf .nil))), h))
noncomputable def A23 : An := (.two .o (.two (.two .o (.two (.two .o .o) .o)) (.two .o .o)))
noncomputable def b23 : Code := bodyOf Go.Proofs.Try.f23
theorem k23 (F g : Nat) (a0 : AV) (h : H) : callD Go.Proofs.Try.prog (Env.add (Env.add (fun _ _ _ => none : Env) 15 (u1 (c15 F g))) 53 (u1 (c53 F g))) 10 F b23 [2, 3] A23 [a0] h = c23 F g a0 h := by kernel_rfl
theorem s23 (F g : Nat) : ∀ args h r, u1 (c23 F g) args h = some r → Tri Go.Proofs.Try.prog 23 args h r := by
  intro args h r e; obtain ⟨a0, rfl, e1⟩ := u1_some e; exact fn_sound Go.Proofs.Try.func23 rfl rfl rfl Go.Proofs.Try.ntmps23 (Sound.add (Sound.add (Sound.none _) (s15 F g)) (s53 F g)) ((k23 F g a0 h).trans e1)

-- "(*loop.example/treenumbers/impl.node).text"
noncomputable def c54_l1 (F g : Nat) (self : AV → H → Option R) : List AV → H → (List AV → H → Option R) → Option R := fun vs h kc5 => (fun x6 x7 x8 x9 => aCmpI ilt x9 x8 h fun x10 h => withBool x10 fun t11 => bc t11 (aIdxAddr 1 x7 x9 h fun x12 h => aLoad x12 h fun x13 h => bindR (self x13 h) fun x14 h => aSAdd x6 x14 h fun x15 h => aArith iadd x9 (AV.int 3 (Int.ofNat 1)) h fun x16 h => kc5 [x15, x7, x8, x16] h) (aSAdd x6 (AV.str [41] 1) h fun x17 h => some (x17, h))) (hd vs) (hd (tl vs)) (hd (tl (tl vs))) (hd (tl (tl (tl vs))))
noncomputable def c54 (F g : Nat) : AV → H → Option R := Nat.rec (motive := fun _ => AV → H → Option R) (fun _ _ => none) (fun g self a0 h => aNilCheck a0 h fun x1 h => aField 2 x1 h fun x2 h => aLoad x2 h fun x3 h => aLenK 1 x3 h fun x4 h => loopD F (c54_l1 F g self) [(AV.str [40] 1), x3, x4, (AV.int 3 (Int.ofNat 0))] h) g
noncomputable def A54 : An := (.two .o (.two .o (.two (.two .o (.two (.at_ [3, 9, 10, 11] (.two .o (.two (.two .o .o) (.two (.two (.two .o .o) .o) .o))) .o) .o)) (.two .o .o))))
noncomputable def b54 : Code := bodyOf Go.Proofs.Try.f54
theorem k54 (F g : Nat) (a0 : AV) (h : H) : callD Go.Proofs.Try.prog (Env.add (fun _ _ _ => none : Env) 54 (u1 (c54 F g))) 22 F b54 [2] A54 [a0] h = c54 F (g + 1) a0 h := by kernel_rfl
theorem s54 (F g : Nat) : ∀ args h r, u1 (c54 F g) args h = some r → Tri Go.Proofs.Try.prog 54 args h r := by
  induction g with
  | zero => intro args h r e; obtain ⟨a0, rfl, e⟩ := u1_some e; cases e
  | succ g ih => intro args h r e; obtain ⟨a0, rfl, e1⟩ := u1_some e; exact fn_sound Go.Proofs.Try.func54 rfl rfl rfl Go.Proofs.Try.ntmps54 (Sound.add (Sound.none _) ih) ((k54 F g a0 h).trans e1)

-- "loop.example/treenumbers/impl.TreeChildren"
noncomputable def c24_l1 (F g : Nat) : List AV → H → (List AV → H → Option R) → Option R := fun vs h kc11 => (fun x12 x13 x14 x15 => aCmpI ilt x15 x14 h fun x16 h => withBool x16 fun t17 => bc t17 (aIdxAddr 1 x13 x15 h fun x18 h => aLoad x18 h fun x19 h => bindR (c54 F g x19 h) fun x20 h => aBuildSlice 1 1 [(0, 1, x20)] h fun x21 h => aAppend 1 16 x12 x21 h fun x22 h => aArith iadd x15 (AV.int 3 (Int.ofNat 1)) h fun x23 h => kc11 [x22, x13, x14, x23] h) (some (AV.one .tup (AV.cons x12 (AV.cons (AV.bool true) (AV.leaf .nil))), h))) (hd vs) (hd (tl vs)) (hd (tl (tl vs))) (hd (tl (tl (tl vs))))
noncomputable def c24 (F g : Nat) (a0 : AV) (h : H) : Option R := bindR (c47 F g a0 h) fun x1 h => aExtract x1 0 h fun x2 h => aExtract x1 1 h fun x3 h => aNot x3 h fun x4 h => withBool x4 fun t5 => bc t5 (some (AV.one .tup (AV.cons (AV.leaf .nils) (AV.cons (AV.bool false) (AV.leaf .nil))), h)) (aBuildSlice 0 1 [] h fun x6 h => aNilCheck x2 h fun x7 h => aField 2 x7 h fun x8 h => aLoad x8 h fun x9 h => aLenK 1 x9 h fun x10 h => loopD F (c24_l1 F g) [x6, x9, x10, (AV.int 3 (Int.ofNat 0))] h)
noncomputable def A24 : An := (.two .o (.two .o (.two (.two .o (.two (.two .o .o) .o)) (.two .o (.two (.two .o (.two (.at_ [6, 20, 21, 22] (.two .o (.two (.two .o .o) (.two (.two (.two .o .o) .o) .o))) .o) .o)) (.two .o .o))))))
noncomputable def b24 : Code := bodyOf Go.Proofs.Try.f24
theorem k24 (F g : Nat) (a0 : AV) (h : H) : callD Go.Proofs.Try.prog (Env.add (Env.add (fun _ _ _ => none : Env) 47 (u1 (c47 F g))) 54 (u1 (c54 F g))) 33 F b24 [2, 3] A24 [a0] h = c24 F g a0 h := by kernel_rfl
theorem s24 (F g : Nat) : ∀ args h r, u1 (c24 F g) args h = some r → Tri Go.Proofs.Try.prog 24 args h r := by
  intro args h r e; obtain ⟨a0, rfl, e1⟩ := u1_some e; exact fn_sound Go.Proofs.Try.func24 rfl rfl rfl Go.Proofs.Try.ntmps24 (Sound.add (Sound.add (Sound.none _) (s47 F g)) (s54 F g)) ((k24 F g a0 h).trans e1)

-- "loop.example/treenumbers/laws.eqStringS"
noncomputable def c25_l1 (F g : Nat) : List AV → H → (List AV → H → Option R) → Option R := fun vs h kc5 => (fun x6 x7 x8 => aLenK 1 x6 h fun x9 h => aCmpI ilt x8 x9 h fun x10 h => withBool x10 fun t11 => bc t11 (aIdxAddr 1 x6 x8 h fun x12 _ => aLoad x12 h fun x13 _ => aIdxAddr 1 x7 x8 h fun x14 _ => aLoad x14 h fun x15 _ => aCmpS (fun a b => bnot (eqL a b)) x13 x15 h fun x16 _ => withBool x16 fun t17 => bc t17 (some ((AV.bool false), h)) (aArith iadd x8 (AV.int 3 (Int.ofNat 1)) h fun x18 h => kc5 [x6, x7, x18] h)) (some ((AV.bool true), h))) (hd vs) (hd (tl vs)) (hd (tl (tl vs)))
noncomputable def c25 (F g : Nat) (a0 a1 : AV) (h : H) : Option R := aLenK 1 a0 h fun x1 h => aLenK 1 a1 h fun x2 h => aCmpI (fun a b => bnot (ieq a b)) x1 x2 h fun x3 h => withBool x3 fun t4 => bc t4 (some ((AV.bool false), h)) (loopD F (c25_l1 F g) [a0, a1, (AV.int 3 (Int.ofNat 0))] h)
noncomputable def A25 : An := (.two .o (.two (.two .o (.two (.two .o .o) .o)) (.two (.two .o (.two (.at_ [0, 1, 5] (.two (.two .o (.two .o .o)) (.two (.two (.two .o (.two (.two .o .o) .o)) .o) .o)) .o) .o)) (.two .o .o))))
noncomputable def b25 : Code := bodyOf Go.Proofs.Try.f25
theorem k25 (F g : Nat) (a0 a1 : AV) (h : H) : callD Go.Proofs.Try.prog (fun _ _ _ => none : Env) 26 F b25 [4] A25 [a0, a1] h = c25 F g a0 a1 h := by kernel_rfl
theorem s25 (F g : Nat) : ∀ args h r, u2 (c25 F g) args h = some r → Tri Go.Proofs.Try.prog 25 args h r := by
  intro args h r e; obtain ⟨a0, a1, rfl, e1⟩ := u2_some e; exact fn_sound Go.Proofs.Try.func25 rfl rfl rfl Go.Proofs.Try.ntmps25 (Sound.none _) ((k25 F g a0 a1 h).trans e1)

-- "loop.example/treenumbers/laws.markText"
noncomputable def c55_l1 (F g : Nat) : List AV → H → (List AV → H → Option R) → Option R := fun vs h kc3 => (fun x4 x5 => aCmpI (fun a b => ilt b a) x4 (AV.int 3 (Int.ofNat 0)) h fun x6 h => withBool x6 fun t7 => bc t7 (aRem x4 (AV.int 3 (Int.ofNat 10)) h fun x8 h => aArith iadd (AV.int 3 (Int.ofNat 48)) x8 h fun x9 h => aConvI 4 x9 h fun x10 h => aBuildSlice 1 1 [(0, 1, x10)] h fun x11 h => aB2S x11 h fun x12 h => aSAdd x12 x5 h fun x13 h => aQuo x4 (AV.int 3 (Int.ofNat 10)) h fun x14 h => kc3 [x14, x13] h) (aSAdd (AV.str [109] 1) x5 h fun x15 h => some (x15, h))) (hd vs) (hd (tl vs))
noncomputable def c55 (F g : Nat) (a0 : AV) (h : H) : Option R := aCmpI ile a0 (AV.int 3 (Int.ofNat 0)) h fun x1 h => withBool x1 fun t2 => bc t2 (some ((AV.str [109, 48] 2), h)) (loopD F (c55_l1 F g) [a0, (AV.str [] 0)] h)
noncomputable def A55 : An := (.two .o (.two (.two .o (.two (.two .o .o) .o)) (.two .o (.two (.two (.at_ [0, 3] (.two (.two .o (.two .o .o)) (.two (.two .o .o) .o)) .o) .o) (.two .o .o)))))
noncomputable def b55 : Code := bodyOf Go.Proofs.Try.f55
theorem k55 (F g : Nat) (a0 : AV) (h : H) : callD Go.Proofs.Try.prog (fun _ _ _ => none : Env) 20 F b55 [2] A55 [a0] h = c55 F g a0 h := by kernel_rfl
theorem s55 (F g : Nat) : ∀ args h r, u1 (c55 F g) args h = some r → Tri Go.Proofs.Try.prog 55 args h r := by
  intro args h r e; obtain ⟨a0, rfl, e1⟩ := u1_some e; exact fn_sound Go.Proofs.Try.func55 rfl rfl rfl Go.Proofs.Try.ntmps55 (Sound.none _) ((k55 F g a0 h).trans e1)

-- "loop.example/treenumbers/laws.markStringS"
noncomputable def c26_l1 (F g : Nat) : List AV → H → (List AV → H → Option R) → Option R := fun vs h kc1 => (fun x2 x3 x4 => aLenK 1 x2 h fun x5 h => aCmpI ilt x4 x5 h fun x6 h => withBool x6 fun t7 => bc t7 (bindR (c55 F g x3 h) fun x8 h => aIdxAddr 1 x2 x4 h fun x9 h => aStore x9 x8 h fun x10 h => aArith iadd x3 (AV.int 3 (Int.ofNat 1)) h fun x11 h => aArith iadd x4 (AV.int 3 (Int.ofNat 1)) h fun x12 h => kc1 [x2, x11, x12] h) (some (x3, h))) (hd vs) (hd (tl vs)) (hd (tl (tl vs)))
noncomputable def c26 (F g : Nat) (a0 a1 : AV) (h : H) : Option R := loopD F (c26_l1 F g) [a0, a1, (AV.int 3 (Int.ofNat 0))] h
noncomputable def A26 : An := (.two .o (.two (.two .o (.two (.at_ [0, 1, 5] (.two (.two .o (.two .o .o)) (.two (.two (.two .o .o) .o) .o)) .o) .o)) (.two .o .o)))
noncomputable def b26 : Code := bodyOf Go.Proofs.Try.f26
theorem k26 (F g : Nat) (a0 a1 : AV) (h : H) : callD Go.Proofs.Try.prog (Env.add (fun _ _ _ => none : Env) 55 (u1 (c55 F g))) 20 F b26 [4] A26 [a0, a1] h = c26 F g a0 a1 h := by kernel_rfl
theorem s26 (F g : Nat) : ∀ args h r, u2 (c26 F g) args h = some r → Tri Go.Proofs.Try.prog 26 args h r := by
  intro args h r e; obtain ⟨a0, a1, rfl, e1⟩ := u2_some e; exact fn_sound Go.Proofs.Try.func26 rfl rfl rfl Go.Proofs.Try.ntmps26 (Sound.add (Sound.none _) (s55 F g)) ((k26 F g a0 a1 h).trans e1)

-- "loop.example/treenumbers/laws.heldStringS"
noncomputable def c27_l1 (F g : Nat) : List AV → H → (List AV → H → Option R) → Option R := fun vs h kc1 => (fun x2 x3 x4 => aLenK 1 x2 h fun x5 h => aCmpI ilt x4 x5 h fun x6 h => withBool x6 fun t7 => bc t7 (aIdxAddr 1 x2 x4 h fun x8 _ => aLoad x8 h fun x9 _ => bindF (c55 F g x3 h.mark) h fun x10 _ => aCmpS (fun a b => bnot (eqL a b)) x9 x10 h fun x11 _ => withBool x11 fun t12 => bc t12 (some ((AV.int 3 (Int.negSucc 0)), h)) (aArith iadd x3 (AV.int 3 (Int.ofNat 1)) h fun x13 h => aArith iadd x4 (AV.int 3 (Int.ofNat 1)) h fun x14 h => kc1 [x2, x13, x14] h)) (some (x3, h))) (hd vs) (hd (tl vs)) (hd (tl (tl vs)))
noncomputable def c27 (F g : Nat) (a0 a1 : AV) (h : H) : Option R := loopD F (c27_l1 F g) [a0, a1, (AV.int 3 (Int.ofNat 0))] h
noncomputable def A27 : An := (.two .o (.two (.two .o (.two (.at_ [0, 1, 5] (.two (.two .o (.two .o .o)) (.two (.two (.two (.two .o (.two (.two .o .o) .o)) .o) .o) .o)) .o) .o)) (.two .o .o)))
noncomputable def b27 : Code := bodyOf Go.Proofs.Try.f27
theorem k27 (F g : Nat) (a0 a1 : AV) (h : H) : callD Go.Proofs.Try.prog (Env.add (fun _ _ _ => none : Env) 55 (u1 (c55 F g))) 22 F b27 [4] A27 [a0, a1] h = c27 F g a0 a1 h := by kernel_rfl
theorem s27 (F g : Nat) : ∀ args h r, u2 (c27 F g) args h = some r → Tri Go.Proofs.Try.prog 27 args h r := by
  intro args h r e; obtain ⟨a0, a1, rfl, e1⟩ := u2_some e; exact fn_sound Go.Proofs.Try.func27 rfl rfl rfl Go.Proofs.Try.ntmps27 (Sound.add (Sound.none _) (s55 F g)) ((k27 F g a0 a1 h).trans e1)

-- "loop.example/treenumbers/laws.FnExactTreeChildren"
noncomputable def c7_j1 (F g : Nat) (vs : List AV) (h : H) : Option R := (fun x31 x32 x33 x34 => aPick x33 (AV.bool true) x34 h fun x35 h => withBool x35 fun t36 => bc t36 (some ((AV.bool false), h)) (bindR (c27 F g x31 (AV.int 3 (Int.ofNat 1)) h) fun x37 h => aCmpI ilt x37 (AV.int 3 (Int.ofNat 0)) h fun x38 h => withBool x38 fun t39 => bc t39 (some ((AV.bool false), h)) (aCmpI (fun a b => bnot (ieq a b)) x37 x32 h fun x40 h => withBool x40 fun t41 => bc t41 (some ((AV.bool false), h)) (some ((AV.bool true), h))))) (hd vs) (hd (tl vs)) (hd (tl (tl vs))) (hd (tl (tl (tl vs))))
noncomputable def c7_j2 (F g : Nat) (vs : List AV) (h : H) : Option R := (fun x12 x13 x14 x15 x16 x17 => aPick x16 (AV.bool true) x17 h fun x18 h => withBool x18 fun t19 => bc t19 (some ((AV.bool false), h)) (bindR (c26 F g x15 (AV.int 3 (Int.ofNat 1)) h) fun x20 h => bindR (c27 F g x15 (AV.int 3 (Int.ofNat 1)) h) fun x21 h => aCmpI ilt x21 (AV.int 3 (Int.ofNat 0)) h fun x22 h => withBool x22 fun t23 => bc t23 (some ((AV.bool false), h)) (aCmpI (fun a b => bnot (ieq a b)) x21 x20 h fun x24 h => withBool x24 fun t25 => bc t25 (some ((AV.bool false), h)) (bindR (c24 F g x12 h) fun x26 h => aExtract x26 0 h fun x27 h => aExtract x26 1 h fun x28 h => bindR (c25 F g x27 x13 h) fun x29 h => aNot x29 h fun x30 h => guardB false x30 (aEq true 0 x28 x14 h fun x42 h => (c7_j1 F g) [x15, x20, x30, x42] h) ((c7_j1 F g) [x15, x20, x30, (AV.one .tup (AV.leaf .nil))] h))))) (hd vs) (hd (tl vs)) (hd (tl (tl vs))) (hd (tl (tl (tl vs)))) (hd (tl (tl (tl (tl vs))))) (hd (tl (tl (tl (tl (tl vs))))))
noncomputable def c7 (F g : Nat) (a0 : AV) (h : H) : Option R := aLenK 0 a0 h fun x1 h => aCmpI (fun a b => ilt b a) x1 (AV.int 3 (Int.ofNat 1048576)) h fun x2 h => withBool x2 fun t3 => bc t3 (some ((AV.bool true), h)) (bindR (c23 F g a0 h) fun x4 h => aExtract x4 0 h fun x5 h => aExtract x4 1 h fun x6 h => bindR (c24 F g a0 h) fun x7 h => aExtract x7 0 h fun x8 h => aExtract x7 1 h fun x9 h => bindR (c25 F g x8 x5 h) fun x10 h => aNot x10 h fun x11 h => guardB false x11 (aEq true 0 x9 x6 h fun x43 h => (c7_j2 F g) [a0, x5, x6, x8, x11, x43] h) ((c7_j2 F g) [a0, x5, x6, x8, x11, (AV.one .tup (AV.leaf .nil))] h))
noncomputable def A7 : An := (.two .o (.two (.two .o (.two (.two .o .o) .o)) (.two .o (.two .o (.two (.two (.at_ [0, 3, 4, 5, 28, 31] .o .o) (.two (.two .o .o) .o)) (.two .o (.two .o (.two .o (.two .o (.two (.two .o (.two (.two .o .o) .o)) (.two (.two .o (.two (.two .o .o) .o)) (.two .o (.two (.two (.at_ [5, 7, 53, 56] .o .o) (.two (.two .o .o) .o)) (.two .o (.two .o (.two (.two .o (.two (.two .o .o) .o)) (.two (.two .o (.two (.two .o .o) .o)) (.two .o .o))))))))))))))))))
noncomputable def b7 : Code := bodyOf Go.Proofs.Try.f7
theorem k7 (F g : Nat) (a0 : AV) (h : H) : callD Go.Proofs.Try.prog (Env.add (Env.add (Env.add (Env.add (Env.add (fun _ _ _ => none : Env) 23 (u1 (c23 F g))) 24 (u1 (c24 F g))) 25 (u2 (c25 F g))) 26 (u2 (c26 F g))) 27 (u2 (c27 F g))) 66 F b7 [2] A7 [a0] h = c7 F g a0 h := by kernel_rfl
theorem s7 (F g : Nat) : ∀ args h r, u1 (c7 F g) args h = some r → Tri Go.Proofs.Try.prog 7 args h r := by
  intro args h r e; obtain ⟨a0, rfl, e1⟩ := u1_some e; exact fn_sound Go.Proofs.Try.func7 rfl rfl rfl Go.Proofs.Try.ntmps7 (Sound.add (Sound.add (Sound.add (Sound.add (Sound.add (Sound.none _) (s23 F g)) (s24 F g)) (s25 F g)) (s26 F g)) (s27 F g)) ((k7 F g a0 h).trans e1)

-- "loop.example/treenumbers/spec.l6In"
noncomputable def c70_j1 (F g : Nat) (vs : List AV) (h : H) : Option R := (fun x2 x3 => aPick x2 x3 (AV.bool false) h fun x4 h => some (x4, h)) (hd vs) (hd (tl vs))
noncomputable def c70 (F g : Nat) (a0 a1 a2 : AV) (h : H) : Option R := aCmpI (fun a b => ile b a) a0 a1 h fun x1 h => guardB true x1 (aCmpI ile a0 a2 h fun x5 h => (c70_j1 F g) [x1, x5] h) ((c70_j1 F g) [x1, (AV.one .tup (AV.leaf .nil))] h)
noncomputable def A70 : An := (.two .o (.two (.at_ [10, 13] .o .o) .o))
noncomputable def b70 : Code := bodyOf Go.Proofs.Try.f70
theorem k70 (F g : Nat) (a0 a1 a2 : AV) (h : H) : callD Go.Proofs.Try.prog (fun _ _ _ => none : Env) 15 F b70 [6] A70 [a0, a1, a2] h = c70 F g a0 a1 a2 h := by kernel_rfl
theorem s70 (F g : Nat) : ∀ args h r, u3 (c70 F g) args h = some r → Tri Go.Proofs.Try.prog 70 args h r := by
  intro args h r e; obtain ⟨a0, a1, a2, rfl, e1⟩ := u3_some e; exact fn_sound Go.Proofs.Try.func70 rfl rfl rfl Go.Proofs.Try.ntmps70 (Sound.none _) ((k70 F g a0 a1 a2 h).trans e1)

-- "loop.example/treenumbers/spec.l1Node"
noncomputable def c59_j1 (F g : Nat) (vs : List AV) (h : H) : Option R := (fun x2 x3 => aPick x2 x3 (AV.bool false) h fun x4 h => some (x4, h)) (hd vs) (hd (tl vs))
noncomputable def c59 (F g : Nat) (a0 a1 : AV) (h : H) : Option R := bindR (c15 F g a0 h) fun x1 h => guardB true x1 (aLenK 0 a0 h fun x5 h => aQuo x5 (AV.int 3 (Int.ofNat 2)) h fun x6 h => aArith isub x6 (AV.int 3 (Int.ofNat 1)) h fun x7 h => bindR (c70 F g a1 (AV.int 3 (Int.ofNat 0)) x7 h) fun x8 h => (c59_j1 F g) [x1, x8] h) ((c59_j1 F g) [x1, (AV.one .tup (AV.leaf .nil))] h)
noncomputable def A59 : An := (.two .o (.two (.at_ [7, 13] .o .o) .o))
noncomputable def b59 : Code := bodyOf Go.Proofs.Try.f59
theorem k59 (F g : Nat) (a0 a1 : AV) (h : H) : callD Go.Proofs.Try.prog (Env.add (Env.add (fun _ _ _ => none : Env) 15 (u1 (c15 F g))) 70 (u3 (c70 F g))) 15 F b59 [4] A59 [a0, a1] h = c59 F g a0 a1 h := by kernel_rfl
theorem s59 (F g : Nat) : ∀ args h r, u2 (c59 F g) args h = some r → Tri Go.Proofs.Try.prog 59 args h r := by
  intro args h r e; obtain ⟨a0, a1, rfl, e1⟩ := u2_some e; exact fn_sound Go.Proofs.Try.func59 rfl rfl rfl Go.Proofs.Try.ntmps59 (Sound.add (Sound.add (Sound.none _) (s15 F g)) (s70 F g)) ((k59 F g a0 a1 h).trans e1)

-- "loop.example/treenumbers/spec.l1Opens"
noncomputable def c71_j1 (F g : Nat) (kc2 : List AV → H → Option R) (vs : List AV) (h : H) : Option R := (fun x9 x10 x11 => aArith iadd x11 (AV.int 3 (Int.ofNat 1)) h fun x12 h => kc2 [x9, x10, x12] h) (hd vs) (hd (tl vs)) (hd (tl (tl vs)))
noncomputable def c71_l2 (F g : Nat) : List AV → H → (List AV → H → Option R) → Option R := fun vs h kc2 => (fun x3 x4 x5 => aLenK 0 x3 h fun x6 h => aCmpI ilt x5 x6 h fun x7 h => withBool x7 fun t8 => bc t8 (aIdxStr x3 x5 h fun x13 h => aCmpI ieq x13 (AV.int 4 (Int.ofNat 40)) h fun x14 h => withBool x14 fun t15 => bc t15 (aBuildSlice 1 1 [(0, 1, x5)] h fun x16 h => aAppend 1 8 x4 x16 h fun x17 h => (c71_j1 F g kc2) [x3, x17, x5] h) ((c71_j1 F g kc2) [x3, x4, x5] h)) (some (x4, h))) (hd vs) (hd (tl vs)) (hd (tl (tl vs)))
noncomputable def c71 (F g : Nat) (a0 : AV) (h : H) : Option R := aBuildSlice 0 1 [] h fun x1 h => loopD F (c71_l2 F g) [a0, x1, (AV.int 3 (Int.ofNat 0))] h
noncomputable def A71 : An := (.two .o (.two .o (.two (.two .o (.two (.at_ [0, 3, 4] (.two (.two .o (.two .o .o)) (.at_ [0, 3, 4] (.two (.two .o (.two .o .o)) .o) .o)) .o) .o)) (.two .o .o))))
noncomputable def b71 : Code := bodyOf Go.Proofs.Try.f71
theorem k71 (F g : Nat) (a0 : AV) (h : H) : callD Go.Proofs.Try.prog (fun _ _ _ => none : Env) 21 F b71 [2] A71 [a0] h = c71 F g a0 h := by kernel_rfl
theorem s71 (F g : Nat) : ∀ args h r, u1 (c71 F g) args h = some r → Tri Go.Proofs.Try.prog 71 args h r := by
  intro args h r e; obtain ⟨a0, rfl, e1⟩ := u1_some e; exact fn_sound Go.Proofs.Try.func71 rfl rfl rfl Go.Proofs.Try.ntmps71 (Sound.none _) ((k71 F g a0 h).trans e1)

-- "loop.example/treenumbers/spec.l1Part"
noncomputable def c60 (F g : Nat) (a0 a1 : AV) (h : H) : Option R := bindR (c71 F g a0 h) fun x1 h => aIdxAddr 1 x1 a1 h fun x2 h => aLoad x2 h fun x3 h => bindR (c46 F g a0 x3 h) fun x4 h => aSliceS a0 (some x3) (some x4) none h fun x5 h => some (x5, h)
noncomputable def A60 : An := (.two .o (.two .o (.two .o .o)))
noncomputable def b60 : Code := bodyOf Go.Proofs.Try.f60
theorem k60 (F g : Nat) (a0 a1 : AV) (h : H) : callD Go.Proofs.Try.prog (Env.add (Env.add (fun _ _ _ => none : Env) 71 (u1 (c71 F g))) 46 (u2 (c46 F g))) 17 F b60 [4] A60 [a0, a1] h = c60 F g a0 a1 h := by kernel_rfl
theorem s60 (F g : Nat) : ∀ args h r, u2 (c60 F g) args h = some r → Tri Go.Proofs.Try.prog 60 args h r := by
  intro args h r e; obtain ⟨a0, a1, rfl, e1⟩ := u2_some e; exact fn_sound Go.Proofs.Try.func60 rfl rfl rfl Go.Proofs.Try.ntmps60 (Sound.add (Sound.add (Sound.none _) (s71 F g)) (s46 F g)) ((k60 F g a0 a1 h).trans e1)

-- "loop.example/treenumbers/spec.TreePart"
noncomputable def c32 (F g : Nat) (a0 a1 : AV) (h : H) : Option R := bindR (c59 F g a0 a1 h) fun x1 h => aNot x1 h fun x2 h => withBool x2 fun t3 => bc t3 (some (AV.one .tup (AV.cons (AV.str [] 0) (AV.cons (AV.bool false) (AV.leaf .nil))), h)) (bindR (c60 F g a0 a1 h) fun x4 h => some (AV.one .tup (AV.cons x4 (AV.cons (AV.bool true) (AV.leaf .nil))), h))
noncomputable def A32 : An := (.two .o (.two (.two .o (.two (.two .o .o) .o)) (.two .o .o)))
noncomputable def b32 : Code := bodyOf Go.Proofs.Try.f32
theorem k32 (F g : Nat) (a0 a1 : AV) (h : H) : callD Go.Proofs.Try.prog (Env.add (Env.add (fun _ _ _ => none : Env) 59 (u2 (c59 F g))) 60 (u2 (c60 F g))) 13 F b32 [4, 5] A32 [a0, a1] h = c32 F g a0 a1 h := by kernel_rfl
theorem s32 (F g : Nat) : ∀ args h r, u2 (c32 F g) args h = some r → Tri Go.Proofs.Try.prog 32 args h r := by
  intro args h r e; obtain ⟨a0, a1, rfl, e1⟩ := u2_some e; exact fn_sound Go.Proofs.Try.func32 rfl rfl rfl Go.Proofs.Try.ntmps32 (Sound.add (Sound.add (Sound.none _) (s59 F g)) (s60 F g)) ((k32 F g a0 a1 h).trans e1)

-- "loop.example/treenumbers/impl.TreePart"
noncomputable def c33_j1 (F g : Nat) (vs : List AV) (h : H) : Option R := (fun x8 x9 x10 x11 => aPick x10 (AV.bool true) x11 h fun x12 h => withBool x12 fun t13 => bc t13 (some (AV.one .tup (AV.cons (AV.str [] 0) (AV.cons (AV.bool false) (AV.leaf .nil))), h)) (aIdxAddr 1 x9 x8 h fun x14 h => aLoad x14 h fun x15 h => bindR (c54 F g x15 h) fun x16 h => some (AV.one .tup (AV.cons x16 (AV.cons (AV.bool true) (AV.leaf .nil))), h))) (hd vs) (hd (tl vs)) (hd (tl (tl vs))) (hd (tl (tl (tl vs))))
noncomputable def c33 (F g : Nat) (a0 a1 : AV) (h : H) : Option R := bindR (c47 F g a0 h) fun x1 h => aExtract x1 0 h fun x2 h => aExtract x1 1 h fun x3 h => aNot x3 h fun x4 h => withBool x4 fun t5 => bc t5 (some (AV.one .tup (AV.cons (AV.str [] 0) (AV.cons (AV.bool false) (AV.leaf .nil))), h)) (bindR (c48 F g x2 h) fun x6 h => aCmpI ilt a1 (AV.int 3 (Int.ofNat 0)) h fun x7 h => guardB false x7 (aLenK 1 x6 h fun x17 h => aCmpI (fun a b => ile b a) a1 x17 h fun x18 h => (c33_j1 F g) [a1, x6, x7, x18] h) ((c33_j1 F g) [a1, x6, x7, (AV.one .tup (AV.leaf .nil))] h))
noncomputable def A33 : An := (.two .o (.two .o (.two (.two .o (.two (.two .o .o) .o)) (.two .o (.two (.two (.at_ [1, 8, 20, 24] .o .o) (.two (.two .o .o) .o)) (.two .o .o))))))
noncomputable def b33 : Code := bodyOf Go.Proofs.Try.f33
theorem k33 (F g : Nat) (a0 a1 : AV) (h : H) : callD Go.Proofs.Try.prog (Env.add (Env.add (Env.add (fun _ _ _ => none : Env) 47 (u1 (c47 F g))) 48 (u1 (c48 F g))) 54 (u1 (c54 F g))) 31 F b33 [4, 5] A33 [a0, a1] h = c33 F g a0 a1 h := by kernel_rfl
theorem s33 (F g : Nat) : ∀ args h r, u2 (c33 F g) args h = some r → Tri Go.Proofs.Try.prog 33 args h r := by
  intro args h r e; obtain ⟨a0, a1, rfl, e1⟩ := u2_some e; exact fn_sound Go.Proofs.Try.func33 rfl rfl rfl Go.Proofs.Try.ntmps33 (Sound.add (Sound.add (Sound.add (Sound.none _) (s47 F g)) (s48 F g)) (s54 F g)) ((k33 F g a0 a1 h).trans e1)

-- "loop.example/treenumbers/laws.FnExactTreePart"
noncomputable def c9_j1 (F g : Nat) (vs : List AV) (h : H) : Option R := (fun x11 x12 => aPick x11 (AV.bool true) x12 h fun x13 h => withBool x13 fun t14 => bc t14 (some ((AV.bool false), h)) (some ((AV.bool true), h))) (hd vs) (hd (tl vs))
noncomputable def c9 (F g : Nat) (a0 a1 : AV) (h : H) : Option R := aLenK 0 a0 h fun x1 h => aCmpI (fun a b => ilt b a) x1 (AV.int 3 (Int.ofNat 1048576)) h fun x2 h => withBool x2 fun t3 => bc t3 (some ((AV.bool true), h)) (bindR (c32 F g a0 a1 h) fun x4 h => aExtract x4 0 h fun x5 h => aExtract x4 1 h fun x6 h => bindR (c33 F g a0 a1 h) fun x7 h => aExtract x7 0 h fun x8 h => aExtract x7 1 h fun x9 h => aCmpS (fun a b => bnot (eqL a b)) x8 x5 h fun x10 h => guardB false x10 (aEq true 0 x9 x6 h fun x15 h => (c9_j1 F g) [x10, x15] h) ((c9_j1 F g) [x10, (AV.one .tup (AV.leaf .nil))] h))
noncomputable def A9 : An := (.two .o (.two (.two .o (.two (.two .o .o) .o)) (.two .o (.two .o (.two (.two (.at_ [27, 30] .o .o) (.two (.two .o .o) .o)) (.two .o .o))))))
noncomputable def b9 : Code := bodyOf Go.Proofs.Try.f9
theorem k9 (F g : Nat) (a0 a1 : AV) (h : H) : callD Go.Proofs.Try.prog (Env.add (Env.add (fun _ _ _ => none : Env) 32 (u2 (c32 F g))) 33 (u2 (c33 F g))) 32 F b9 [4] A9 [a0, a1] h = c9 F g a0 a1 h := by kernel_rfl
theorem s9 (F g : Nat) : ∀ args h r, u2 (c9 F g) args h = some r → Tri Go.Proofs.Try.prog 9 args h r := by
  intro args h r e; obtain ⟨a0, a1, rfl, e1⟩ := u2_some e; exact fn_sound Go.Proofs.Try.func9 rfl rfl rfl Go.Proofs.Try.ntmps9 (Sound.add (Sound.add (Sound.none _) (s32 F g)) (s33 F g)) ((k9 F g a0 a1 h).trans e1)

-- "loop.example/treenumbers/spec.l1Up"
noncomputable def c61_j1 (F g : Nat) (kc3 : List AV → H → Option R) (kc11 : List AV → H → Option R) (vs : List AV) (h : H) : Option R := (fun x17 x18 x19 x20 x21 x22 => aPick x21 x22 (AV.bool false) h fun x23 _ => withBool x23 fun t24 => bc t24 (aArith isub x20 (AV.int 3 (Int.ofNat 1)) h fun x25 h => kc11 [x17, x18, x19, x25] h) (aBuildSlice 1 1 [(0, 1, x20)] h fun x26 h => aAppend 1 8 x18 x26 h fun x27 h => aArith iadd x19 (AV.int 3 (Int.ofNat 1)) h fun x28 h => kc3 [x17, x27, x28] h)) (hd vs) (hd (tl vs)) (hd (tl (tl vs))) (hd (tl (tl (tl vs)))) (hd (tl (tl (tl (tl vs))))) (hd (tl (tl (tl (tl (tl vs))))))
noncomputable def c61_l2 (F g : Nat) (kc3 : List AV → H → Option R) : List AV → H → (List AV → H → Option R) → Option R := fun vs h kc11 => (fun x12 x13 x14 x15 => aCmpI (fun a b => ile b a) x15 (AV.int 3 (Int.ofNat 0)) h fun x16 _ => guardB true x16 (aIdxAddr 1 x12 x15 h fun x29 _ => aLoad x29 h fun x30 _ => aIdxAddr 1 x12 x14 h fun x31 _ => aLoad x31 h fun x32 _ => aCmpI (fun a b => ile b a) x30 x32 h fun x33 _ => (c61_j1 F g kc3 kc11) [x12, x13, x14, x15, x16, x33] h) ((c61_j1 F g kc3 kc11) [x12, x13, x14, x15, x16, (AV.one .tup (AV.leaf .nil))] h)) (hd vs) (hd (tl vs)) (hd (tl (tl vs))) (hd (tl (tl (tl vs))))
noncomputable def c61_l3 (F g : Nat) : List AV → H → (List AV → H → Option R) → Option R := fun vs h kc3 => (fun x4 x5 x6 => aLenK 1 x4 h fun x7 h => aCmpI ilt x6 x7 h fun x8 h => withBool x8 fun t9 => bc t9 (aArith isub x6 (AV.int 3 (Int.ofNat 1)) h fun x10 h => loopD F (c61_l2 F g kc3) [x4, x5, x6, x10] h) (some (x5, h))) (hd vs) (hd (tl vs)) (hd (tl (tl vs)))
noncomputable def c61 (F g : Nat) (a0 : AV) (h : H) : Option R := bindR (c51 F g a0 h) fun x1 h => aBuildSlice 0 1 [] h fun x2 h => loopD F (c61_l3 F g) [x1, x2, (AV.int 3 (Int.ofNat 0))] h
noncomputable def A61 : An := (.two .o (.two .o (.two .o (.two (.two .o (.two (.at_ [3, 4, 5] (.two (.two .o (.two .o .o)) (.two (.two (.two .o (.two (.two (.at_ [3, 4, 5, 6] (.two (.two (.at_ [3, 4, 5, 6, 20, 29] .o .o) (.two .o .o)) (.two .o .o)) .o) .o) .o)) .o) .o)) .o) .o)) (.two .o .o)))))
noncomputable def b61 : Code := bodyOf Go.Proofs.Try.f61
theorem k61 (F g : Nat) (a0 : AV) (h : H) : callD Go.Proofs.Try.prog (Env.add (fun _ _ _ => none : Env) 51 (u1 (c51 F g))) 38 F b61 [2] A61 [a0] h = c61 F g a0 h := by kernel_rfl
theorem s61 (F g : Nat) : ∀ args h r, u1 (c61 F g) args h = some r → Tri Go.Proofs.Try.prog 61 args h r := by
  intro args h r e; obtain ⟨a0, rfl, e1⟩ := u1_some e; exact fn_sound Go.Proofs.Try.func61 rfl rfl rfl Go.Proofs.Try.ntmps61 (Sound.add (Sound.none _) (s51 F g)) ((k61 F g a0 h).trans e1)

-- "loop.example/treenumbers/spec.TreeUp"
noncomputable def c34 (F g : Nat) (a0 : AV) (h : H) : Option R := bindR (c15 F g a0 h) fun x1 h => aNot x1 h fun x2 h => withBool x2 fun t3 => bc t3 (aBuildSlice 0 1 [] h fun x4 h => some (AV.one .tup (AV.cons x4 (AV.cons (AV.bool false) (AV.leaf .nil))), h)) (bindR (c61 F g a0 h) fun x5 h => some (AV.one .tup (AV.cons x5 (AV.cons (AV.bool true) (AV.leaf .nil))), h))
noncomputable def A34 : An := (.two .o (.two (.two .o (.two (.two .o .o) .o)) (.two .o .o)))
noncomputable def b34 : Code := bodyOf Go.Proofs.Try.f34
theorem k34 (F g : Nat) (a0 : AV) (h : H) : callD Go.Proofs.Try.prog (Env.add (Env.add (fun _ _ _ => none : Env) 15 (u1 (c15 F g))) 61 (u1 (c61 F g))) 10 F b34 [2, 3] A34 [a0] h = c34 F g a0 h := by kernel_rfl
theorem s34 (F g : Nat) : ∀ args h r, u1 (c34 F g) args h = some r → Tri Go.Proofs.Try.prog 34 args h r := by
  intro args h r e; obtain ⟨a0, rfl, e1⟩ := u1_some e; exact fn_sound Go.Proofs.Try.func34 rfl rfl rfl Go.Proofs.Try.ntmps34 (Sound.add (Sound.add (Sound.none _) (s15 F g)) (s61 F g)) ((k34 F g a0 h).trans e1)

-- "loop.example/treenumbers/impl.TreeUp"
noncomputable def c35_l1 (F g : Nat) : List AV → H → (List AV → H → Option R) → Option R := fun vs h kc10 => (fun x11 x12 x13 x14 => aCmpI ilt x14 x13 h fun x15 h => withBool x15 fun t16 => bc t16 (aIdxAddr 1 x12 x14 h fun x17 h => aLoad x17 h fun x18 h => aNilCheck x18 h fun x19 h => aField 1 x19 h fun x20 h => aLoad x20 h fun x21 h => aNilCheck x21 h fun x22 h => aField 0 x22 h fun x23 h => aLoad x23 h fun x24 h => aBuildSlice 1 1 [(0, 1, x24)] h fun x25 h => aAppend 1 8 x11 x25 h fun x26 h => aArith iadd x14 (AV.int 3 (Int.ofNat 1)) h fun x27 h => kc10 [x26, x12, x13, x27] h) (some (AV.one .tup (AV.cons x11 (AV.cons (AV.bool true) (AV.leaf .nil))), h))) (hd vs) (hd (tl vs)) (hd (tl (tl vs))) (hd (tl (tl (tl vs))))
noncomputable def c35 (F g : Nat) (a0 : AV) (h : H) : Option R := bindR (c47 F g a0 h) fun x1 h => aExtract x1 0 h fun x2 h => aExtract x1 1 h fun x3 h => aNot x3 h fun x4 h => withBool x4 fun t5 => bc t5 (some (AV.one .tup (AV.cons (AV.leaf .nils) (AV.cons (AV.bool false) (AV.leaf .nil))), h)) (aBuildSlice 1 1 [(0, 1, (AV.int 3 (Int.negSucc 0)))] h fun x6 h => bindR (c48 F g x2 h) fun x7 h => aSliceV 1 x7 (some (AV.int 3 (Int.ofNat 1))) none none h fun x8 h => aLenK 1 x8 h fun x9 h => loopD F (c35_l1 F g) [x6, x8, x9, (AV.int 3 (Int.ofNat 0))] h)
noncomputable def A35 : An := (.two .o (.two .o (.two (.two .o (.two (.two .o .o) .o)) (.two .o (.two (.two .o (.two (.at_ [6, 19, 20, 21] (.two .o (.two (.two .o .o) (.two (.two (.two .o .o) .o) .o))) .o) .o)) (.two .o .o))))))
noncomputable def b35 : Code := bodyOf Go.Proofs.Try.f35
theorem k35 (F g : Nat) (a0 : AV) (h : H) : callD Go.Proofs.Try.prog (Env.add (Env.add (fun _ _ _ => none : Env) 47 (u1 (c47 F g))) 48 (u1 (c48 F g))) 37 F b35 [2, 3] A35 [a0] h = c35 F g a0 h := by kernel_rfl
theorem s35 (F g : Nat) : ∀ args h r, u1 (c35 F g) args h = some r → Tri Go.Proofs.Try.prog 35 args h r := by
  intro args h r e; obtain ⟨a0, rfl, e1⟩ := u1_some e; exact fn_sound Go.Proofs.Try.func35 rfl rfl rfl Go.Proofs.Try.ntmps35 (Sound.add (Sound.add (Sound.none _) (s47 F g)) (s48 F g)) ((k35 F g a0 h).trans e1)

-- "loop.example/treenumbers/laws.eqIntS"
noncomputable def c36_l1 (F g : Nat) : List AV → H → (List AV → H → Option R) → Option R := fun vs h kc5 => (fun x6 x7 x8 => aLenK 1 x6 h fun x9 h => aCmpI ilt x8 x9 h fun x10 h => withBool x10 fun t11 => bc t11 (aIdxAddr 1 x6 x8 h fun x12 _ => aLoad x12 h fun x13 _ => aIdxAddr 1 x7 x8 h fun x14 _ => aLoad x14 h fun x15 _ => aCmpI (fun a b => bnot (ieq a b)) x13 x15 h fun x16 _ => withBool x16 fun t17 => bc t17 (some ((AV.bool false), h)) (aArith iadd x8 (AV.int 3 (Int.ofNat 1)) h fun x18 h => kc5 [x6, x7, x18] h)) (some ((AV.bool true), h))) (hd vs) (hd (tl vs)) (hd (tl (tl vs)))
noncomputable def c36 (F g : Nat) (a0 a1 : AV) (h : H) : Option R := aLenK 1 a0 h fun x1 h => aLenK 1 a1 h fun x2 h => aCmpI (fun a b => bnot (ieq a b)) x1 x2 h fun x3 h => withBool x3 fun t4 => bc t4 (some ((AV.bool false), h)) (loopD F (c36_l1 F g) [a0, a1, (AV.int 3 (Int.ofNat 0))] h)
noncomputable def A36 : An := (.two .o (.two (.two .o (.two (.two .o .o) .o)) (.two (.two .o (.two (.at_ [0, 1, 5] (.two (.two .o (.two .o .o)) (.two (.two (.two .o (.two (.two .o .o) .o)) .o) .o)) .o) .o)) (.two .o .o))))
noncomputable def b36 : Code := bodyOf Go.Proofs.Try.f36
theorem k36 (F g : Nat) (a0 a1 : AV) (h : H) : callD Go.Proofs.Try.prog (fun _ _ _ => none : Env) 26 F b36 [4] A36 [a0, a1] h = c36 F g a0 a1 h := by kernel_rfl
theorem s36 (F g : Nat) : ∀ args h r, u2 (c36 F g) args h = some r → Tri Go.Proofs.Try.prog 36 args h r := by
  intro args h r e; obtain ⟨a0, a1, rfl, e1⟩ := u2_some e; exact fn_sound Go.Proofs.Try.func36 rfl rfl rfl Go.Proofs.Try.ntmps36 (Sound.none _) ((k36 F g a0 a1 h).trans e1)

-- "loop.example/treenumbers/laws.markIntS"
noncomputable def c37_l1 (F g : Nat) : List AV → H → (List AV → H → Option R) → Option R := fun vs h kc1 => (fun x2 x3 x4 => aLenK 1 x2 h fun x5 h => aCmpI ilt x4 x5 h fun x6 h => withBool x6 fun t7 => bc t7 (aIdxAddr 1 x2 x4 h fun x8 h => aStore x8 x3 h fun x9 h => aArith iadd x3 (AV.int 3 (Int.ofNat 1)) h fun x10 h => aArith iadd x4 (AV.int 3 (Int.ofNat 1)) h fun x11 h => kc1 [x2, x10, x11] h) (some (x3, h))) (hd vs) (hd (tl vs)) (hd (tl (tl vs)))
noncomputable def c37 (F g : Nat) (a0 a1 : AV) (h : H) : Option R := loopD F (c37_l1 F g) [a0, a1, (AV.int 3 (Int.ofNat 0))] h
noncomputable def A37 : An := (.two .o (.two (.two .o (.two (.at_ [0, 1, 5] (.two (.two .o (.two .o .o)) (.two (.two (.two .o .o) .o) .o)) .o) .o)) (.two .o .o)))
noncomputable def b37 : Code := bodyOf Go.Proofs.Try.f37
theorem k37 (F g : Nat) (a0 a1 : AV) (h : H) : callD Go.Proofs.Try.prog (fun _ _ _ => none : Env) 19 F b37 [4] A37 [a0, a1] h = c37 F g a0 a1 h := by kernel_rfl
theorem s37 (F g : Nat) : ∀ args h r, u2 (c37 F g) args h = some r → Tri Go.Proofs.Try.prog 37 args h r := by
  intro args h r e; obtain ⟨a0, a1, rfl, e1⟩ := u2_some e; exact fn_sound Go.Proofs.Try.func37 rfl rfl rfl Go.Proofs.Try.ntmps37 (Sound.none _) ((k37 F g a0 a1 h).trans e1)

-- "loop.example/treenumbers/laws.heldIntS"
noncomputable def c38_l1 (F g : Nat) : List AV → H → (List AV → H → Option R) → Option R := fun vs h kc1 => (fun x2 x3 x4 => aLenK 1 x2 h fun x5 h => aCmpI ilt x4 x5 h fun x6 h => withBool x6 fun t7 => bc t7 (aIdxAddr 1 x2 x4 h fun x8 h => aLoad x8 h fun x9 h => aCmpI (fun a b => bnot (ieq a b)) x9 x3 h fun x10 h => withBool x10 fun t11 => bc t11 (some ((AV.int 3 (Int.negSucc 0)), h)) (aArith iadd x3 (AV.int 3 (Int.ofNat 1)) h fun x12 h => aArith iadd x4 (AV.int 3 (Int.ofNat 1)) h fun x13 h => kc1 [x2, x12, x13] h)) (some (x3, h))) (hd vs) (hd (tl vs)) (hd (tl (tl vs)))
noncomputable def c38 (F g : Nat) (a0 a1 : AV) (h : H) : Option R := loopD F (c38_l1 F g) [a0, a1, (AV.int 3 (Int.ofNat 0))] h
noncomputable def A38 : An := (.two .o (.two (.two .o (.two (.at_ [0, 1, 5] (.two (.two .o (.two .o .o)) (.two (.two (.two (.two .o (.two (.two .o .o) .o)) .o) .o) .o)) .o) .o)) (.two .o .o)))
noncomputable def b38 : Code := bodyOf Go.Proofs.Try.f38
theorem k38 (F g : Nat) (a0 a1 : AV) (h : H) : callD Go.Proofs.Try.prog (fun _ _ _ => none : Env) 21 F b38 [4] A38 [a0, a1] h = c38 F g a0 a1 h := by kernel_rfl
theorem s38 (F g : Nat) : ∀ args h r, u2 (c38 F g) args h = some r → Tri Go.Proofs.Try.prog 38 args h r := by
  intro args h r e; obtain ⟨a0, a1, rfl, e1⟩ := u2_some e; exact fn_sound Go.Proofs.Try.func38 rfl rfl rfl Go.Proofs.Try.ntmps38 (Sound.none _) ((k38 F g a0 a1 h).trans e1)

-- "loop.example/treenumbers/laws.FnExactTreeUp"
noncomputable def c10_j1 (F g : Nat) (vs : List AV) (h : H) : Option R := (fun x31 x32 x33 x34 => aPick x33 (AV.bool true) x34 h fun x35 h => withBool x35 fun t36 => bc t36 (some ((AV.bool false), h)) (bindR (c38 F g x31 (AV.int 3 (Int.ofNat 1)) h) fun x37 h => aCmpI ilt x37 (AV.int 3 (Int.ofNat 0)) h fun x38 h => withBool x38 fun t39 => bc t39 (some ((AV.bool false), h)) (aCmpI (fun a b => bnot (ieq a b)) x37 x32 h fun x40 h => withBool x40 fun t41 => bc t41 (some ((AV.bool false), h)) (some ((AV.bool true), h))))) (hd vs) (hd (tl vs)) (hd (tl (tl vs))) (hd (tl (tl (tl vs))))
noncomputable def c10_j2 (F g : Nat) (vs : List AV) (h : H) : Option R := (fun x12 x13 x14 x15 x16 x17 => aPick x16 (AV.bool true) x17 h fun x18 h => withBool x18 fun t19 => bc t19 (some ((AV.bool false), h)) (bindR (c37 F g x15 (AV.int 3 (Int.ofNat 1)) h) fun x20 h => bindR (c38 F g x15 (AV.int 3 (Int.ofNat 1)) h) fun x21 h => aCmpI ilt x21 (AV.int 3 (Int.ofNat 0)) h fun x22 h => withBool x22 fun t23 => bc t23 (some ((AV.bool false), h)) (aCmpI (fun a b => bnot (ieq a b)) x21 x20 h fun x24 h => withBool x24 fun t25 => bc t25 (some ((AV.bool false), h)) (bindR (c35 F g x12 h) fun x26 h => aExtract x26 0 h fun x27 h => aExtract x26 1 h fun x28 h => bindR (c36 F g x27 x13 h) fun x29 h => aNot x29 h fun x30 h => guardB false x30 (aEq true 0 x28 x14 h fun x42 h => (c10_j1 F g) [x15, x20, x30, x42] h) ((c10_j1 F g) [x15, x20, x30, (AV.one .tup (AV.leaf .nil))] h))))) (hd vs) (hd (tl vs)) (hd (tl (tl vs))) (hd (tl (tl (tl vs)))) (hd (tl (tl (tl (tl vs))))) (hd (tl (tl (tl (tl (tl vs))))))
noncomputable def c10 (F g : Nat) (a0 : AV) (h : H) : Option R := aLenK 0 a0 h fun x1 h => aCmpI (fun a b => ilt b a) x1 (AV.int 3 (Int.ofNat 1048576)) h fun x2 h => withBool x2 fun t3 => bc t3 (some ((AV.bool true), h)) (bindR (c34 F g a0 h) fun x4 h => aExtract x4 0 h fun x5 h => aExtract x4 1 h fun x6 h => bindR (c35 F g a0 h) fun x7 h => aExtract x7 0 h fun x8 h => aExtract x7 1 h fun x9 h => bindR (c36 F g x8 x5 h) fun x10 h => aNot x10 h fun x11 h => guardB false x11 (aEq true 0 x9 x6 h fun x43 h => (c10_j2 F g) [a0, x5, x6, x8, x11, x43] h) ((c10_j2 F g) [a0, x5, x6, x8, x11, (AV.one .tup (AV.leaf .nil))] h))
noncomputable def A10 : An := (.two .o (.two (.two .o (.two (.two .o .o) .o)) (.two .o (.two .o (.two (.two (.at_ [0, 3, 4, 5, 28, 31] .o .o) (.two (.two .o .o) .o)) (.two .o (.two .o (.two .o (.two .o (.two (.two .o (.two (.two .o .o) .o)) (.two (.two .o (.two (.two .o .o) .o)) (.two .o (.two (.two (.at_ [5, 7, 53, 56] .o .o) (.two (.two .o .o) .o)) (.two .o (.two .o (.two (.two .o (.two (.two .o .o) .o)) (.two (.two .o (.two (.two .o .o) .o)) (.two .o .o))))))))))))))))))
noncomputable def b10 : Code := bodyOf Go.Proofs.Try.f10
theorem k10 (F g : Nat) (a0 : AV) (h : H) : callD Go.Proofs.Try.prog (Env.add (Env.add (Env.add (Env.add (Env.add (fun _ _ _ => none : Env) 34 (u1 (c34 F g))) 35 (u1 (c35 F g))) 36 (u2 (c36 F g))) 37 (u2 (c37 F g))) 38 (u2 (c38 F g))) 66 F b10 [2] A10 [a0] h = c10 F g a0 h := by kernel_rfl
theorem s10 (F g : Nat) : ∀ args h r, u1 (c10 F g) args h = some r → Tri Go.Proofs.Try.prog 10 args h r := by
  intro args h r e; obtain ⟨a0, rfl, e1⟩ := u1_some e; exact fn_sound Go.Proofs.Try.func10 rfl rfl rfl Go.Proofs.Try.ntmps10 (Sound.add (Sound.add (Sound.add (Sound.add (Sound.add (Sound.none _) (s34 F g)) (s35 F g)) (s36 F g)) (s37 F g)) (s38 F g)) ((k10 F g a0 h).trans e1)

-- "loop.example/treenumbers/spec.TreeTurned"
noncomputable def c39_l1 (F g : Nat) : List AV → H → (List AV → H → Option R) → Option R := fun vs h kc7 => (fun x8 x9 x10 => aCmpI (fun a b => ile b a) x10 (AV.int 3 (Int.ofNat 0)) h fun x11 h => withBool x11 fun t12 => bc t12 (aIdxStr x8 x10 h fun x13 h => aArith isub (AV.int 4 (Int.ofNat 81)) x13 h fun x14 h => aBuildSlice 1 1 [(0, 1, x14)] h fun x15 h => aAppend 1 1 x9 x15 h fun x16 h => aArith isub x10 (AV.int 3 (Int.ofNat 1)) h fun x17 h => kc7 [x8, x16, x17] h) (aB2S x9 h fun x18 h => some (AV.one .tup (AV.cons x18 (AV.cons (AV.bool true) (AV.leaf .nil))), h))) (hd vs) (hd (tl vs)) (hd (tl (tl vs)))
noncomputable def c39 (F g : Nat) (a0 : AV) (h : H) : Option R := bindR (c15 F g a0 h) fun x1 h => aNot x1 h fun x2 h => withBool x2 fun t3 => bc t3 (some (AV.one .tup (AV.cons (AV.str [] 0) (AV.cons (AV.bool false) (AV.leaf .nil))), h)) (aBuildSlice 0 1 [] h fun x4 h => aLenK 0 a0 h fun x5 h => aArith isub x5 (AV.int 3 (Int.ofNat 1)) h fun x6 h => loopD F (c39_l1 F g) [a0, x4, x6] h)
noncomputable def A39 : An := (.two .o (.two (.two .o (.two (.two .o .o) .o)) (.two .o (.two (.two .o (.two (.at_ [0, 4, 5] (.two (.two .o (.two .o .o)) (.two (.two .o .o) .o)) .o) .o)) (.two .o .o)))))
noncomputable def b39 : Code := bodyOf Go.Proofs.Try.f39
theorem k39 (F g : Nat) (a0 : AV) (h : H) : callD Go.Proofs.Try.prog (Env.add (fun _ _ _ => none : Env) 15 (u1 (c15 F g))) 26 F b39 [2, 3] A39 [a0] h = c39 F g a0 h := by kernel_rfl
theorem s39 (F g : Nat) : ∀ args h r, u1 (c39 F g) args h = some r → Tri Go.Proofs.Try.prog 39 args h r := by
  intro args h r e; obtain ⟨a0, rfl, e1⟩ := u1_some e; exact fn_sound Go.Proofs.Try.func39 rfl rfl rfl Go.Proofs.Try.ntmps39 (Sound.add (Sound.none _) (s15 F g)) ((k39 F g a0 h).trans e1)

-- "slices.Reverse[[]*loop.example/treenumbers/impl.node,*loop.example/treenumbers/impl.node]"
noncomputable def c72_l1 (F g : Nat) : List AV → H → (List AV → H → Option R) → Option R := fun vs h kc3 => (fun x4 x5 x6 => aCmpI ilt x5 x6 h fun x7 h => withBool x7 fun t8 => bc t8 (aIdxAddr 1 x4 x6 h fun x9 _ => aLoad x9 h fun x10 _ => aIdxAddr 1 x4 x5 h fun x11 _ => aLoad x11 h fun x12 _ => aIdxAddr 1 x4 x5 h fun x13 _ => aStore x13 x10 h fun x14 h => aIdxAddr 1 x4 x6 h fun x15 _ => aStore x15 x12 h fun x16 h => aArith iadd x5 (AV.int 3 (Int.ofNat 1)) h fun x17 h => aArith isub x6 (AV.int 3 (Int.ofNat 1)) h fun x18 h => kc3 [x4, x17, x18] h) (some (AV.one .tup (AV.leaf .nil), h))) (hd vs) (hd (tl vs)) (hd (tl (tl vs)))
noncomputable def c72 (F g : Nat) (a0 : AV) (h : H) : Option R := aLenK 1 a0 h fun x1 h => aArith isub x1 (AV.int 3 (Int.ofNat 1)) h fun x2 h => loopD F (c72_l1 F g) [a0, (AV.int 3 (Int.ofNat 0)), x2] h
noncomputable def A72 : An := (.two .o (.two (.at_ [0, 2, 3] (.two (.two .o (.two .o .o)) (.two (.two .o .o) .o)) .o) .o))
noncomputable def b72 : Code := bodyOf Go.Proofs.Try.f72
theorem k72 (F g : Nat) (a0 : AV) (h : H) : callD Go.Proofs.Try.prog (fun _ _ _ => none : Env) 28 F b72 [] A72 [a0] h = c72 F g a0 h := by kernel_rfl
theorem s72 (F g : Nat) : ∀ args h r, u1 (c72 F g) args h = some r → Tri Go.Proofs.Try.prog 72 args h r := by
  intro args h r e; obtain ⟨a0, rfl, e1⟩ := u1_some e; exact fn_sound Go.Proofs.Try.func72 rfl rfl rfl Go.Proofs.Try.ntmps72 (Sound.none _) ((k72 F g a0 h).trans e1)

-- "(*loop.example/treenumbers/impl.node).turn"
noncomputable def c62_l1 (F g : Nat) (self : AV → H → Option R) : List AV → H → (List AV → H → Option R) → Option R := fun vs h kc9 => (fun x10 x11 x12 => aCmpI ilt x12 x11 h fun x13 h => withBool x13 fun t14 => bc t14 (aIdxAddr 1 x10 x12 h fun x15 h => aLoad x15 h fun x16 h => bindR (self x16 h) fun x17 h => aArith iadd x12 (AV.int 3 (Int.ofNat 1)) h fun x18 h => kc9 [x10, x11, x18] h) (some (AV.one .tup (AV.leaf .nil), h))) (hd vs) (hd (tl vs)) (hd (tl (tl vs)))
noncomputable def c62 (F g : Nat) : AV → H → Option R := Nat.rec (motive := fun _ => AV → H → Option R) (fun _ _ => none) (fun g self a0 h => aNilCheck a0 h fun x1 h => aField 2 x1 h fun x2 h => aLoad x2 h fun x3 h => bindR (c72 F g x3 h) fun x4 h => aNilCheck a0 h fun x5 h => aField 2 x5 h fun x6 h => aLoad x6 h fun x7 h => aLenK 1 x7 h fun x8 h => loopD F (c62_l1 F g self) [x7, x8, (AV.int 3 (Int.ofNat 0))] h) g
noncomputable def A62 : An := (.two .o (.two .o (.two (.at_ [12, 13, 14] (.two .o (.two (.two .o .o) (.two (.two (.two .o .o) .o) .o))) .o) .o)))
noncomputable def b62 : Code := bodyOf Go.Proofs.Try.f62
theorem k62 (F g : Nat) (a0 : AV) (h : H) : callD Go.Proofs.Try.prog (Env.add (Env.add (fun _ _ _ => none : Env) 72 (u1 (c72 F g))) 62 (u1 (c62 F g))) 21 F b62 [] A62 [a0] h = c62 F (g + 1) a0 h := by kernel_rfl
theorem s62 (F g : Nat) : ∀ args h r, u1 (c62 F g) args h = some r → Tri Go.Proofs.Try.prog 62 args h r := by
  induction g with
  | zero => intro args h r e; obtain ⟨a0, rfl, e⟩ := u1_some e; cases e
  | succ g ih => intro args h r e; obtain ⟨a0, rfl, e1⟩ := u1_some e; exact fn_sound Go.Proofs.Try.func62 rfl rfl rfl Go.Proofs.Try.ntmps62 (Sound.add (Sound.add (Sound.none _) (s72 F g)) ih) ((k62 F g a0 h).trans e1)

-- "loop.example/treenumbers/impl.TreeTurned"
noncomputable def c40 (F g : Nat) (a0 : AV) (h : H) : Option R := bindR (c47 F g a0 h) fun x1 h => aExtract x1 0 h fun x2 h => aExtract x1 1 h fun x3 h => aNot x3 h fun x4 h => withBool x4 fun t5 => bc t5 (some (AV.one .tup (AV.cons (AV.str [] 0) (AV.cons (AV.bool false) (AV.leaf .nil))), h)) (bindR (c62 F g x2 h) fun x6 h => bindR (c54 F g x2 h) fun x7 h => some (AV.one .tup (AV.cons x7 (AV.cons (AV.bool true) (AV.leaf .nil))), h))
noncomputable def A40 : An := (.two .o (.two .o (.two (.two .o (.two (.two .o .o) .o)) (.two .o (.two .o .o)))))
noncomputable def b40 : Code := bodyOf Go.Proofs.Try.f40
theorem k40 (F g : Nat) (a0 : AV) (h : H) : callD Go.Proofs.Try.prog (Env.add (Env.add (Env.add (fun _ _ _ => none : Env) 47 (u1 (c47 F g))) 62 (u1 (c62 F g))) 54 (u1 (c54 F g))) 17 F b40 [2, 3] A40 [a0] h = c40 F g a0 h := by kernel_rfl
theorem s40 (F g : Nat) : ∀ args h r, u1 (c40 F g) args h = some r → Tri Go.Proofs.Try.prog 40 args h r := by
  intro args h r e; obtain ⟨a0, rfl, e1⟩ := u1_some e; exact fn_sound Go.Proofs.Try.func40 rfl rfl rfl Go.Proofs.Try.ntmps40 (Sound.add (Sound.add (Sound.add (Sound.none _) (s47 F g)) (s62 F g)) (s54 F g)) ((k40 F g a0 h).trans e1)

-- "loop.example/treenumbers/laws.FnExactTreeTurned"
noncomputable def c11_j1 (F g : Nat) (vs : List AV) (h : H) : Option R := (fun x11 x12 => aPick x11 (AV.bool true) x12 h fun x13 h => withBool x13 fun t14 => bc t14 (some ((AV.bool false), h)) (some ((AV.bool true), h))) (hd vs) (hd (tl vs))
noncomputable def c11 (F g : Nat) (a0 : AV) (h : H) : Option R := aLenK 0 a0 h fun x1 h => aCmpI (fun a b => ilt b a) x1 (AV.int 3 (Int.ofNat 1048576)) h fun x2 h => withBool x2 fun t3 => bc t3 (some ((AV.bool true), h)) (bindR (c39 F g a0 h) fun x4 h => aExtract x4 0 h fun x5 h => aExtract x4 1 h fun x6 h => bindR (c40 F g a0 h) fun x7 h => aExtract x7 0 h fun x8 h => aExtract x7 1 h fun x9 h => aCmpS (fun a b => bnot (eqL a b)) x8 x5 h fun x10 h => guardB false x10 (aEq true 0 x9 x6 h fun x15 h => (c11_j1 F g) [x10, x15] h) ((c11_j1 F g) [x10, (AV.one .tup (AV.leaf .nil))] h))
noncomputable def A11 : An := (.two .o (.two (.two .o (.two (.two .o .o) .o)) (.two .o (.two .o (.two (.two (.at_ [23, 26] .o .o) (.two (.two .o .o) .o)) (.two .o .o))))))
noncomputable def b11 : Code := bodyOf Go.Proofs.Try.f11
theorem k11 (F g : Nat) (a0 : AV) (h : H) : callD Go.Proofs.Try.prog (Env.add (Env.add (fun _ _ _ => none : Env) 39 (u1 (c39 F g))) 40 (u1 (c40 F g))) 28 F b11 [2] A11 [a0] h = c11 F g a0 h := by kernel_rfl
theorem s11 (F g : Nat) : ∀ args h r, u1 (c11 F g) args h = some r → Tri Go.Proofs.Try.prog 11 args h r := by
  intro args h r e; obtain ⟨a0, rfl, e1⟩ := u1_some e; exact fn_sound Go.Proofs.Try.func11 rfl rfl rfl Go.Proofs.Try.ntmps11 (Sound.add (Sound.add (Sound.none _) (s39 F g)) (s40 F g)) ((k11 F g a0 h).trans e1)

-- "loop.example/treenumbers/spec.l1Of"
noncomputable def c57_l1 (F g : Nat) : List AV → H → (List AV → H → Option R) → Option R := fun vs h kc1 => (fun x2 x3 x4 => aLenK 1 x2 h fun x5 h => aCmpI ilt x4 x5 h fun x6 h => withBool x6 fun t7 => bc t7 (aIdxAddr 1 x2 x4 h fun x8 h => aLoad x8 h fun x9 h => aSAdd x3 x9 h fun x10 h => aArith iadd x4 (AV.int 3 (Int.ofNat 1)) h fun x11 h => kc1 [x2, x10, x11] h) (aSAdd x3 (AV.str [41] 1) h fun x12 h => some (x12, h))) (hd vs) (hd (tl vs)) (hd (tl (tl vs)))
noncomputable def c57 (F g : Nat) (a0 : AV) (h : H) : Option R := loopD F (c57_l1 F g) [a0, (AV.str [40] 1), (AV.int 3 (Int.ofNat 0))] h
noncomputable def A57 : An := (.two .o (.two .o (.two (.two .o (.two (.at_ [0, 3, 4] (.two (.two .o (.two .o .o)) (.two (.two .o .o) .o)) .o) .o)) (.two .o .o))))
noncomputable def b57 : Code := bodyOf Go.Proofs.Try.f57
theorem k57 (F g : Nat) (a0 : AV) (h : H) : callD Go.Proofs.Try.prog (fun _ _ _ => none : Env) 19 F b57 [2] A57 [a0] h = c57 F g a0 h := by kernel_rfl
theorem s57 (F g : Nat) : ∀ args h r, u1 (c57 F g) args h = some r → Tri Go.Proofs.Try.prog 57 args h r := by
  intro args h r e; obtain ⟨a0, rfl, e1⟩ := u1_some e; exact fn_sound Go.Proofs.Try.func57 rfl rfl rfl Go.Proofs.Try.ntmps57 (Sound.none _) ((k57 F g a0 h).trans e1)

-- "loop.example/treenumbers/spec.l1Sorted"
noncomputable def c63_j1 (F g : Nat) (kc3 : List AV → H → Option R) (kc14 : List AV → H → Option R) (vs : List AV) (h : H) : Option R := (fun x21 x22 x23 x24 x25 x26 x27 => aPick x26 x27 (AV.bool false) h fun x28 h => withBool x28 fun t29 => bc t29 (aArith isub x25 (AV.int 3 (Int.ofNat 1)) h fun x30 h => kc14 [x21, x22, x23, x24, x30] h) (aBuildSlice 0 1 [] h fun x31 h => aSliceV 1 x22 none (some x25) none h fun x32 _ => aAppend 1 16 x31 x32 h fun x33 h => aBuildSlice 1 1 [(0, 1, x24)] h fun x34 h => aAppend 1 16 x33 x34 h fun x35 h => aSliceV 1 x22 (some x25) none none h fun x36 _ => aAppend 1 16 x35 x36 h fun x37 h => aArith iadd x23 (AV.int 3 (Int.ofNat 1)) h fun x38 h => kc3 [x21, x37, x38] h)) (hd vs) (hd (tl vs)) (hd (tl (tl vs))) (hd (tl (tl (tl vs)))) (hd (tl (tl (tl (tl vs))))) (hd (tl (tl (tl (tl (tl vs)))))) (hd (tl (tl (tl (tl (tl (tl vs)))))))
noncomputable def c63_l2 (F g : Nat) (kc3 : List AV → H → Option R) : List AV → H → (List AV → H → Option R) → Option R := fun vs h kc14 => (fun x15 x16 x17 x18 x19 => aCmpI (fun a b => ilt b a) x19 (AV.int 3 (Int.ofNat 0)) h fun x20 h => guardB true x20 (aArith isub x19 (AV.int 3 (Int.ofNat 1)) h fun x39 h => aIdxAddr 1 x16 x39 h fun x40 h => aLoad x40 h fun x41 h => aCmpS ltL x18 x41 h fun x42 h => (c63_j1 F g kc3 kc14) [x15, x16, x17, x18, x19, x20, x42] h) ((c63_j1 F g kc3 kc14) [x15, x16, x17, x18, x19, x20, (AV.one .tup (AV.leaf .nil))] h)) (hd vs) (hd (tl vs)) (hd (tl (tl vs))) (hd (tl (tl (tl vs)))) (hd (tl (tl (tl (tl vs)))))
noncomputable def c63_l3 (F g : Nat) (self : AV → H → Option R) : List AV → H → (List AV → H → Option R) → Option R := fun vs h kc3 => (fun x4 x5 x6 => aLenK 1 x4 h fun x7 h => aCmpI ilt x6 x7 h fun x8 h => withBool x8 fun t9 => bc t9 (aIdxAddr 1 x4 x6 h fun x10 h => aLoad x10 h fun x11 h => bindR (self x11 h) fun x12 h => aLenK 1 x5 h fun x13 h => loopD F (c63_l2 F g kc3) [x4, x5, x6, x12, x13] h) (bindR (c57 F g x5 h) fun x43 h => some (x43, h))) (hd vs) (hd (tl vs)) (hd (tl (tl vs)))
noncomputable def c63 (F g : Nat) : AV → H → Option R := Nat.rec (motive := fun _ => AV → H → Option R) (fun _ _ => none) (fun g self a0 h => bindR (c53 F g a0 h) fun x1 h => aBuildSlice 0 1 [] h fun x2 h => loopD F (c63_l3 F g self) [x1, x2, (AV.int 3 (Int.ofNat 0))] h) g
noncomputable def A63 : An := (.two .o (.two .o (.two .o (.two (.two .o (.two (.at_ [3, 4, 5] (.two (.two .o (.two .o .o)) (.two (.two (.two .o (.two .o (.two (.two (.at_ [3, 4, 5, 6, 7] (.two (.two (.at_ [3, 4, 5, 6, 7, 26, 33] .o .o) (.two .o .o)) (.two .o .o)) .o) .o) .o))) .o) .o)) .o) .o)) (.two .o .o)))))
noncomputable def b63 : Code := bodyOf Go.Proofs.Try.f63
theorem k63 (F g : Nat) (a0 : AV) (h : H) : callD Go.Proofs.Try.prog (Env.add (Env.add (Env.add (fun _ _ _ => none : Env) 53 (u1 (c53 F g))) 57 (u1 (c57 F g))) 63 (u1 (c63 F g))) 51 F b63 [2] A63 [a0] h = c63 F (g + 1) a0 h := by kernel_rfl
theorem s63 (F g : Nat) : ∀ args h r, u1 (c63 F g) args h = some r → Tri Go.Proofs.Try.prog 63 args h r := by
  induction g with
  | zero => intro args h r e; obtain ⟨a0, rfl, e⟩ := u1_some e; cases e
  | succ g ih => intro args h r e; obtain ⟨a0, rfl, e1⟩ := u1_some e; exact fn_sound Go.Proofs.Try.func63 rfl rfl rfl Go.Proofs.Try.ntmps63 (Sound.add (Sound.add (Sound.add (Sound.none _) (s53 F g)) (s57 F g)) ih) ((k63 F g a0 h).trans e1)

-- "loop.example/treenumbers/spec.TreeSorted"
noncomputable def c41 (F g : Nat) (a0 : AV) (h : H) : Option R := bindR (c15 F g a0 h) fun x1 h => aNot x1 h fun x2 h => withBool x2 fun t3 => bc t3 (some (AV.one .tup (AV.cons (AV.str [] 0) (AV.cons (AV.bool false) (AV.leaf .nil))), h)) (bindR (c63 F g a0 h) fun x4 h => some (AV.one .tup (AV.cons x4 (AV.cons (AV.bool true) (AV.leaf .nil))), h))
noncomputable def A41 : An := (.two .o (.two (.two .o (.two (.two .o .o) .o)) (.two .o .o)))
noncomputable def b41 : Code := bodyOf Go.Proofs.Try.f41
theorem k41 (F g : Nat) (a0 : AV) (h : H) : callD Go.Proofs.Try.prog (Env.add (Env.add (fun _ _ _ => none : Env) 15 (u1 (c15 F g))) 63 (u1 (c63 F g))) 9 F b41 [2, 3] A41 [a0] h = c41 F g a0 h := by kernel_rfl
theorem s41 (F g : Nat) : ∀ args h r, u1 (c41 F g) args h = some r → Tri Go.Proofs.Try.prog 41 args h r := by
  intro args h r e; obtain ⟨a0, rfl, e1⟩ := u1_some e; exact fn_sound Go.Proofs.Try.func41 rfl rfl rfl Go.Proofs.Try.ntmps41 (Sound.add (Sound.add (Sound.none _) (s15 F g)) (s63 F g)) ((k41 F g a0 h).trans e1)

-- "math/bits.Len32"
noncomputable def c95_j1 (F g : Nat) (vs : List AV) (h : H) : Option R := (fun x3 x4 => aConvI 4 x3 h fun x5 h => aIdxStr (AV.str [0, 1, 2, 2, 3, 3, 3, 3, 4, 4, 4, 4, 4, 4, 4, 4, 5, 5, 5, 5, 5, 5, 5, 5, 5, 5, 5, 5, 5, 5, 5, 5, 6, 6, 6, 6, 6, 6, 6, 6, 6, 6, 6, 6, 6, 6, 6, 6, 6, 6, 6, 6, 6, 6, 6, 6, 6, 6, 6, 6, 6, 6, 6, 6, 7, 7, 7, 7, 7, 7, 7, 7, 7, 7, 7, 7, 7, 7, 7, 7, 7, 7, 7, 7, 7, 7, 7, 7, 7, 7, 7, 7, 7, 7, 7, 7, 7, 7, 7, 7, 7, 7, 7, 7, 7, 7, 7, 7, 7, 7, 7, 7, 7, 7, 7, 7, 7, 7, 7, 7, 7, 7, 7, 7, 7, 7, 7, 7, 8, 8, 8, 8, 8, 8, 8, 8, 8, 8, 8, 8, 8, 8, 8, 8, 8, 8, 8, 8, 8, 8, 8, 8, 8, 8, 8, 8, 8, 8, 8, 8, 8, 8, 8, 8, 8, 8, 8, 8, 8, 8, 8, 8, 8, 8, 8, 8, 8, 8, 8, 8, 8, 8, 8, 8, 8, 8, 8, 8, 8, 8, 8, 8, 8, 8, 8, 8, 8, 8, 8, 8, 8, 8, 8, 8, 8, 8, 8, 8, 8, 8, 8, 8, 8, 8, 8, 8, 8, 8, 8, 8, 8, 8, 8, 8, 8, 8, 8, 8, 8, 8, 8, 8, 8, 8, 8, 8, 8, 8, 8, 8, 8, 8, 8, 8, 8, 8, 8, 8, 8, 8, 8, 8, 8, 8, 8, 8] 256) x5 h fun x6 h => aConvI 3 x6 h fun x7 h => aArith iadd x4 x7 h fun x8 h => some (x8, h)) (hd vs) (hd (tl vs))
noncomputable def c95_j2 (F g : Nat) (vs : List AV) (h : H) : Option R := (fun x1 x2 => aCmpI (fun a b => ile b a) x1 (AV.int 6 (Int.ofNat 256)) h fun x9 h => withBool x9 fun t10 => bc t10 (aShr x1 (AV.int 7 (Int.ofNat 8)) h fun x11 h => aArith iadd x2 (AV.int 3 (Int.ofNat 8)) h fun x12 h => (c95_j1 F g) [x11, x12] h) ((c95_j1 F g) [x1, x2] h)) (hd vs) (hd (tl vs))
noncomputable def c95 (F g : Nat) (a0 : AV) (h : H) : Option R := aCmpI (fun a b => ile b a) a0 (AV.int 6 (Int.ofNat 65536)) h fun x13 h => withBool x13 fun t14 => bc t14 (aShr a0 (AV.int 7 (Int.ofNat 16)) h fun x15 h => (c95_j2 F g) [x15, (AV.int 3 (Int.ofNat 16))] h) ((c95_j2 F g) [a0, (AV.int 3 (Int.ofNat 0))] h)
noncomputable def A95 : An := (.two .o (.at_ [0, 2] (.two .o (.two (.two .o .o) .o)) (.at_ [0, 2] (.two .o (.two (.two .o .o) .o)) (.two .o .o))))
noncomputable def b95 : Code := bodyOf Go.Proofs.Try.f95
theorem k95 (F g : Nat) (a0 : AV) (h : H) : callD Go.Proofs.Try.prog (fun _ _ _ => none : Env) 19 F b95 [2] A95 [a0] h = c95 F g a0 h := by kernel_rfl
theorem s95 (F g : Nat) : ∀ args h r, u1 (c95 F g) args h = some r → Tri Go.Proofs.Try.prog 95 args h r := by
  intro args h r e; obtain ⟨a0, rfl, e1⟩ := u1_some e; exact fn_sound Go.Proofs.Try.func95 rfl rfl rfl Go.Proofs.Try.ntmps95 (Sound.none _) ((k95 F g a0 h).trans e1)

-- "math/bits.Len64"
noncomputable def c96_j1 (F g : Nat) (vs : List AV) (h : H) : Option R := (fun x5 x6 => aConvI 4 x5 h fun x7 h => aIdxStr (AV.str [0, 1, 2, 2, 3, 3, 3, 3, 4, 4, 4, 4, 4, 4, 4, 4, 5, 5, 5, 5, 5, 5, 5, 5, 5, 5, 5, 5, 5, 5, 5, 5, 6, 6, 6, 6, 6, 6, 6, 6, 6, 6, 6, 6, 6, 6, 6, 6, 6, 6, 6, 6, 6, 6, 6, 6, 6, 6, 6, 6, 6, 6, 6, 6, 7, 7, 7, 7, 7, 7, 7, 7, 7, 7, 7, 7, 7, 7, 7, 7, 7, 7, 7, 7, 7, 7, 7, 7, 7, 7, 7, 7, 7, 7, 7, 7, 7, 7, 7, 7, 7, 7, 7, 7, 7, 7, 7, 7, 7, 7, 7, 7, 7, 7, 7, 7, 7, 7, 7, 7, 7, 7, 7, 7, 7, 7, 7, 7, 8, 8, 8, 8, 8, 8, 8, 8, 8, 8, 8, 8, 8, 8, 8, 8, 8, 8, 8, 8, 8, 8, 8, 8, 8, 8, 8, 8, 8, 8, 8, 8, 8, 8, 8, 8, 8, 8, 8, 8, 8, 8, 8, 8, 8, 8, 8, 8, 8, 8, 8, 8, 8, 8, 8, 8, 8, 8, 8, 8, 8, 8, 8, 8, 8, 8, 8, 8, 8, 8, 8, 8, 8, 8, 8, 8, 8, 8, 8, 8, 8, 8, 8, 8, 8, 8, 8, 8, 8, 8, 8, 8, 8, 8, 8, 8, 8, 8, 8, 8, 8, 8, 8, 8, 8, 8, 8, 8, 8, 8, 8, 8, 8, 8, 8, 8, 8, 8, 8, 8, 8, 8, 8, 8, 8, 8, 8, 8] 256) x7 h fun x8 h => aConvI 3 x8 h fun x9 h => aArith iadd x6 x9 h fun x10 h => some (x10, h)) (hd vs) (hd (tl vs))
noncomputable def c96_j2 (F g : Nat) (vs : List AV) (h : H) : Option R := (fun x3 x4 => aCmpI (fun a b => ile b a) x3 (AV.int 7 (Int.ofNat 256)) h fun x11 h => withBool x11 fun t12 => bc t12 (aShr x3 (AV.int 7 (Int.ofNat 8)) h fun x13 h => aArith iadd x4 (AV.int 3 (Int.ofNat 8)) h fun x14 h => (c96_j1 F g) [x13, x14] h) ((c96_j1 F g) [x3, x4] h)) (hd vs) (hd (tl vs))
noncomputable def c96_j3 (F g : Nat) (vs : List AV) (h : H) : Option R := (fun x1 x2 => aCmpI (fun a b => ile b a) x1 (AV.int 7 (Int.ofNat 65536)) h fun x15 h => withBool x15 fun t16 => bc t16 (aShr x1 (AV.int 7 (Int.ofNat 16)) h fun x17 h => aArith iadd x2 (AV.int 3 (Int.ofNat 16)) h fun x18 h => (c96_j2 F g) [x17, x18] h) ((c96_j2 F g) [x1, x2] h)) (hd vs) (hd (tl vs))
noncomputable def c96 (F g : Nat) (a0 : AV) (h : H) : Option R := aCmpI (fun a b => ile b a) a0 (AV.int 7 (Int.ofNat 4294967296)) h fun x19 h => withBool x19 fun t20 => bc t20 (aShr a0 (AV.int 7 (Int.ofNat 32)) h fun x21 h => (c96_j3 F g) [x21, (AV.int 3 (Int.ofNat 32))] h) ((c96_j3 F g) [a0, (AV.int 3 (Int.ofNat 0))] h)
noncomputable def A96 : An := (.two .o (.at_ [0, 2] (.two .o (.two (.two .o .o) .o)) (.at_ [0, 2] (.two .o (.two (.two .o .o) .o)) (.at_ [0, 2] (.two .o (.two (.two .o .o) .o)) (.two .o .o)))))
noncomputable def b96 : Code := bodyOf Go.Proofs.Try.f96
theorem k96 (F g : Nat) (a0 : AV) (h : H) : callD Go.Proofs.Try.prog (fun _ _ _ => none : Env) 25 F b96 [2] A96 [a0] h = c96 F g a0 h := by kernel_rfl
theorem s96 (F g : Nat) : ∀ args h r, u1 (c96 F g) args h = some r → Tri Go.Proofs.Try.prog 96 args h r := by
  intro args h r e; obtain ⟨a0, rfl, e1⟩ := u1_some e; exact fn_sound Go.Proofs.Try.func96 rfl rfl rfl Go.Proofs.Try.ntmps96 (Sound.none _) ((k96 F g a0 h).trans e1)

-- "math/bits.Len"
noncomputable def c80 (F g : Nat) (a0 : AV) (h : H) : Option R := withBool (AV.bool false) fun t1 => bc t1 (aConvI 6 a0 h fun x2 h => bindR (c95 F g x2 h) fun x3 h => some (x3, h)) (bindR (c96 F g a0 h) fun x4 h => some (x4, h))
noncomputable def A80 : An := (.two .o (.two (.two (.two .o .o) .o) (.two .o .o)))
noncomputable def b80 : Code := bodyOf Go.Proofs.Try.f80
theorem k80 (F g : Nat) (a0 : AV) (h : H) : callD Go.Proofs.Try.prog (Env.add (Env.add (fun _ _ _ => none : Env) 95 (u1 (c95 F g))) 96 (u1 (c96 F g))) 8 F b80 [2] A80 [a0] h = c80 F g a0 h := by kernel_rfl
theorem s80 (F g : Nat) : ∀ args h r, u1 (c80 F g) args h = some r → Tri Go.Proofs.Try.prog 80 args h r := by
  intro args h r e; obtain ⟨a0, rfl, e1⟩ := u1_some e; exact fn_sound Go.Proofs.Try.func80 rfl rfl rfl Go.Proofs.Try.ntmps80 (Sound.add (Sound.add (Sound.none _) (s95 F g)) (s96 F g)) ((k80 F g a0 h).trans e1)

-- "loop.example/treenumbers/impl.compareTexts"
noncomputable def c74 (F g : Nat) (a0 a1 : AV) (h : H) : Option R := bindR (c54 F g a0 h) fun x1 h => bindR (c54 F g a1 h) fun x2 h => bindR (c81 F g x1 x2 h) fun x3 h => some (x3, h)
noncomputable def A74 : An := (.two .o (.two .o .o))
noncomputable def b74 : Code := bodyOf Go.Proofs.Try.f74
theorem k74 (F g : Nat) (a0 a1 : AV) (h : H) : callD Go.Proofs.Try.prog (Env.add (Env.add (fun _ _ _ => none : Env) 54 (u1 (c54 F g))) 81 (u2 (c81 F g))) 10 F b74 [4] A74 [a0, a1] h = c74 F g a0 a1 h := by kernel_rfl
theorem s74 (F g : Nat) : ∀ args h r, u2 (c74 F g) args h = some r → Tri Go.Proofs.Try.prog 74 args h r := by
  intro args h r e; obtain ⟨a0, a1, rfl, e1⟩ := u2_some e; exact fn_sound Go.Proofs.Try.func74 rfl rfl rfl Go.Proofs.Try.ntmps74 (Sound.add (Sound.add (Sound.none _) (s54 F g)) (s81 F g)) ((k74 F g a0 a1 h).trans e1)

-- "slices.insertionSortCmpFunc[*loop.example/treenumbers/impl.node]"
noncomputable def G87 (F g : Nat) : Env := (Env.add (fun _ _ _ => none : Env) 74 (u2 (c74 F g)))
noncomputable def c87_j1 (F g : Nat) (kc2 : List AV → H → Option R) (kc10 : List AV → H → Option R) (vs : List AV) (h : H) : Option R := (fun x18 x19 x20 x21 x22 x23 x24 x25 => aPick x24 x25 (AV.bool false) h fun x26 _ => withBool x26 fun t27 => bc t27 (aArith isub x23 (AV.int 3 (Int.ofNat 1)) h fun x28 _ => aArith isub x23 (AV.int 3 (Int.ofNat 1)) h fun x29 _ => aIdxAddr 1 x18 x29 h fun x30 _ => aLoad x30 h fun x31 _ => aIdxAddr 1 x18 x23 h fun x32 _ => aLoad x32 h fun x33 _ => aIdxAddr 1 x18 x23 h fun x34 _ => aStore x34 x31 h fun x35 h => aIdxAddr 1 x18 x28 h fun x36 _ => aStore x36 x33 h fun x37 h => aArith isub x23 (AV.int 3 (Int.ofNat 1)) h fun x38 h => kc10 [x18, x19, x20, x21, x22, x38] h) (aArith iadd x22 (AV.int 3 (Int.ofNat 1)) h fun x39 h => kc2 [x18, x19, x20, x21, x39] h)) (hd vs) (hd (tl vs)) (hd (tl (tl vs))) (hd (tl (tl (tl vs)))) (hd (tl (tl (tl (tl vs))))) (hd (tl (tl (tl (tl (tl vs)))))) (hd (tl (tl (tl (tl (tl (tl vs))))))) (hd (tl (tl (tl (tl (tl (tl (tl vs))))))))
noncomputable def c87_l2 (F g : Nat) (kc2 : List AV → H → Option R) : List AV → H → (List AV → H → Option R) → Option R := fun vs h kc10 => (fun x11 x12 x13 x14 x15 x16 => aCmpI (fun a b => ilt b a) x16 x12 h fun x17 _ => guardB true x17 (aIdxAddr 1 x11 x16 h fun x40 _ => aLoad x40 h fun x41 _ => aArith isub x16 (AV.int 3 (Int.ofNat 1)) h fun x42 _ => aIdxAddr 1 x11 x42 h fun x43 _ => aLoad x43 h fun x44 _ => dCall (G87 F g) x14 [x41, x44] h fun x45 h => aCmpI ilt x45 (AV.int 3 (Int.ofNat 0)) h fun x46 _ => (c87_j1 F g kc2 kc10) [x11, x12, x13, x14, x15, x16, x17, x46] h) ((c87_j1 F g kc2 kc10) [x11, x12, x13, x14, x15, x16, x17, (AV.one .tup (AV.leaf .nil))] h)) (hd vs) (hd (tl vs)) (hd (tl (tl vs))) (hd (tl (tl (tl vs)))) (hd (tl (tl (tl (tl vs))))) (hd (tl (tl (tl (tl (tl vs))))))
noncomputable def c87_l3 (F g : Nat) : List AV → H → (List AV → H → Option R) → Option R := fun vs h kc2 => (fun x3 x4 x5 x6 x7 => aCmpI ilt x7 x5 h fun x8 h => withBool x8 fun t9 => bc t9 (loopD F (c87_l2 F g kc2) [x3, x4, x5, x6, x7, x7] h) (some (AV.one .tup (AV.leaf .nil), h))) (hd vs) (hd (tl vs)) (hd (tl (tl vs))) (hd (tl (tl (tl vs)))) (hd (tl (tl (tl (tl vs)))))
noncomputable def c87 (F g : Nat) (a0 a1 a2 a3 : AV) (h : H) : Option R := aArith iadd a1 (AV.int 3 (Int.ofNat 1)) h fun x1 h => loopD F (c87_l3 F g) [a0, a1, a2, a3, x1] h
noncomputable def A87 : An := (.two .o (.two (.at_ [0, 1, 2, 3, 8] (.two (.two .o (.two .o .o)) (.two (.two (.two .o (.two (.at_ [0, 1, 2, 3, 8, 9] (.two (.two (.at_ [0, 1, 2, 3, 8, 9, 21, 33] .o .o) (.two .o .o)) (.two (.two .o .o) .o)) .o) .o)) .o) .o)) .o) .o))
noncomputable def b87 : Code := bodyOf Go.Proofs.Try.f87
theorem k87 (F g : Nat) (a0 a1 a2 a3 : AV) (h : H) : callD Go.Proofs.Try.prog (G87 F g) 53 F b87 [] A87 [a0, a1, a2, a3] h = c87 F g a0 a1 a2 a3 h := by kernel_rfl
theorem s87 (F g : Nat) : ∀ args h r, u4 (c87 F g) args h = some r → Tri Go.Proofs.Try.prog 87 args h r := by
  intro args h r e; obtain ⟨a0, a1, a2, a3, rfl, e1⟩ := u4_some e; exact fn_sound Go.Proofs.Try.func87 rfl rfl rfl Go.Proofs.Try.ntmps87 (Sound.add (Sound.none _) (s74 F g)) ((k87 F g a0 a1 a2 a3 h).trans e1)

-- "slices.pdqsortCmpFunc[*loop.example/treenumbers/impl.node]"
noncomputable def c79_j1 (F g : Nat) (vs : List AV) (h : H) : Option R := (fun x15 x16 x17 x18 x19 x20 x21 x22 => none) (hd vs) (hd (tl vs)) (hd (tl (tl vs))) (hd (tl (tl (tl vs)))) (hd (tl (tl (tl (tl vs))))) (hd (tl (tl (tl (tl (tl vs)))))) (hd (tl (tl (tl (tl (tl (tl vs))))))) (hd (tl (tl (tl (tl (tl (tl (tl vs))))))))
noncomputable def c79_l2 (F g : Nat) : List AV → H → (List AV → H → Option R) → Option R := fun vs h kc1 => (fun x2 x3 x4 x5 x6 x7 x8 => aArith isub x4 x3 h fun x9 h => aCmpI ile x9 (AV.int 3 (Int.ofNat 12)) h fun x10 h => withBool x10 fun t11 => bc t11 (bindR (c87 F g x2 x3 x4 x6 h) fun x12 h => some (AV.one .tup (AV.leaf .nil), h)) (aCmpI ieq x5 (AV.int 3 (Int.ofNat 0)) h fun x13 h => withBool x13 fun t14 => bc t14 (none) (aNot x7 h fun x23 h => withBool x23 fun t24 => bc t24 (none) ((c79_j1 F g) [x2, x3, x4, x5, x6, x7, x8, x9] h)))) (hd vs) (hd (tl vs)) (hd (tl (tl vs))) (hd (tl (tl (tl vs)))) (hd (tl (tl (tl (tl vs))))) (hd (tl (tl (tl (tl (tl vs)))))) (hd (tl (tl (tl (tl (tl (tl vs)))))))
noncomputable def c79 (F g : Nat) (a0 a1 a2 a3 a4 : AV) (h : H) : Option R := loopD F (c79_l2 F g) [a0, a1, a2, a3, a4, (AV.bool true), (AV.bool true)] h
noncomputable def A79 : An := (.two .o (.two .o (.two (.at_ [0, 1, 2, 3, 4, 10, 11] (.two (.two .o (.two (.two .o (.two (.two .o .o) .o)) (.two (.two .o (.two (.two .o .o) .o)) (.at_ [0, 1, 2, 3, 4, 10, 11, 12] (.two .o (.two (.two .o .o) .o)) (.two .o (.at_ [0, 1, 2, 3, 4, 10, 11, 12, 13, 14] (.two .o (.two (.two .o (.two .o .o)) .o)) (.at_ [0, 1, 2, 3, 4, 10, 11, 12, 13] (.two (.at_ [0, 1, 2, 3, 4, 10, 11, 12, 13, 14, 69, 70] .o (.at_ [0, 1, 2, 3, 4, 10, 11, 12, 13, 72, 74] .o .o)) (.two (.two .o (.two .o .o)) .o)) (.two (.two (.at_ [0, 1, 2, 3, 4, 10, 11, 12, 13, 83, 96] .o .o) (.two (.two .o (.two .o .o)) .o)) (.two .o (.two .o (.two .o (.two .o (.two .o (.two (.two .o (.two .o .o)) (.two .o (.two .o .o)))))))))))))))) .o) .o) .o)))
noncomputable def b79 : Code := bodyOf Go.Proofs.Try.f79
theorem k79 (F g : Nat) (a0 a1 a2 a3 a4 : AV) (h : H) : callD Go.Proofs.Try.prog (Env.add (fun _ _ _ => none : Env) 87 (u4 (c87 F g))) 148 F b79 [] A79 [a0, a1, a2, a3, a4] h = c79 F g a0 a1 a2 a3 a4 h := by kernel_rfl
theorem s79 (F g : Nat) : ∀ args h r, u5 (c79 F g) args h = some r → Tri Go.Proofs.Try.prog 79 args h r := by
  intro args h r e; obtain ⟨a0, a1, a2, a3, a4, rfl, e1⟩ := u5_some e; exact fn_sound Go.Proofs.Try.func79 rfl rfl rfl Go.Proofs.Try.ntmps79 (Sound.add (Sound.none _) (s87 F g)) ((k79 F g a0 a1 a2 a3 a4 h).trans e1)

-- "slices.SortFunc[[]*loop.example/treenumbers/impl.node,*loop.example/treenumbers/impl.node]"
noncomputable def c73 (F g : Nat) (a0 a1 : AV) (h : H) : Option R := aLenK 1 a0 h fun x1 h => aConvI 7 x1 h fun x2 h => bindR (c80 F g x2 h) fun x3 h => bindR (c79 F g a0 (AV.int 3 (Int.ofNat 0)) x1 x3 a1 h) fun x4 h => some (AV.one .tup (AV.leaf .nil), h)
noncomputable def A73 : An := (.two .o .o)
noncomputable def b73 : Code := bodyOf Go.Proofs.Try.f73
theorem k73 (F g : Nat) (a0 a1 : AV) (h : H) : callD Go.Proofs.Try.prog (Env.add (Env.add (fun _ _ _ => none : Env) 80 (u1 (c80 F g))) 79 (u5 (c79 F g))) 14 F b73 [] A73 [a0, a1] h = c73 F g a0 a1 h := by kernel_rfl
theorem s73 (F g : Nat) : ∀ args h r, u2 (c73 F g) args h = some r → Tri Go.Proofs.Try.prog 73 args h r := by
  intro args h r e; obtain ⟨a0, a1, rfl, e1⟩ := u2_some e; exact fn_sound Go.Proofs.Try.func73 rfl rfl rfl Go.Proofs.Try.ntmps73 (Sound.add (Sound.add (Sound.none _) (s80 F g)) (s79 F g)) ((k73 F g a0 a1 h).trans e1)

-- "(*loop.example/treenumbers/impl.node).sort"
noncomputable def c64_l1 (F g : Nat) (self : AV → H → Option R) : List AV → H → (List AV → H → Option R) → Option R := fun vs h kc5 => (fun x6 x7 x8 x9 => aCmpI ilt x9 x8 h fun x10 h => withBool x10 fun t11 => bc t11 (aIdxAddr 1 x7 x9 h fun x12 h => aLoad x12 h fun x13 h => bindR (self x13 h) fun x14 h => aArith iadd x9 (AV.int 3 (Int.ofNat 1)) h fun x15 h => kc5 [x6, x7, x8, x15] h) (aNilCheck x6 h fun x16 h => aField 2 x16 h fun x17 h => aLoad x17 h fun x18 h => bindR (c73 F g x18 (AV.func (.func 74) (AV.leaf .nil) (AV.leaf .nil)) h) fun x19 h => some (AV.one .tup (AV.leaf .nil), h))) (hd vs) (hd (tl vs)) (hd (tl (tl vs))) (hd (tl (tl (tl vs))))
noncomputable def c64 (F g : Nat) : AV → H → Option R := Nat.rec (motive := fun _ => AV → H → Option R) (fun _ _ => none) (fun g self a0 h => aNilCheck a0 h fun x1 h => aField 2 x1 h fun x2 h => aLoad x2 h fun x3 h => aLenK 1 x3 h fun x4 h => loopD F (c64_l1 F g self) [a0, x3, x4, (AV.int 3 (Int.ofNat 0))] h) g
noncomputable def A64 : An := (.two (.two .o (.two (.at_ [0, 7, 8, 9] (.two .o (.two (.two .o .o) (.two (.two (.two .o .o) .o) .o))) .o) .o)) .o)
noncomputable def b64 : Code := bodyOf Go.Proofs.Try.f64
theorem k64 (F g : Nat) (a0 : AV) (h : H) : callD Go.Proofs.Try.prog (Env.add (Env.add (Env.add (fun _ _ _ => none : Env) 73 (u2 (c73 F g))) 74 (u2 (c74 F g))) 64 (u1 (c64 F g))) 21 F b64 [] A64 [a0] h = c64 F (g + 1) a0 h := by kernel_rfl
theorem s64 (F g : Nat) : ∀ args h r, u1 (c64 F g) args h = some r → Tri Go.Proofs.Try.prog 64 args h r := by
  induction g with
  | zero => intro args h r e; obtain ⟨a0, rfl, e⟩ := u1_some e; cases e
  | succ g ih => intro args h r e; obtain ⟨a0, rfl, e1⟩ := u1_some e; exact fn_sound Go.Proofs.Try.func64 rfl rfl rfl Go.Proofs.Try.ntmps64 (Sound.add (Sound.add (Sound.add (Sound.none _) (s73 F g)) (s74 F g)) ih) ((k64 F g a0 h).trans e1)

-- "loop.example/treenumbers/impl.TreeSorted"
noncomputable def c42 (F g : Nat) (a0 : AV) (h : H) : Option R := bindR (c47 F g a0 h) fun x1 h => aExtract x1 0 h fun x2 h => aExtract x1 1 h fun x3 h => aNot x3 h fun x4 h => withBool x4 fun t5 => bc t5 (some (AV.one .tup (AV.cons (AV.str [] 0) (AV.cons (AV.bool false) (AV.leaf .nil))), h)) (bindR (c64 F g x2 h) fun x6 h => bindR (c54 F g x2 h) fun x7 h => some (AV.one .tup (AV.cons x7 (AV.cons (AV.bool true) (AV.leaf .nil))), h))
noncomputable def A42 : An := (.two .o (.two .o (.two (.two .o (.two (.two .o .o) .o)) (.two .o (.two .o .o)))))
noncomputable def b42 : Code := bodyOf Go.Proofs.Try.f42
theorem k42 (F g : Nat) (a0 : AV) (h : H) : callD Go.Proofs.Try.prog (Env.add (Env.add (Env.add (fun _ _ _ => none : Env) 47 (u1 (c47 F g))) 64 (u1 (c64 F g))) 54 (u1 (c54 F g))) 17 F b42 [2, 3] A42 [a0] h = c42 F g a0 h := by kernel_rfl
theorem s42 (F g : Nat) : ∀ args h r, u1 (c42 F g) args h = some r → Tri Go.Proofs.Try.prog 42 args h r := by
  intro args h r e; obtain ⟨a0, rfl, e1⟩ := u1_some e; exact fn_sound Go.Proofs.Try.func42 rfl rfl rfl Go.Proofs.Try.ntmps42 (Sound.add (Sound.add (Sound.add (Sound.none _) (s47 F g)) (s64 F g)) (s54 F g)) ((k42 F g a0 h).trans e1)

-- "loop.example/treenumbers/laws.FnExactTreeSorted"
noncomputable def c12_j1 (F g : Nat) (vs : List AV) (h : H) : Option R := (fun x11 x12 => aPick x11 (AV.bool true) x12 h fun x13 h => withBool x13 fun t14 => bc t14 (some ((AV.bool false), h)) (some ((AV.bool true), h))) (hd vs) (hd (tl vs))
noncomputable def c12 (F g : Nat) (a0 : AV) (h : H) : Option R := aLenK 0 a0 h fun x1 h => aCmpI (fun a b => ilt b a) x1 (AV.int 3 (Int.ofNat 1048576)) h fun x2 h => withBool x2 fun t3 => bc t3 (some ((AV.bool true), h)) (bindR (c41 F g a0 h) fun x4 h => aExtract x4 0 h fun x5 h => aExtract x4 1 h fun x6 h => bindR (c42 F g a0 h) fun x7 h => aExtract x7 0 h fun x8 h => aExtract x7 1 h fun x9 h => aCmpS (fun a b => bnot (eqL a b)) x8 x5 h fun x10 h => guardB false x10 (aEq true 0 x9 x6 h fun x15 h => (c12_j1 F g) [x10, x15] h) ((c12_j1 F g) [x10, (AV.one .tup (AV.leaf .nil))] h))
noncomputable def A12 : An := (.two .o (.two (.two .o (.two (.two .o .o) .o)) (.two .o (.two .o (.two (.two (.at_ [23, 26] .o .o) (.two (.two .o .o) .o)) (.two .o .o))))))
noncomputable def b12 : Code := bodyOf Go.Proofs.Try.f12
theorem k12 (F g : Nat) (a0 : AV) (h : H) : callD Go.Proofs.Try.prog (Env.add (Env.add (fun _ _ _ => none : Env) 41 (u1 (c41 F g))) 42 (u1 (c42 F g))) 28 F b12 [2] A12 [a0] h = c12 F g a0 h := by kernel_rfl
theorem s12 (F g : Nat) : ∀ args h r, u1 (c12 F g) args h = some r → Tri Go.Proofs.Try.prog 12 args h r := by
  intro args h r e; obtain ⟨a0, rfl, e1⟩ := u1_some e; exact fn_sound Go.Proofs.Try.func12 rfl rfl rfl Go.Proofs.Try.ntmps12 (Sound.add (Sound.add (Sound.none _) (s41 F g)) (s42 F g)) ((k12 F g a0 h).trans e1)

-- "loop.example/treenumbers/spec.TreeAlike"
noncomputable def c43_j1 (F g : Nat) (vs : List AV) (h : H) : Option R := (fun x7 x8 => aPick x7 x8 (AV.bool false) h fun x9 h => some (x9, h)) (hd vs) (hd (tl vs))
noncomputable def c43_j2 (F g : Nat) (vs : List AV) (h : H) : Option R := (fun x2 x3 x4 x5 => aPick x4 x5 (AV.bool false) h fun x6 h => guardB true x6 (bindR (c63 F g x2 h) fun x10 h => bindR (c63 F g x3 h) fun x11 h => aCmpS eqL x10 x11 h fun x12 h => (c43_j1 F g) [x6, x12] h) ((c43_j1 F g) [x6, (AV.one .tup (AV.leaf .nil))] h)) (hd vs) (hd (tl vs)) (hd (tl (tl vs))) (hd (tl (tl (tl vs))))
noncomputable def c43 (F g : Nat) (a0 a1 : AV) (h : H) : Option R := bindR (c15 F g a0 h) fun x1 h => guardB true x1 (bindR (c15 F g a1 h) fun x13 h => (c43_j2 F g) [a0, a1, x1, x13] h) ((c43_j2 F g) [a0, a1, x1, (AV.one .tup (AV.leaf .nil))] h)
noncomputable def A43 : An := (.two .o (.two (.at_ [0, 1, 7, 9] .o (.at_ [11, 16] .o .o)) .o))
noncomputable def b43 : Code := bodyOf Go.Proofs.Try.f43
theorem k43 (F g : Nat) (a0 a1 : AV) (h : H) : callD Go.Proofs.Try.prog (Env.add (Env.add (fun _ _ _ => none : Env) 15 (u1 (c15 F g))) 63 (u1 (c63 F g))) 18 F b43 [4] A43 [a0, a1] h = c43 F g a0 a1 h := by kernel_rfl
theorem s43 (F g : Nat) : ∀ args h r, u2 (c43 F g) args h = some r → Tri Go.Proofs.Try.prog 43 args h r := by
  intro args h r e; obtain ⟨a0, a1, rfl, e1⟩ := u2_some e; exact fn_sound Go.Proofs.Try.func43 rfl rfl rfl Go.Proofs.Try.ntmps43 (Sound.add (Sound.add (Sound.none _) (s15 F g)) (s63 F g)) ((k43 F g a0 a1 h).trans e1)

-- "loop.example/treenumbers/impl.TreeAlike"
noncomputable def c44_j1 (F g : Nat) (vs : List AV) (h : H) : Option R := (fun x12 x13 => aPick x12 x13 (AV.bool false) h fun x14 h => some (x14, h)) (hd vs) (hd (tl vs))
noncomputable def c44_j2 (F g : Nat) (vs : List AV) (h : H) : Option R := (fun x7 x8 x9 x10 => aPick x9 x10 (AV.bool false) h fun x11 h => guardB true x11 (aCmpS eqL x7 x8 h fun x15 h => (c44_j1 F g) [x11, x15] h) ((c44_j1 F g) [x11, (AV.one .tup (AV.leaf .nil))] h)) (hd vs) (hd (tl vs)) (hd (tl (tl vs))) (hd (tl (tl (tl vs))))
noncomputable def c44 (F g : Nat) (a0 a1 : AV) (h : H) : Option R := bindR (c42 F g a0 h) fun x1 h => aExtract x1 0 h fun x2 h => aExtract x1 1 h fun x3 h => bindR (c42 F g a1 h) fun x4 h => aExtract x4 0 h fun x5 h => aExtract x4 1 h fun x6 h => guardB true x3 ((c44_j2 F g) [x2, x5, x3, x6] h) ((c44_j2 F g) [x2, x5, x3, (AV.one .tup (AV.leaf .nil))] h)
noncomputable def A44 : An := (.two .o (.two .o (.two .o (.two (.at_ [5, 7, 20, 21] .o (.at_ [23, 26] .o .o)) .o))))
noncomputable def b44 : Code := bodyOf Go.Proofs.Try.f44
theorem k44 (F g : Nat) (a0 a1 : AV) (h : H) : callD Go.Proofs.Try.prog (Env.add (fun _ _ _ => none : Env) 42 (u1 (c42 F g))) 28 F b44 [4] A44 [a0, a1] h = c44 F g a0 a1 h := by kernel_rfl
theorem s44 (F g : Nat) : ∀ args h r, u2 (c44 F g) args h = some r → Tri Go.Proofs.Try.prog 44 args h r := by
  intro args h r e; obtain ⟨a0, a1, rfl, e1⟩ := u2_some e; exact fn_sound Go.Proofs.Try.func44 rfl rfl rfl Go.Proofs.Try.ntmps44 (Sound.add (Sound.none _) (s42 F g)) ((k44 F g a0 a1 h).trans e1)

-- "loop.example/treenumbers/laws.FnExactTreeAlike"
noncomputable def c13 (F g : Nat) (a0 a1 : AV) (h : H) : Option R := aLenK 0 a0 h fun x1 h => aCmpI (fun a b => ilt b a) x1 (AV.int 3 (Int.ofNat 1048576)) h fun x2 h => withBool x2 fun t3 => bc t3 (some ((AV.bool true), h)) (aLenK 0 a1 h fun x4 h => aCmpI (fun a b => ilt b a) x4 (AV.int 3 (Int.ofNat 1048576)) h fun x5 h => withBool x5 fun t6 => bc t6 (some ((AV.bool true), h)) (bindR (c43 F g a0 a1 h) fun x7 h => bindR (c44 F g a0 a1 h) fun x8 h => aEq true 0 x8 x7 h fun x9 h => withBool x9 fun t10 => bc t10 (some ((AV.bool false), h)) (some ((AV.bool true), h))))
noncomputable def A13 : An := (.two .o (.two (.two .o (.two (.two .o .o) .o)) (.two (.two .o (.two (.two .o .o) .o)) (.two .o (.two .o (.two (.two .o (.two (.two .o .o) .o)) (.two .o .o)))))))
noncomputable def b13 : Code := bodyOf Go.Proofs.Try.f13
theorem k13 (F g : Nat) (a0 a1 : AV) (h : H) : callD Go.Proofs.Try.prog (Env.add (Env.add (fun _ _ _ => none : Env) 43 (u2 (c43 F g))) 44 (u2 (c44 F g))) 22 F b13 [4] A13 [a0, a1] h = c13 F g a0 a1 h := by kernel_rfl
theorem s13 (F g : Nat) : ∀ args h r, u2 (c13 F g) args h = some r → Tri Go.Proofs.Try.prog 13 args h r := by
  intro args h r e; obtain ⟨a0, a1, rfl, e1⟩ := u2_some e; exact fn_sound Go.Proofs.Try.func13 rfl rfl rfl Go.Proofs.Try.ntmps13 (Sound.add (Sound.add (Sound.none _) (s43 F g)) (s44 F g)) ((k13 F g a0 a1 h).trans e1)

end
end Go.AI
