/- The functions that the law reaches, as the evaluator reads them. -/
import Derived.Test.YthaideahdggofaaAi
import Derived.Test.YthaideahdggofaaProg
import Derived.KernelRfl

namespace Go.AI
open Go Go.RowKit
set_option linter.unusedVariables false
set_option maxRecDepth 100000
noncomputable section
-- "loop.example/treenumbers/spec.l1End"
noncomputable def c46_j1 (F g : Nat) (kc1 : List AV → H → Option R) (vs : List AV) (h : H) : Option R := (fun x8 x9 x10 => aCmpI ieq x9 (AV.int 3 (Int.ofNat 0)) h fun x11 h => withBool x11 fun t12 => bc t12 (aArith iadd x10 (AV.int 3 (Int.ofNat 1)) h fun x13 h => some (x13, h)) (aCmpI ilt x9 (AV.int 3 (Int.ofNat 0)) h fun x14 h => withBool x14 fun t15 => bc t15 (some ((AV.int 3 (Int.negSucc 0)), h)) (aArith iadd x10 (AV.int 3 (Int.ofNat 1)) h fun x16 h => kc1 [x8, x9, x16] h))) (hd vs) (hd (tl vs)) (hd (tl (tl vs)))
noncomputable def c46_l2 (F g : Nat) : List AV → H → (List AV → H → Option R) → Option R := fun vs h kc1 => (fun x2 x3 x4 => aLenK 0 x2 h fun x5 h => aCmpI ilt x4 x5 h fun x6 h => withBool x6 fun t7 => bc t7 (aIdxStr x2 x4 h fun x17 h => aCmpI ieq x17 (AV.int 4 (Int.ofNat 40)) h fun x18 h => withBool x18 fun t19 => bc t19 (aArith iadd x3 (AV.int 3 (Int.ofNat 1)) h fun x20 h => (c46_j1 F g kc1) [x2, x20, x4] h) (aCmpI ieq x17 (AV.int 4 (Int.ofNat 41)) h fun x21 h => withBool x21 fun t22 => bc t22 (aArith isub x3 (AV.int 3 (Int.ofNat 1)) h fun x23 h => (c46_j1 F g kc1) [x2, x23, x4] h) (some ((AV.int 3 (Int.negSucc 0)), h)))) (some ((AV.int 3 (Int.negSucc 0)), h))) (hd vs) (hd (tl vs)) (hd (tl (tl vs)))
noncomputable def c46 (F g : Nat) (a0 a1 : AV) (h : H) : Option R := loopD F (c46_l2 F g) [a0, (AV.int 3 (Int.ofNat 0)), a1] h
noncomputable def A46 : An := (.two .o (.two .o (.two (.two .o (.two (.at_ [0, 5, 6] (.two (.two .o (.two .o .o)) (.two (.two (.at_ [0, 5, 6] (.two .o (.two (.two .o (.two .o (.two .o (.two .o (.two .o .o))))) .o)) (.two (.two .o (.two (.two .o .o) .o)) (.two .o (.two (.two .o .o) .o)))) .o) .o)) .o) .o)) (.two .o .o))))
noncomputable def b46 : Code := bodyOf Go.Proofs.Try.f46
theorem k46 (F g : Nat) (a0 a1 : AV) (h : H) : callD Go.Proofs.Try.prog (fun _ _ _ => none : Env) 31 F b46 [4] A46 [a0, a1] h = c46 F g a0 a1 h := by kernel_rfl
theorem s46 (F g : Nat) : ∀ args h r, u2 (c46 F g) args h = some r → Tri Go.Proofs.Try.prog 46 args h r := by
  intro args h r e; obtain ⟨a0, a1, rfl, e1⟩ := u2_some e; exact fn_sound Go.Proofs.Try.func46 rfl rfl rfl Go.Proofs.Try.ntmps46 (Sound.none _) ((k46 F g a0 a1 h).trans e1)

-- "loop.example/treenumbers/spec.TreeIn"
noncomputable def c15_j1 (F g : Nat) (vs : List AV) (h : H) : Option R := (fun x7 x8 => aPick x7 x8 (AV.bool false) h fun x9 h => some (x9, h)) (hd vs) (hd (tl vs))
noncomputable def c15_j2 (F g : Nat) (vs : List AV) (h : H) : Option R := (fun x3 x4 x5 => aPick x4 x5 (AV.bool false) h fun x6 h => guardB true x6 (bindR (c46 F g x3 (AV.int 3 (Int.ofNat 0)) h) fun x10 h => aLenK 0 x3 h fun x11 h => aCmpI ieq x10 x11 h fun x12 h => (c15_j1 F g) [x6, x12] h) ((c15_j1 F g) [x6, (AV.one .tup (AV.leaf .nil))] h)) (hd vs) (hd (tl vs)) (hd (tl (tl vs)))
noncomputable def c15 (F g : Nat) (a0 : AV) (h : H) : Option R := aLenK 0 a0 h fun x1 h => aCmpI (fun a b => ilt b a) x1 (AV.int 3 (Int.ofNat 0)) h fun x2 h => guardB true x2 (aLenK 0 a0 h fun x13 h => aCmpI ile x13 (AV.int 3 (Int.ofNat 18)) h fun x14 h => (c15_j2 F g) [a0, x2, x14] h) ((c15_j2 F g) [a0, x2, (AV.one .tup (AV.leaf .nil))] h)
noncomputable def A15 : An := (.two .o (.two (.at_ [0, 6, 9] .o (.at_ [11, 16] .o .o)) .o))
noncomputable def b15 : Code := bodyOf Go.Proofs.Try.f15
theorem k15 (F g : Nat) (a0 : AV) (h : H) : callD Go.Proofs.Try.prog (Env.add (fun _ _ _ => none : Env) 46 (u2 (c46 F g))) 18 F b15 [2] A15 [a0] h = c15 F g a0 h := by kernel_rfl
theorem s15 (F g : Nat) : ∀ args h r, u1 (c15 F g) args h = some r → Tri Go.Proofs.Try.prog 15 args h r := by
  intro args h r e; obtain ⟨a0, rfl, e1⟩ := u1_some e; exact fn_sound Go.Proofs.Try.func15 rfl rfl rfl Go.Proofs.Try.ntmps15 (Sound.add (Sound.none _) (s46 F g)) ((k15 F g a0 h).trans e1)

-- "(*loop.example/treenumbers/impl.node).add"
noncomputable def c66 (F g : Nat) (a0 a1 : AV) (h : H) : Option R := aBuild [(AV.int 3 (Int.ofNat 0)), (AV.leaf .nilp), (AV.leaf .nils)] [(0, 1, a1), (1, 1, a0)] h fun x1 h => aBox x1 h fun x2 h => aNilCheck a0 h fun x3 h => aField 2 x3 h fun x4 h => aLoad x4 h fun x5 h => aBuildSlice 1 1 [(0, 1, x2)] h fun x6 h => aAppend 1 8 x5 x6 h fun x7 h => aNilCheck a0 h fun x8 h => aField 2 x8 h fun x9 h => aStore x9 x7 h fun x10 h => some (x2, h)
noncomputable def A66 : An := (.two .o (.two .o (.two .o (.two .o .o))))
noncomputable def b66 : Code := bodyOf Go.Proofs.Try.f66
theorem k66 (F g : Nat) (a0 a1 : AV) (h : H) : callD Go.Proofs.Try.prog (fun _ _ _ => none : Env) 21 F b66 [4] A66 [a0, a1] h = c66 F g a0 a1 h := by kernel_rfl
theorem s66 (F g : Nat) : ∀ args h r, u2 (c66 F g) args h = some r → Tri Go.Proofs.Try.prog 66 args h r := by
  intro args h r e; obtain ⟨a0, a1, rfl, e1⟩ := u2_some e; exact fn_sound Go.Proofs.Try.func66 rfl rfl rfl Go.Proofs.Try.ntmps66 (Sound.none _) ((k66 F g a0 a1 h).trans e1)

-- "loop.example/treenumbers/impl.readTree"
noncomputable def c47_j1 (F g : Nat) (vs : List AV) (h : H) : Option R := (fun x12 x13 x14 => aPick x13 (AV.bool true) x14 h fun x15 h => withBool x15 fun t16 => bc t16 (some (AV.one .tup (AV.cons (AV.leaf .nilp) (AV.cons (AV.bool false) (AV.leaf .nil))), h)) (some (AV.one .tup (AV.cons x12 (AV.cons (AV.bool true) (AV.leaf .nil))), h))) (hd vs) (hd (tl vs)) (hd (tl (tl vs)))
noncomputable def c47_j2 (F g : Nat) (vs : List AV) (h : H) : Option R := (fun x7 x8 x9 x10 => aPick x9 (AV.bool true) x10 h fun x11 h => guardB false x11 (aEq true 1 x8 (AV.leaf .nilp) h fun x17 h => (c47_j1 F g) [x7, x11, x17] h) ((c47_j1 F g) [x7, x11, (AV.one .tup (AV.leaf .nil))] h)) (hd vs) (hd (tl vs)) (hd (tl (tl vs))) (hd (tl (tl (tl vs))))
noncomputable def c47_j3 (F g : Nat) (vs : List AV) (h : H) : Option R := (fun x1 x2 x3 x4 => aLenK 0 x1 h fun x5 h => aCmpI ilt x4 x5 h fun x6 h => guardB false x6 (aEq false 1 x2 (AV.leaf .nilp) h fun x18 h => (c47_j2 F g) [x2, x3, x6, x18] h) ((c47_j2 F g) [x2, x3, x6, (AV.one .tup (AV.leaf .nil))] h)) (hd vs) (hd (tl vs)) (hd (tl (tl vs))) (hd (tl (tl (tl vs))))
noncomputable def c47_j4 (F g : Nat) (kc19 : List AV → H → Option R) (vs : List AV) (h : H) : Option R := (fun x28 x29 x30 x31 x32 => aArith iadd x32 (AV.int 3 (Int.ofNat 1)) h fun x33 h => kc19 [x28, x29, x30, x31, x33] h) (hd vs) (hd (tl vs)) (hd (tl (tl vs))) (hd (tl (tl (tl vs)))) (hd (tl (tl (tl (tl vs)))))
noncomputable def c47_j5 (F g : Nat) (kc19 : List AV → H → Option R) (vs : List AV) (h : H) : Option R := (fun x72 x73 x74 x75 x76 x77 x78 => aPick x77 x78 (AV.bool false) h fun x79 h => withBool x79 fun t80 => bc t80 (bindR (c66 F g x74 x75 h) fun x81 h => aArith iadd x75 (AV.int 3 (Int.ofNat 1)) h fun x82 h => (c47_j4 F g kc19) [x72, x73, x81, x82, x76] h) ((c47_j3 F g) [x72, x73, x74, x76] h)) (hd vs) (hd (tl vs)) (hd (tl (tl vs))) (hd (tl (tl (tl vs)))) (hd (tl (tl (tl (tl vs))))) (hd (tl (tl (tl (tl (tl vs)))))) (hd (tl (tl (tl (tl (tl (tl vs)))))))
noncomputable def c47_j6 (F g : Nat) (kc19 : List AV → H → Option R) (vs : List AV) (h : H) : Option R := (fun x64 x65 x66 x67 x68 x69 x70 => aPick x69 x70 (AV.bool false) h fun x71 h => guardB true x71 (aCmpI ilt x67 (AV.int 3 (Int.ofNat 9)) h fun x83 h => (c47_j5 F g kc19) [x64, x65, x66, x67, x68, x71, x83] h) ((c47_j5 F g kc19) [x64, x65, x66, x67, x68, x71, (AV.one .tup (AV.leaf .nil))] h)) (hd vs) (hd (tl vs)) (hd (tl (tl vs))) (hd (tl (tl (tl vs)))) (hd (tl (tl (tl (tl vs))))) (hd (tl (tl (tl (tl (tl vs)))))) (hd (tl (tl (tl (tl (tl (tl vs)))))))
noncomputable def c47_j7 (F g : Nat) (kc19 : List AV → H → Option R) (vs : List AV) (h : H) : Option R := (fun x50 x51 x52 x53 x54 x55 x56 => aPick x55 x56 (AV.bool false) h fun x57 h => withBool x57 fun t58 => bc t58 (aBuild [(AV.int 3 (Int.ofNat 0)), (AV.leaf .nilp), (AV.leaf .nils)] [] h fun x59 h => aBox x59 h fun x60 h => aArith iadd x53 (AV.int 3 (Int.ofNat 1)) h fun x61 h => (c47_j4 F g kc19) [x50, x60, x60, x61, x54] h) (aIdxStr x50 x54 h fun x62 h => aCmpI ieq x62 (AV.int 4 (Int.ofNat 40)) h fun x63 h => guardB true x63 (aEq true 1 x52 (AV.leaf .nilp) h fun x84 h => (c47_j6 F g kc19) [x50, x51, x52, x53, x54, x63, x84] h) ((c47_j6 F g kc19) [x50, x51, x52, x53, x54, x63, (AV.one .tup (AV.leaf .nil))] h))) (hd vs) (hd (tl vs)) (hd (tl (tl vs))) (hd (tl (tl (tl vs)))) (hd (tl (tl (tl (tl vs))))) (hd (tl (tl (tl (tl (tl vs)))))) (hd (tl (tl (tl (tl (tl (tl vs)))))))
noncomputable def c47_j8 (F g : Nat) (kc19 : List AV → H → Option R) (vs : List AV) (h : H) : Option R := (fun x36 x37 x38 x39 x40 x41 x42 => aPick x41 x42 (AV.bool false) h fun x43 h => withBool x43 fun t44 => bc t44 (aNilCheck x38 h fun x45 h => aField 1 x45 h fun x46 h => aLoad x46 h fun x47 h => (c47_j4 F g kc19) [x36, x37, x47, x39, x40] h) (aIdxStr x36 x40 h fun x48 h => aCmpI ieq x48 (AV.int 4 (Int.ofNat 40)) h fun x49 h => guardB true x49 (aEq false 1 x37 (AV.leaf .nilp) h fun x85 h => (c47_j7 F g kc19) [x36, x37, x38, x39, x40, x49, x85] h) ((c47_j7 F g kc19) [x36, x37, x38, x39, x40, x49, (AV.one .tup (AV.leaf .nil))] h))) (hd vs) (hd (tl vs)) (hd (tl (tl vs))) (hd (tl (tl (tl vs)))) (hd (tl (tl (tl (tl vs))))) (hd (tl (tl (tl (tl (tl vs)))))) (hd (tl (tl (tl (tl (tl (tl vs)))))))
noncomputable def c47_l9 (F g : Nat) : List AV → H → (List AV → H → Option R) → Option R := fun vs h kc19 => (fun x20 x21 x22 x23 x24 => aLenK 0 x20 h fun x25 h => aCmpI ilt x24 x25 h fun x26 h => withBool x26 fun t27 => bc t27 (aIdxStr x20 x24 h fun x34 h => aCmpI ieq x34 (AV.int 4 (Int.ofNat 41)) h fun x35 h => guardB true x35 (aEq true 1 x22 (AV.leaf .nilp) h fun x86 h => (c47_j8 F g kc19) [x20, x21, x22, x23, x24, x35, x86] h) ((c47_j8 F g kc19) [x20, x21, x22, x23, x24, x35, (AV.one .tup (AV.leaf .nil))] h)) ((c47_j3 F g) [x20, x21, x22, x24] h)) (hd vs) (hd (tl vs)) (hd (tl (tl vs))) (hd (tl (tl (tl vs)))) (hd (tl (tl (tl (tl vs)))))
noncomputable def c47 (F g : Nat) (a0 : AV) (h : H) : Option R := loopD F (c47_l9 F g) [a0, (AV.leaf .nilp), (AV.leaf .nilp), (AV.int 3 (Int.ofNat 0)), (AV.int 3 (Int.ofNat 0))] h
noncomputable def A47 : An := (.two .o (.two (.two .o (.two .o (.two .o (.at_ [0, 4, 5, 7] (.two (.at_ [0, 4, 5, 6, 7] (.two (.two .o (.two .o .o)) (.two (.at_ [0, 4, 5, 6, 7] (.two (.two (.at_ [0, 4, 5, 6, 7, 17, 19] .o .o) (.two .o (.two (.at_ [0, 4, 5, 6, 7, 30, 32] .o .o) (.two (.two .o (.two .o .o)) (.two (.at_ [0, 4, 5, 6, 7, 44, 46] .o (.at_ [0, 4, 5, 6, 7, 48, 50] .o .o)) (.two (.two .o .o) .o)))))) .o) .o) .o)) .o) .o) (.two (.two (.at_ [4, 5, 63, 65] .o (.at_ [4, 67, 69] .o .o)) (.two (.two .o .o) .o)) (.two .o .o)))))) .o))
noncomputable def b47 : Code := bodyOf Go.Proofs.Try.f47
theorem k47 (F g : Nat) (a0 : AV) (h : H) : callD Go.Proofs.Try.prog (Env.add (fun _ _ _ => none : Env) 66 (u2 (c66 F g))) 72 F b47 [2, 3] A47 [a0] h = c47 F g a0 h := by kernel_rfl
theorem s47 (F g : Nat) : ∀ args h r, u1 (c47 F g) args h = some r → Tri Go.Proofs.Try.prog 47 args h r := by
  intro args h r e; obtain ⟨a0, rfl, e1⟩ := u1_some e; exact fn_sound Go.Proofs.Try.func47 rfl rfl rfl Go.Proofs.Try.ntmps47 (Sound.add (Sound.none _) (s66 F g)) ((k47 F g a0 h).trans e1)

-- "loop.example/treenumbers/impl.TreeIn"
noncomputable def c16 (F g : Nat) (a0 : AV) (h : H) : Option R := bindR (c47 F g a0 h) fun x1 h => aExtract x1 0 h fun x2 h => aExtract x1 1 h fun x3 h => some (x3, h)
noncomputable def A16 : An := (.two .o (.two .o (.two .o .o)))
noncomputable def b16 : Code := bodyOf Go.Proofs.Try.f16
theorem k16 (F g : Nat) (a0 : AV) (h : H) : callD Go.Proofs.Try.prog (Env.add (fun _ _ _ => none : Env) 47 (u1 (c47 F g))) 11 F b16 [2] A16 [a0] h = c16 F g a0 h := by kernel_rfl
theorem s16 (F g : Nat) : ∀ args h r, u1 (c16 F g) args h = some r → Tri Go.Proofs.Try.prog 16 args h r := by
  intro args h r e; obtain ⟨a0, rfl, e1⟩ := u1_some e; exact fn_sound Go.Proofs.Try.func16 rfl rfl rfl Go.Proofs.Try.ntmps16 (Sound.add (Sound.none _) (s47 F g)) ((k16 F g a0 h).trans e1)

-- "loop.example/treenumbers/laws.FnExactTreeIn"
noncomputable def c3 (F g : Nat) (a0 : AV) (h : H) : Option R := aLenK 0 a0 h fun x1 h => aCmpI (fun a b => ilt b a) x1 (AV.int 3 (Int.ofNat 1048576)) h fun x2 h => withBool x2 fun t3 => bc t3 (some ((AV.bool true), h)) (bindR (c15 F g a0 h) fun x4 h => bindR (c16 F g a0 h) fun x5 h => aEq true 0 x5 x4 h fun x6 h => withBool x6 fun t7 => bc t7 (some ((AV.bool false), h)) (some ((AV.bool true), h)))
noncomputable def A3 : An := (.two .o (.two (.two .o (.two (.two .o .o) .o)) (.two .o (.two .o (.two (.two .o (.two (.two .o .o) .o)) (.two .o .o))))))
noncomputable def b3 : Code := bodyOf Go.Proofs.Try.f3
theorem k3 (F g : Nat) (a0 : AV) (h : H) : callD Go.Proofs.Try.prog (Env.add (Env.add (fun _ _ _ => none : Env) 15 (u1 (c15 F g))) 16 (u1 (c16 F g))) 15 F b3 [2] A3 [a0] h = c3 F g a0 h := by kernel_rfl
theorem s3 (F g : Nat) : ∀ args h r, u1 (c3 F g) args h = some r → Tri Go.Proofs.Try.prog 3 args h r := by
  intro args h r e; obtain ⟨a0, rfl, e1⟩ := u1_some e; exact fn_sound Go.Proofs.Try.func3 rfl rfl rfl Go.Proofs.Try.ntmps3 (Sound.add (Sound.add (Sound.none _) (s15 F g)) (s16 F g)) ((k3 F g a0 h).trans e1)

end
end Go.AI
