/- The functions that the law FnExactLevelsOf reaches, as the evaluator reads them. -/
import Derived.KernelRfl
import Derived.Test.YtmknipepkjbgjaaRaw
import Derived.Test.YtmknipepkjbgjaaProg
namespace Go.AI.T
open Go Go.RowKit Go.AI
set_option linter.unusedVariables false
set_option linter.unusedSimpArgs false
set_option maxRecDepth 100000
noncomputable section
-- "loop.example/treenumbers/spec.l1Depths"
noncomputable def c_spec_l1Depths_j1 (F g : Nat) (kc2 : List AV → H → Option R) (vs : List AV) (h : H) : Option R := (fun x10 x11 x12 x13 => aArith iadd x13 (AV.int 3 (Int.ofNat 1)) h fun x14 h => kc2 [x10, x11, x12, x14] h) (hd vs) (hd (tl vs)) (hd (tl (tl vs))) (hd (tl (tl (tl vs))))
noncomputable def c_spec_l1Depths_l2 (F g : Nat) : List AV → H → (List AV → H → Option R) → Option R := fun vs h kc2 => (fun x3 x4 x5 x6 => aLenK 0 x3 h fun x7 h => aCmpI ilt x6 x7 h fun x8 h => withBool x8 fun t9 => bc t9 (aIdxStr x3 x6 h fun x15 h => aCmpI ieq x15 (AV.int 4 (Int.ofNat 40)) h fun x16 h => withBool x16 fun t17 => bc t17 (aBuildSlice 1 1 [(0, 1, x5)] h fun x18 h => aAppend 1 8 x4 x18 h fun x19 h => aArith iadd x5 (AV.int 3 (Int.ofNat 1)) h fun x20 h => (c_spec_l1Depths_j1 F g kc2) [x3, x19, x20, x6] h) (aArith isub x5 (AV.int 3 (Int.ofNat 1)) h fun x21 h => (c_spec_l1Depths_j1 F g kc2) [x3, x4, x21, x6] h)) (some (x4, h))) (hd vs) (hd (tl vs)) (hd (tl (tl vs))) (hd (tl (tl (tl vs))))
noncomputable def c_spec_l1Depths (F g : Nat) (a0 : AV) (h : H) : Option R := aBuildSlice 0 1 [] h fun x1 h => loopD F (c_spec_l1Depths_l2 F g) [a0, x1, (AV.int 3 (Int.ofNat 0)), (AV.int 3 (Int.ofNat 0))] h
noncomputable def A_spec_l1Depths : An := (.two .o (.two .o (.two .o (.two (.two .o (.two (.at_ [0, 3, 4, 5] (.two (.two .o (.two .o .o)) (.at_ [0, 3, 4, 5] (.two (.two .o (.two (.two .o .o) .o)) .o) .o)) .o) .o)) (.two .o .o)))))
noncomputable def b_spec_l1Depths : Code := bodyOf Go.Proofs.Try.f78
theorem k_spec_l1Depths (F g : Nat) (a0 : AV) (h : H) : callD Go.Proofs.Try.prog (fun _ _ _ => none : Env) 26 F b_spec_l1Depths [2] A_spec_l1Depths [a0] h = c_spec_l1Depths F g a0 h := by kernel_rfl
theorem s_spec_l1Depths (F g : Nat) : ∀ args h r, u1 (c_spec_l1Depths F g) args h = some r → Tri Go.Proofs.Try.prog 78 args h r := by
  intro args h r e; obtain ⟨a0, rfl, e1⟩ := u1_some e; exact fn_sound Go.Proofs.Try.func78 rfl rfl rfl Go.Proofs.Try.ntmps78 (Sound.none _) ((k_spec_l1Depths F g a0 h).trans e1)

-- "loop.example/treenumbers/spec.LevelsOf"
noncomputable def c_spec_LevelsOf (F g : Nat) (a0 : AV) (h : H) : Option R := bindR (c_spec_TreeIn F g a0 h) fun x1 h => aNot x1 h fun x2 h => withBool x2 fun t3 => bc t3 (aBuildSlice 0 1 [] h fun x4 h => some (AV.one .tup (AV.cons x4 (AV.cons (AV.bool false) (AV.leaf .nil))), h)) (bindR (c_spec_l1Depths F g a0 h) fun x5 h => some (AV.one .tup (AV.cons x5 (AV.cons (AV.bool true) (AV.leaf .nil))), h))
noncomputable def A_spec_LevelsOf : An := (.two .o (.two (.two .o (.two (.two .o .o) .o)) (.two .o .o)))
noncomputable def b_spec_LevelsOf : Code := bodyOf Go.Proofs.Try.f38
theorem k_spec_LevelsOf (F g : Nat) (a0 : AV) (h : H) : callD Go.Proofs.Try.prog (Env.add (Env.add (fun _ _ _ => none : Env) 60 (u1 (c_spec_TreeIn F g))) 78 (u1 (c_spec_l1Depths F g))) 10 F b_spec_LevelsOf [2, 3] A_spec_LevelsOf [a0] h = c_spec_LevelsOf F g a0 h := by kernel_rfl
theorem s_spec_LevelsOf (F g : Nat) : ∀ args h r, u1 (c_spec_LevelsOf F g) args h = some r → Tri Go.Proofs.Try.prog 38 args h r := by
  intro args h r e; obtain ⟨a0, rfl, e1⟩ := u1_some e; exact fn_sound Go.Proofs.Try.func38 rfl rfl rfl Go.Proofs.Try.ntmps38 (Sound.add (Sound.add (Sound.none _) (s_spec_TreeIn F g)) (s_spec_l1Depths F g)) ((k_spec_LevelsOf F g a0 h).trans e1)

-- "(*loop.example/treenumbers/impl.node).nodes"
noncomputable def c_impl_node_nodes_l1 (F g : Nat) (self : AV → H → Option R) : List AV → H → (List AV → H → Option R) → Option R := fun vs h kc6 => (fun x7 x8 x9 x10 => aCmpI ilt x10 x9 h fun x11 h => withBool x11 fun t12 => bc t12 (aIdxAddr 1 x8 x10 h fun x13 h => aLoad x13 h fun x14 h => bindR (self x14 h) fun x15 h => aAppend 1 8 x7 x15 h fun x16 h => aArith iadd x10 (AV.int 3 (Int.ofNat 1)) h fun x17 h => kc6 [x16, x8, x9, x17] h) (some (x7, h))) (hd vs) (hd (tl vs)) (hd (tl (tl vs))) (hd (tl (tl (tl vs))))
noncomputable def c_impl_node_nodes (F g : Nat) : AV → H → Option R := Nat.rec (motive := fun _ => AV → H → Option R) (fun _ _ => none) (fun g self a0 h => aBuildSlice 1 1 [(0, 1, a0)] h fun x1 h => aNilCheck a0 h fun x2 h => aField 2 x2 h fun x3 h => aLoad x3 h fun x4 h => aLenK 1 x4 h fun x5 h => loopD F (c_impl_node_nodes_l1 F g self) [x1, x4, x5, (AV.int 3 (Int.ofNat 0))] h) g
noncomputable def A_impl_node_nodes : An := (.two .o (.two .o (.two (.two .o (.two (.at_ [3, 11, 12, 13] (.two .o (.two (.two .o .o) (.two (.two (.two .o .o) .o) .o))) .o) .o)) (.two .o .o))))
noncomputable def b_impl_node_nodes : Code := bodyOf Go.Proofs.Try.f95
theorem k_impl_node_nodes (F g : Nat) (a0 : AV) (h : H) : callD Go.Proofs.Try.prog (Env.add (fun _ _ _ => none : Env) 95 (u1 (c_impl_node_nodes F g))) 23 F b_impl_node_nodes [2] A_impl_node_nodes [a0] h = c_impl_node_nodes F (g + 1) a0 h := by kernel_rfl
theorem s_impl_node_nodes (F g : Nat) : ∀ args h r, u1 (c_impl_node_nodes F g) args h = some r → Tri Go.Proofs.Try.prog 95 args h r := by
  induction g with
  | zero => intro args h r e; obtain ⟨a0, rfl, e⟩ := u1_some e; cases e
  | succ g ih => intro args h r e; obtain ⟨a0, rfl, e1⟩ := u1_some e; exact fn_sound Go.Proofs.Try.func95 rfl rfl rfl Go.Proofs.Try.ntmps95 (Sound.add (Sound.none _) ih) ((k_impl_node_nodes F g a0 h).trans e1)

-- "loop.example/treenumbers/impl.TreeUp"
noncomputable def c_impl_TreeUp_l1 (F g : Nat) : List AV → H → (List AV → H → Option R) → Option R := fun vs h kc10 => (fun x11 x12 x13 x14 => aCmpI ilt x14 x13 h fun x15 h => withBool x15 fun t16 => bc t16 (aIdxAddr 1 x12 x14 h fun x17 h => aLoad x17 h fun x18 h => aNilCheck x18 h fun x19 h => aField 1 x19 h fun x20 h => aLoad x20 h fun x21 h => aNilCheck x21 h fun x22 h => aField 0 x22 h fun x23 h => aLoad x23 h fun x24 h => aBuildSlice 1 1 [(0, 1, x24)] h fun x25 h => aAppend 1 8 x11 x25 h fun x26 h => aArith iadd x14 (AV.int 3 (Int.ofNat 1)) h fun x27 h => kc10 [x26, x12, x13, x27] h) (some (AV.one .tup (AV.cons x11 (AV.cons (AV.bool true) (AV.leaf .nil))), h))) (hd vs) (hd (tl vs)) (hd (tl (tl vs))) (hd (tl (tl (tl vs))))
noncomputable def c_impl_TreeUp (F g : Nat) (a0 : AV) (h : H) : Option R := bindR (c_impl_readTree F g a0 h) fun x1 h => aExtract x1 0 h fun x2 h => aExtract x1 1 h fun x3 h => aNot x3 h fun x4 h => withBool x4 fun t5 => bc t5 (some (AV.one .tup (AV.cons (AV.leaf .nils) (AV.cons (AV.bool false) (AV.leaf .nil))), h)) (aBuildSlice 1 1 [(0, 1, (AV.int 3 (Int.negSucc 0)))] h fun x6 h => bindR (c_impl_node_nodes F g x2 h) fun x7 h => aSliceV 1 x7 (some (AV.int 3 (Int.ofNat 1))) none none h fun x8 h => aLenK 1 x8 h fun x9 h => loopD F (c_impl_TreeUp_l1 F g) [x6, x8, x9, (AV.int 3 (Int.ofNat 0))] h)
noncomputable def A_impl_TreeUp : An := (.two .o (.two .o (.two (.two .o (.two (.two .o .o) .o)) (.two .o (.two (.two .o (.two (.at_ [6, 19, 20, 21] (.two .o (.two (.two .o .o) (.two (.two (.two .o .o) .o) .o))) .o) .o)) (.two .o .o))))))
noncomputable def b_impl_TreeUp : Code := bodyOf Go.Proofs.Try.f79
theorem k_impl_TreeUp (F g : Nat) (a0 : AV) (h : H) : callD Go.Proofs.Try.prog (Env.add (Env.add (fun _ _ _ => none : Env) 94 (u1 (c_impl_readTree F g))) 95 (u1 (c_impl_node_nodes F g))) 37 F b_impl_TreeUp [2, 3] A_impl_TreeUp [a0] h = c_impl_TreeUp F g a0 h := by kernel_rfl
theorem s_impl_TreeUp (F g : Nat) : ∀ args h r, u1 (c_impl_TreeUp F g) args h = some r → Tri Go.Proofs.Try.prog 79 args h r := by
  intro args h r e; obtain ⟨a0, rfl, e1⟩ := u1_some e; exact fn_sound Go.Proofs.Try.func79 rfl rfl rfl Go.Proofs.Try.ntmps79 (Sound.add (Sound.add (Sound.none _) (s_impl_readTree F g)) (s_impl_node_nodes F g)) ((k_impl_TreeUp F g a0 h).trans e1)

-- "loop.example/treenumbers/impl.LevelsOf"
noncomputable def c_impl_LevelsOf_l1 (F g : Nat) : List AV → H → (List AV → H → Option R) → Option R := fun vs h kc9 => (fun x10 x11 x12 x13 => aCmpI ilt x13 x12 h fun x14 h => withBool x14 fun t15 => bc t15 (aIdxAddr 1 x11 x13 h fun x16 h => aLoad x16 h fun x17 h => aIdxAddr 1 x10 x17 h fun x18 h => aLoad x18 h fun x19 h => aArith iadd x19 (AV.int 3 (Int.ofNat 1)) h fun x20 h => aBuildSlice 1 1 [(0, 1, x20)] h fun x21 h => aAppend 1 8 x10 x21 h fun x22 h => aArith iadd x13 (AV.int 3 (Int.ofNat 1)) h fun x23 h => kc9 [x22, x11, x12, x23] h) (some (AV.one .tup (AV.cons x10 (AV.cons (AV.bool true) (AV.leaf .nil))), h))) (hd vs) (hd (tl vs)) (hd (tl (tl vs))) (hd (tl (tl (tl vs))))
noncomputable def c_impl_LevelsOf (F g : Nat) (a0 : AV) (h : H) : Option R := bindR (c_impl_TreeUp F g a0 h) fun x1 h => aExtract x1 0 h fun x2 h => aExtract x1 1 h fun x3 h => aNot x3 h fun x4 h => withBool x4 fun t5 => bc t5 (some (AV.one .tup (AV.cons (AV.leaf .nils) (AV.cons (AV.bool false) (AV.leaf .nil))), h)) (aBuildSlice 1 1 [(0, 1, (AV.int 3 (Int.ofNat 0)))] h fun x6 h => aSliceV 1 x2 (some (AV.int 3 (Int.ofNat 1))) none none h fun x7 h => aLenK 1 x7 h fun x8 h => loopD F (c_impl_LevelsOf_l1 F g) [x6, x7, x8, (AV.int 3 (Int.ofNat 0))] h)
noncomputable def A_impl_LevelsOf : An := (.two .o (.two .o (.two (.two .o (.two (.two .o .o) .o)) (.two .o (.two (.two .o (.two (.at_ [6, 18, 19, 20] (.two .o (.two (.two .o .o) (.two (.two (.two .o .o) .o) .o))) .o) .o)) (.two .o .o))))))
noncomputable def b_impl_LevelsOf : Code := bodyOf Go.Proofs.Try.f39
theorem k_impl_LevelsOf (F g : Nat) (a0 : AV) (h : H) : callD Go.Proofs.Try.prog (Env.add (fun _ _ _ => none : Env) 79 (u1 (c_impl_TreeUp F g))) 34 F b_impl_LevelsOf [2, 3] A_impl_LevelsOf [a0] h = c_impl_LevelsOf F g a0 h := by kernel_rfl
theorem s_impl_LevelsOf (F g : Nat) : ∀ args h r, u1 (c_impl_LevelsOf F g) args h = some r → Tri Go.Proofs.Try.prog 39 args h r := by
  intro args h r e; obtain ⟨a0, rfl, e1⟩ := u1_some e; exact fn_sound Go.Proofs.Try.func39 rfl rfl rfl Go.Proofs.Try.ntmps39 (Sound.add (Sound.none _) (s_impl_TreeUp F g)) ((k_impl_LevelsOf F g a0 h).trans e1)

-- "loop.example/treenumbers/laws.eqIntS"
noncomputable def c_laws_eqIntS_l1 (F g : Nat) : List AV → H → (List AV → H → Option R) → Option R := fun vs h kc5 => (fun x6 x7 x8 => aLenK 1 x6 h fun x9 h => aCmpI ilt x8 x9 h fun x10 h => withBool x10 fun t11 => bc t11 (aIdxAddr 1 x6 x8 h fun x12 _ => aLoad x12 h fun x13 _ => aIdxAddr 1 x7 x8 h fun x14 _ => aLoad x14 h fun x15 _ => aCmpI (fun a b => bnot (ieq a b)) x13 x15 h fun x16 _ => withBool x16 fun t17 => bc t17 (some ((AV.bool false), h)) (aArith iadd x8 (AV.int 3 (Int.ofNat 1)) h fun x18 h => kc5 [x6, x7, x18] h)) (some ((AV.bool true), h))) (hd vs) (hd (tl vs)) (hd (tl (tl vs)))
noncomputable def c_laws_eqIntS (F g : Nat) (a0 a1 : AV) (h : H) : Option R := aLenK 1 a0 h fun x1 h => aLenK 1 a1 h fun x2 h => aCmpI (fun a b => bnot (ieq a b)) x1 x2 h fun x3 h => withBool x3 fun t4 => bc t4 (some ((AV.bool false), h)) (loopD F (c_laws_eqIntS_l1 F g) [a0, a1, (AV.int 3 (Int.ofNat 0))] h)
noncomputable def A_laws_eqIntS : An := (.two .o (.two (.two .o (.two (.two .o .o) .o)) (.two (.two .o (.two (.at_ [0, 1, 5] (.two (.two .o (.two .o .o)) (.two (.two (.two .o (.two (.two .o .o) .o)) .o) .o)) .o) .o)) (.two .o .o))))
noncomputable def b_laws_eqIntS : Code := bodyOf Go.Proofs.Try.f40
theorem k_laws_eqIntS (F g : Nat) (a0 a1 : AV) (h : H) : callD Go.Proofs.Try.prog (fun _ _ _ => none : Env) 26 F b_laws_eqIntS [4] A_laws_eqIntS [a0, a1] h = c_laws_eqIntS F g a0 a1 h := by kernel_rfl
theorem s_laws_eqIntS (F g : Nat) : ∀ args h r, u2 (c_laws_eqIntS F g) args h = some r → Tri Go.Proofs.Try.prog 40 args h r := by
  intro args h r e; obtain ⟨a0, a1, rfl, e1⟩ := u2_some e; exact fn_sound Go.Proofs.Try.func40 rfl rfl rfl Go.Proofs.Try.ntmps40 (Sound.none _) ((k_laws_eqIntS F g a0 a1 h).trans e1)

-- "loop.example/treenumbers/laws.markIntS"
noncomputable def c_laws_markIntS_l1 (F g : Nat) : List AV → H → (List AV → H → Option R) → Option R := fun vs h kc1 => (fun x2 x3 x4 => aLenK 1 x2 h fun x5 h => aCmpI ilt x4 x5 h fun x6 h => withBool x6 fun t7 => bc t7 (aIdxAddr 1 x2 x4 h fun x8 h => aStore x8 x3 h fun x9 h => aArith iadd x3 (AV.int 3 (Int.ofNat 1)) h fun x10 h => aArith iadd x4 (AV.int 3 (Int.ofNat 1)) h fun x11 h => kc1 [x2, x10, x11] h) (some (x3, h))) (hd vs) (hd (tl vs)) (hd (tl (tl vs)))
noncomputable def c_laws_markIntS (F g : Nat) (a0 a1 : AV) (h : H) : Option R := loopD F (c_laws_markIntS_l1 F g) [a0, a1, (AV.int 3 (Int.ofNat 0))] h
noncomputable def A_laws_markIntS : An := (.two .o (.two (.two .o (.two (.at_ [0, 1, 5] (.two (.two .o (.two .o .o)) (.two (.two (.two .o .o) .o) .o)) .o) .o)) (.two .o .o)))
noncomputable def b_laws_markIntS : Code := bodyOf Go.Proofs.Try.f41
theorem k_laws_markIntS (F g : Nat) (a0 a1 : AV) (h : H) : callD Go.Proofs.Try.prog (fun _ _ _ => none : Env) 19 F b_laws_markIntS [4] A_laws_markIntS [a0, a1] h = c_laws_markIntS F g a0 a1 h := by kernel_rfl
theorem s_laws_markIntS (F g : Nat) : ∀ args h r, u2 (c_laws_markIntS F g) args h = some r → Tri Go.Proofs.Try.prog 41 args h r := by
  intro args h r e; obtain ⟨a0, a1, rfl, e1⟩ := u2_some e; exact fn_sound Go.Proofs.Try.func41 rfl rfl rfl Go.Proofs.Try.ntmps41 (Sound.none _) ((k_laws_markIntS F g a0 a1 h).trans e1)

-- "loop.example/treenumbers/laws.heldIntS"
noncomputable def c_laws_heldIntS_l1 (F g : Nat) : List AV → H → (List AV → H → Option R) → Option R := fun vs h kc1 => (fun x2 x3 x4 => aLenK 1 x2 h fun x5 h => aCmpI ilt x4 x5 h fun x6 h => withBool x6 fun t7 => bc t7 (aIdxAddr 1 x2 x4 h fun x8 h => aLoad x8 h fun x9 h => aCmpI (fun a b => bnot (ieq a b)) x9 x3 h fun x10 h => withBool x10 fun t11 => bc t11 (some ((AV.int 3 (Int.negSucc 0)), h)) (aArith iadd x3 (AV.int 3 (Int.ofNat 1)) h fun x12 h => aArith iadd x4 (AV.int 3 (Int.ofNat 1)) h fun x13 h => kc1 [x2, x12, x13] h)) (some (x3, h))) (hd vs) (hd (tl vs)) (hd (tl (tl vs)))
noncomputable def c_laws_heldIntS (F g : Nat) (a0 a1 : AV) (h : H) : Option R := loopD F (c_laws_heldIntS_l1 F g) [a0, a1, (AV.int 3 (Int.ofNat 0))] h
noncomputable def A_laws_heldIntS : An := (.two .o (.two (.two .o (.two (.at_ [0, 1, 5] (.two (.two .o (.two .o .o)) (.two (.two (.two (.two .o (.two (.two .o .o) .o)) .o) .o) .o)) .o) .o)) (.two .o .o)))
noncomputable def b_laws_heldIntS : Code := bodyOf Go.Proofs.Try.f42
theorem k_laws_heldIntS (F g : Nat) (a0 a1 : AV) (h : H) : callD Go.Proofs.Try.prog (fun _ _ _ => none : Env) 21 F b_laws_heldIntS [4] A_laws_heldIntS [a0, a1] h = c_laws_heldIntS F g a0 a1 h := by kernel_rfl
theorem s_laws_heldIntS (F g : Nat) : ∀ args h r, u2 (c_laws_heldIntS F g) args h = some r → Tri Go.Proofs.Try.prog 42 args h r := by
  intro args h r e; obtain ⟨a0, a1, rfl, e1⟩ := u2_some e; exact fn_sound Go.Proofs.Try.func42 rfl rfl rfl Go.Proofs.Try.ntmps42 (Sound.none _) ((k_laws_heldIntS F g a0 a1 h).trans e1)

-- "loop.example/treenumbers/laws.FnExactLevelsOf"
noncomputable def c_laws_FnExactLevelsOf_j1 (F g : Nat) (vs : List AV) (h : H) : Option R := (fun x31 x32 x33 x34 => aPick x33 (AV.bool true) x34 h fun x35 h => withBool x35 fun t36 => bc t36 (some ((AV.bool false), h)) (bindR (c_laws_heldIntS F g x31 (AV.int 3 (Int.ofNat 1)) h) fun x37 h => aCmpI ilt x37 (AV.int 3 (Int.ofNat 0)) h fun x38 h => withBool x38 fun t39 => bc t39 (some ((AV.bool false), h)) (aCmpI (fun a b => bnot (ieq a b)) x37 x32 h fun x40 h => withBool x40 fun t41 => bc t41 (some ((AV.bool false), h)) (some ((AV.bool true), h))))) (hd vs) (hd (tl vs)) (hd (tl (tl vs))) (hd (tl (tl (tl vs))))
noncomputable def c_laws_FnExactLevelsOf_j2 (F g : Nat) (vs : List AV) (h : H) : Option R := (fun x12 x13 x14 x15 x16 x17 => aPick x16 (AV.bool true) x17 h fun x18 h => withBool x18 fun t19 => bc t19 (some ((AV.bool false), h)) (bindR (c_laws_markIntS F g x15 (AV.int 3 (Int.ofNat 1)) h) fun x20 h => bindR (c_laws_heldIntS F g x15 (AV.int 3 (Int.ofNat 1)) h) fun x21 h => aCmpI ilt x21 (AV.int 3 (Int.ofNat 0)) h fun x22 h => withBool x22 fun t23 => bc t23 (some ((AV.bool false), h)) (aCmpI (fun a b => bnot (ieq a b)) x21 x20 h fun x24 h => withBool x24 fun t25 => bc t25 (some ((AV.bool false), h)) (bindR (c_impl_LevelsOf F g x12 h) fun x26 h => aExtract x26 0 h fun x27 h => aExtract x26 1 h fun x28 h => bindR (c_laws_eqIntS F g x27 x13 h) fun x29 h => aNot x29 h fun x30 h => guardB false x30 (aEq true 0 x28 x14 h fun x42 h => (c_laws_FnExactLevelsOf_j1 F g) [x15, x20, x30, x42] h) ((c_laws_FnExactLevelsOf_j1 F g) [x15, x20, x30, (AV.one .tup (AV.leaf .nil))] h))))) (hd vs) (hd (tl vs)) (hd (tl (tl vs))) (hd (tl (tl (tl vs)))) (hd (tl (tl (tl (tl vs))))) (hd (tl (tl (tl (tl (tl vs))))))
noncomputable def c_laws_FnExactLevelsOf (F g : Nat) (a0 : AV) (h : H) : Option R := aLenK 0 a0 h fun x1 h => aCmpI (fun a b => ilt b a) x1 (AV.int 3 (Int.ofNat 1048576)) h fun x2 h => withBool x2 fun t3 => bc t3 (some ((AV.bool true), h)) (bindR (c_spec_LevelsOf F g a0 h) fun x4 h => aExtract x4 0 h fun x5 h => aExtract x4 1 h fun x6 h => bindR (c_impl_LevelsOf F g a0 h) fun x7 h => aExtract x7 0 h fun x8 h => aExtract x7 1 h fun x9 h => bindR (c_laws_eqIntS F g x8 x5 h) fun x10 h => aNot x10 h fun x11 h => guardB false x11 (aEq true 0 x9 x6 h fun x43 h => (c_laws_FnExactLevelsOf_j2 F g) [a0, x5, x6, x8, x11, x43] h) ((c_laws_FnExactLevelsOf_j2 F g) [a0, x5, x6, x8, x11, (AV.one .tup (AV.leaf .nil))] h))
noncomputable def A_laws_FnExactLevelsOf : An := (.two .o (.two (.two .o (.two (.two .o .o) .o)) (.two .o (.two .o (.two (.two (.at_ [0, 3, 4, 5, 28, 31] .o .o) (.two (.two .o .o) .o)) (.two .o (.two .o (.two .o (.two .o (.two (.two .o (.two (.two .o .o) .o)) (.two (.two .o (.two (.two .o .o) .o)) (.two .o (.two (.two (.at_ [5, 7, 53, 56] .o .o) (.two (.two .o .o) .o)) (.two .o (.two .o (.two (.two .o (.two (.two .o .o) .o)) (.two (.two .o (.two (.two .o .o) .o)) (.two .o .o))))))))))))))))))
noncomputable def b_laws_FnExactLevelsOf : Code := bodyOf Go.Proofs.Try.f11
theorem k_laws_FnExactLevelsOf (F g : Nat) (a0 : AV) (h : H) : callD Go.Proofs.Try.prog (Env.add (Env.add (Env.add (Env.add (Env.add (fun _ _ _ => none : Env) 38 (u1 (c_spec_LevelsOf F g))) 39 (u1 (c_impl_LevelsOf F g))) 40 (u2 (c_laws_eqIntS F g))) 41 (u2 (c_laws_markIntS F g))) 42 (u2 (c_laws_heldIntS F g))) 66 F b_laws_FnExactLevelsOf [2] A_laws_FnExactLevelsOf [a0] h = c_laws_FnExactLevelsOf F g a0 h := by kernel_rfl
theorem s_laws_FnExactLevelsOf (F g : Nat) : ∀ args h r, u1 (c_laws_FnExactLevelsOf F g) args h = some r → Tri Go.Proofs.Try.prog 11 args h r := by
  intro args h r e; obtain ⟨a0, rfl, e1⟩ := u1_some e; exact fn_sound Go.Proofs.Try.func11 rfl rfl rfl Go.Proofs.Try.ntmps11 (Sound.add (Sound.add (Sound.add (Sound.add (Sound.add (Sound.none _) (s_spec_LevelsOf F g)) (s_impl_LevelsOf F g)) (s_laws_eqIntS F g)) (s_laws_markIntS F g)) (s_laws_heldIntS F g)) ((k_laws_FnExactLevelsOf F g a0 h).trans e1)

end
end Go.AI.T
