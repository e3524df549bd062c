/- The functions that the law FnJoin reaches, as the evaluator reads them. -/
import Derived.Test.YtlcmolcajoeagaaPr4
import Derived.Test.YtlcmolcajoeagaaGiv
import Derived.Test.YtlcmolcajoeagaaProg
import Derived.KernelRfl
namespace Go.AI.V
open Go Go.RowKit Go.AI
set_option linter.unusedVariables false
set_option linter.unusedSimpArgs false
set_option maxRecDepth 100000
noncomputable section
-- "(*loop.example/treenumbers/impl.node).text"
noncomputable def c_impl_node_text_l1 (F g : Nat) (self : AV → H → Option R) : List AV → H → (List AV → H → Option R) → Option R := fun vs h kc5 => (fun x6 x7 x8 x9 => aCmpI ilt x9 x8 h fun x10 h => withBool x10 fun t11 => bc t11 (aIdxAddr 1 x7 x9 h fun x12 h => aLoad x12 h fun x13 h => bindR (self x13 h) fun x14 h => aSAdd x6 x14 h fun x15 h => aArith iadd x9 (AV.int 3 (Int.ofNat 1)) h fun x16 h => kc5 [x15, x7, x8, x16] h) (aSAdd x6 (AV.str [41] 1) h fun x17 h => some (x17, h))) (hd vs) (hd (tl vs)) (hd (tl (tl vs))) (hd (tl (tl (tl vs))))
noncomputable def c_impl_node_text (F g : Nat) : AV → H → Option R := Nat.rec (motive := fun _ => AV → H → Option R) (fun _ _ => none) (fun g self a0 h => aNilCheck a0 h fun x1 h => aField 2 x1 h fun x2 h => aLoad x2 h fun x3 h => aLenK 1 x3 h fun x4 h => loopD F (c_impl_node_text_l1 F g self) [(AV.str [40] 1), x3, x4, (AV.int 3 (Int.ofNat 0))] h) g
noncomputable def A_impl_node_text : An := (.two .o (.two .o (.two (.two .o (.two (.at_ [3, 9, 10, 11] (.two .o (.two (.two .o .o) (.two (.two (.two .o .o) .o) .o))) .o) .o)) (.two .o .o))))
noncomputable def b_impl_node_text : Code := bodyOf Go.Proofs.Try.f74
theorem k_impl_node_text (F g : Nat) (a0 : AV) (h : H) : callD Go.Proofs.Try.prog (Env.add (fun _ _ _ => none : Env) 74 (u1 (c_impl_node_text F g))) 22 F b_impl_node_text [2] A_impl_node_text [a0] h = c_impl_node_text F (g + 1) a0 h := by kernel_rfl
theorem s_impl_node_text (F g : Nat) : ∀ args h r, u1 (c_impl_node_text F g) args h = some r → Tri Go.Proofs.Try.prog 74 args h r := by
  induction g with
  | zero => intro args h r e; obtain ⟨a0, rfl, e⟩ := u1_some e; cases e
  | succ g ih => intro args h r e; obtain ⟨a0, rfl, e1⟩ := u1_some e; exact fn_sound Go.Proofs.Try.func74 rfl rfl rfl Go.Proofs.Try.ntmps74 (Sound.add (Sound.none _) ih) ((k_impl_node_text F g a0 h).trans e1)

-- "loop.example/treenumbers/impl.TreeChildren"
noncomputable def c_impl_TreeChildren_l1 (F g : Nat) : List AV → H → (List AV → H → Option R) → Option R := fun vs h kc11 => (fun x12 x13 x14 x15 => aCmpI ilt x15 x14 h fun x16 h => withBool x16 fun t17 => bc t17 (aIdxAddr 1 x13 x15 h fun x18 h => aLoad x18 h fun x19 h => bindR (c_impl_node_text F g x19 h) fun x20 h => aBuildSlice 1 1 [(0, 1, x20)] h fun x21 h => aAppend 1 16 x12 x21 h fun x22 h => aArith iadd x15 (AV.int 3 (Int.ofNat 1)) h fun x23 h => kc11 [x22, x13, x14, x23] h) (some (AV.one .tup (AV.cons x12 (AV.cons (AV.bool true) (AV.leaf .nil))), h))) (hd vs) (hd (tl vs)) (hd (tl (tl vs))) (hd (tl (tl (tl vs))))
noncomputable def c_impl_TreeChildren (F g : Nat) (a0 : AV) (h : H) : Option R := bindR (Go.AI.T.c_impl_readTree F g a0 h) fun x1 h => aExtract x1 0 h fun x2 h => aExtract x1 1 h fun x3 h => aNot x3 h fun x4 h => withBool x4 fun t5 => bc t5 (some (AV.one .tup (AV.cons (AV.leaf .nils) (AV.cons (AV.bool false) (AV.leaf .nil))), h)) (aBuildSlice 0 1 [] h fun x6 h => aNilCheck x2 h fun x7 h => aField 2 x7 h fun x8 h => aLoad x8 h fun x9 h => aLenK 1 x9 h fun x10 h => loopD F (c_impl_TreeChildren_l1 F g) [x6, x9, x10, (AV.int 3 (Int.ofNat 0))] h)
noncomputable def A_impl_TreeChildren : An := (.two .o (.two .o (.two (.two .o (.two (.two .o .o) .o)) (.two .o (.two (.two .o (.two (.at_ [6, 20, 21, 22] (.two .o (.two (.two .o .o) (.two (.two (.two .o .o) .o) .o))) .o) .o)) (.two .o .o))))))
noncomputable def b_impl_TreeChildren : Code := bodyOf Go.Proofs.Try.f83
theorem k_impl_TreeChildren (F g : Nat) (a0 : AV) (h : H) : callD Go.Proofs.Try.prog (Env.add (Env.add (fun _ _ _ => none : Env) 72 (u1 (Go.AI.T.c_impl_readTree F g))) 74 (u1 (c_impl_node_text F g))) 33 F b_impl_TreeChildren [2, 3] A_impl_TreeChildren [a0] h = c_impl_TreeChildren F g a0 h := by kernel_rfl
theorem s_impl_TreeChildren (F g : Nat) : ∀ args h r, u1 (c_impl_TreeChildren F g) args h = some r → Tri Go.Proofs.Try.prog 83 args h r := by
  intro args h r e; obtain ⟨a0, rfl, e1⟩ := u1_some e; exact fn_sound Go.Proofs.Try.func83 rfl rfl rfl Go.Proofs.Try.ntmps83 (Sound.add (Sound.add (Sound.none _) (Go.AI.T.s_impl_readTree F g)) (s_impl_node_text F g)) ((k_impl_TreeChildren F g a0 h).trans e1)

-- "(*loop.example/treenumbers/impl.node).nodes"
noncomputable def c_impl_node_nodes_l1 (F g : Nat) (self : AV → H → Option R) : List AV → H → (List AV → H → Option R) → Option R := fun vs h kc6 => (fun x7 x8 x9 x10 => aCmpI ilt x10 x9 h fun x11 h => withBool x11 fun t12 => bc t12 (aIdxAddr 1 x8 x10 h fun x13 h => aLoad x13 h fun x14 h => bindR (self x14 h) fun x15 h => aAppend 1 8 x7 x15 h fun x16 h => aArith iadd x10 (AV.int 3 (Int.ofNat 1)) h fun x17 h => kc6 [x16, x8, x9, x17] h) (some (x7, h))) (hd vs) (hd (tl vs)) (hd (tl (tl vs))) (hd (tl (tl (tl vs))))
noncomputable def c_impl_node_nodes (F g : Nat) : AV → H → Option R := Nat.rec (motive := fun _ => AV → H → Option R) (fun _ _ => none) (fun g self a0 h => aBuildSlice 1 1 [(0, 1, a0)] h fun x1 h => aNilCheck a0 h fun x2 h => aField 2 x2 h fun x3 h => aLoad x3 h fun x4 h => aLenK 1 x4 h fun x5 h => loopD F (c_impl_node_nodes_l1 F g self) [x1, x4, x5, (AV.int 3 (Int.ofNat 0))] h) g
noncomputable def A_impl_node_nodes : An := (.two .o (.two .o (.two (.two .o (.two (.at_ [3, 11, 12, 13] (.two .o (.two (.two .o .o) (.two (.two (.two .o .o) .o) .o))) .o) .o)) (.two .o .o))))
noncomputable def b_impl_node_nodes : Code := bodyOf Go.Proofs.Try.f75
theorem k_impl_node_nodes (F g : Nat) (a0 : AV) (h : H) : callD Go.Proofs.Try.prog (Env.add (fun _ _ _ => none : Env) 75 (u1 (c_impl_node_nodes F g))) 23 F b_impl_node_nodes [2] A_impl_node_nodes [a0] h = c_impl_node_nodes F (g + 1) a0 h := by kernel_rfl
theorem s_impl_node_nodes (F g : Nat) : ∀ args h r, u1 (c_impl_node_nodes F g) args h = some r → Tri Go.Proofs.Try.prog 75 args h r := by
  induction g with
  | zero => intro args h r e; obtain ⟨a0, rfl, e⟩ := u1_some e; cases e
  | succ g ih => intro args h r e; obtain ⟨a0, rfl, e1⟩ := u1_some e; exact fn_sound Go.Proofs.Try.func75 rfl rfl rfl Go.Proofs.Try.ntmps75 (Sound.add (Sound.none _) ih) ((k_impl_node_nodes F g a0 h).trans e1)

-- "loop.example/treenumbers/impl.TreeNodes"
noncomputable def c_impl_TreeNodes (F g : Nat) (a0 : AV) (h : H) : Option R := bindR (Go.AI.T.c_impl_readTree F g a0 h) fun x1 h => aExtract x1 0 h fun x2 h => aExtract x1 1 h fun x3 h => aNot x3 h fun x4 h => withBool x4 fun t5 => bc t5 (some (AV.one .tup (AV.cons (AV.int 3 (Int.ofNat 0)) (AV.cons (AV.bool false) (AV.leaf .nil))), h)) (bindR (c_impl_node_nodes F g x2 h) fun x6 h => aLenK 1 x6 h fun x7 h => some (AV.one .tup (AV.cons x7 (AV.cons (AV.bool true) (AV.leaf .nil))), h))
noncomputable def A_impl_TreeNodes : An := (.two .o (.two .o (.two (.two .o (.two (.two .o .o) .o)) (.two .o .o))))
noncomputable def b_impl_TreeNodes : Code := bodyOf Go.Proofs.Try.f22
theorem k_impl_TreeNodes (F g : Nat) (a0 : AV) (h : H) : callD Go.Proofs.Try.prog (Env.add (Env.add (fun _ _ _ => none : Env) 72 (u1 (Go.AI.T.c_impl_readTree F g))) 75 (u1 (c_impl_node_nodes F g))) 16 F b_impl_TreeNodes [2, 3] A_impl_TreeNodes [a0] h = c_impl_TreeNodes F g a0 h := by kernel_rfl
theorem s_impl_TreeNodes (F g : Nat) : ∀ args h r, u1 (c_impl_TreeNodes F g) args h = some r → Tri Go.Proofs.Try.prog 22 args h r := by
  intro args h r e; obtain ⟨a0, rfl, e1⟩ := u1_some e; exact fn_sound Go.Proofs.Try.func22 rfl rfl rfl Go.Proofs.Try.ntmps22 (Sound.add (Sound.add (Sound.none _) (Go.AI.T.s_impl_readTree F g)) (s_impl_node_nodes F g)) ((k_impl_TreeNodes F g a0 h).trans e1)

-- "loop.example/treenumbers/impl.TreeOf"
noncomputable def c_impl_TreeOf_j1 (F g : Nat) (kc2 : List AV → H → Option R) (vs : List AV) (h : H) : Option R := (fun x17 x18 x19 x20 x21 x22 x23 => aPick x22 (AV.bool true) x23 h fun x24 h => withBool x24 fun t25 => bc t25 (some (AV.one .tup (AV.cons (AV.str [] 0) (AV.cons (AV.bool false) (AV.leaf .nil))), h)) (aArith iadd x21 (AV.int 3 (Int.ofNat 1)) h fun x26 h => kc2 [x17, x18, x19, x20, x26] h)) (hd vs) (hd (tl vs)) (hd (tl (tl vs))) (hd (tl (tl (tl vs)))) (hd (tl (tl (tl (tl vs))))) (hd (tl (tl (tl (tl (tl vs)))))) (hd (tl (tl (tl (tl (tl (tl vs)))))))
noncomputable def c_impl_TreeOf_l2 (F g : Nat) : List AV → H → (List AV → H → Option R) → Option R := fun vs h kc2 => (fun x3 x4 x5 x6 x7 => aCmpI ilt x7 x6 h fun x8 h => withBool x8 fun t9 => bc t9 (aIdxAddr 1 x5 x7 h fun x10 h => aLoad x10 h fun x11 h => bindR (c_impl_TreeNodes F g x11 h) fun x12 h => aExtract x12 0 h fun x13 h => aExtract x12 1 h fun x14 h => aArith iadd x4 x13 h fun x15 h => aNot x14 h fun x16 h => guardB false x16 (aCmpI (fun a b => ilt b a) x15 (AV.int 3 (Int.ofNat 9)) h fun x27 h => (c_impl_TreeOf_j1 F g kc2) [x3, x15, x5, x6, x7, x16, x27] h) ((c_impl_TreeOf_j1 F g kc2) [x3, x15, x5, x6, x7, x16, (AV.one .tup (AV.leaf .nil))] h)) (bindR (Go.AI.T.c_strings_Join F g x3 (AV.str [] 0) h) fun x28 h => aSAdd (AV.str [40] 1) x28 h fun x29 h => aSAdd x29 (AV.str [41] 1) h fun x30 h => some (AV.one .tup (AV.cons x30 (AV.cons (AV.bool true) (AV.leaf .nil))), h))) (hd vs) (hd (tl vs)) (hd (tl (tl vs))) (hd (tl (tl (tl vs)))) (hd (tl (tl (tl (tl vs)))))
noncomputable def c_impl_TreeOf (F g : Nat) (a0 : AV) (h : H) : Option R := aLenK 1 a0 h fun x1 h => loopD F (c_impl_TreeOf_l2 F g) [a0, (AV.int 3 (Int.ofNat 1)), a0, x1, (AV.int 3 (Int.ofNat 0))] h
noncomputable def A_impl_TreeOf : An := (.two .o (.two .o (.two (.two .o (.two (.at_ [0, 4, 9, 10, 11] (.two .o (.two (.two .o .o) (.two (.two (.two .o (.two .o (.two .o (.two (.at_ [0, 4, 9, 10, 11, 25, 27] .o .o) (.two (.two .o .o) .o))))) .o) .o))) .o) .o)) (.two .o .o))))
noncomputable def b_impl_TreeOf : Code := bodyOf Go.Proofs.Try.f29
theorem k_impl_TreeOf (F g : Nat) (a0 : AV) (h : H) : callD Go.Proofs.Try.prog (Env.add (Env.add (fun _ _ _ => none : Env) 22 (u1 (c_impl_TreeNodes F g))) 82 (u2 (Go.AI.T.c_strings_Join F g))) 34 F b_impl_TreeOf [2, 3] A_impl_TreeOf [a0] h = c_impl_TreeOf F g a0 h := by kernel_rfl
theorem s_impl_TreeOf (F g : Nat) : ∀ args h r, u1 (c_impl_TreeOf F g) args h = some r → Tri Go.Proofs.Try.prog 29 args h r := by
  intro args h r e; obtain ⟨a0, rfl, e1⟩ := u1_some e; exact fn_sound Go.Proofs.Try.func29 rfl rfl rfl Go.Proofs.Try.ntmps29 (Sound.add (Sound.add (Sound.none _) (s_impl_TreeNodes F g)) (Go.AI.T.s_strings_Join F g)) ((k_impl_TreeOf F g a0 h).trans e1)

-- "math/bits.Len32"
noncomputable def c_math_bits_Len32_j1 (F g : Nat) (vs : List AV) (h : H) : Option R := (fun x3 x4 => aConvI 4 x3 h fun x5 h => aIdxStr (AV.str [0, 1, 2, 2, 3, 3, 3, 3, 4, 4, 4, 4, 4, 4, 4, 4, 5, 5, 5, 5, 5, 5, 5, 5, 5, 5, 5, 5, 5, 5, 5, 5, 6, 6, 6, 6, 6, 6, 6, 6, 6, 6, 6, 6, 6, 6, 6, 6, 6, 6, 6, 6, 6, 6, 6, 6, 6, 6, 6, 6, 6, 6, 6, 6, 7, 7, 7, 7, 7, 7, 7, 7, 7, 7, 7, 7, 7, 7, 7, 7, 7, 7, 7, 7, 7, 7, 7, 7, 7, 7, 7, 7, 7, 7, 7, 7, 7, 7, 7, 7, 7, 7, 7, 7, 7, 7, 7, 7, 7, 7, 7, 7, 7, 7, 7, 7, 7, 7, 7, 7, 7, 7, 7, 7, 7, 7, 7, 7, 8, 8, 8, 8, 8, 8, 8, 8, 8, 8, 8, 8, 8, 8, 8, 8, 8, 8, 8, 8, 8, 8, 8, 8, 8, 8, 8, 8, 8, 8, 8, 8, 8, 8, 8, 8, 8, 8, 8, 8, 8, 8, 8, 8, 8, 8, 8, 8, 8, 8, 8, 8, 8, 8, 8, 8, 8, 8, 8, 8, 8, 8, 8, 8, 8, 8, 8, 8, 8, 8, 8, 8, 8, 8, 8, 8, 8, 8, 8, 8, 8, 8, 8, 8, 8, 8, 8, 8, 8, 8, 8, 8, 8, 8, 8, 8, 8, 8, 8, 8, 8, 8, 8, 8, 8, 8, 8, 8, 8, 8, 8, 8, 8, 8, 8, 8, 8, 8, 8, 8, 8, 8, 8, 8, 8, 8, 8, 8] 256) x5 h fun x6 h => aConvI 3 x6 h fun x7 h => aArith iadd x4 x7 h fun x8 h => some (x8, h)) (hd vs) (hd (tl vs))
noncomputable def c_math_bits_Len32_j2 (F g : Nat) (vs : List AV) (h : H) : Option R := (fun x1 x2 => aCmpI (fun a b => ile b a) x1 (AV.int 6 (Int.ofNat 256)) h fun x9 h => withBool x9 fun t10 => bc t10 (aShr x1 (AV.int 7 (Int.ofNat 8)) h fun x11 h => aArith iadd x2 (AV.int 3 (Int.ofNat 8)) h fun x12 h => (c_math_bits_Len32_j1 F g) [x11, x12] h) ((c_math_bits_Len32_j1 F g) [x1, x2] h)) (hd vs) (hd (tl vs))
noncomputable def c_math_bits_Len32 (F g : Nat) (a0 : AV) (h : H) : Option R := aCmpI (fun a b => ile b a) a0 (AV.int 6 (Int.ofNat 65536)) h fun x13 h => withBool x13 fun t14 => bc t14 (aShr a0 (AV.int 7 (Int.ofNat 16)) h fun x15 h => (c_math_bits_Len32_j2 F g) [x15, (AV.int 3 (Int.ofNat 16))] h) ((c_math_bits_Len32_j2 F g) [a0, (AV.int 3 (Int.ofNat 0))] h)
noncomputable def A_math_bits_Len32 : An := (.two .o (.at_ [0, 2] (.two .o (.two (.two .o .o) .o)) (.at_ [0, 2] (.two .o (.two (.two .o .o) .o)) (.two .o .o))))
noncomputable def b_math_bits_Len32 : Code := bodyOf Go.Proofs.Try.f152
theorem k_math_bits_Len32 (F g : Nat) (a0 : AV) (h : H) : callD Go.Proofs.Try.prog (fun _ _ _ => none : Env) 19 F b_math_bits_Len32 [2] A_math_bits_Len32 [a0] h = c_math_bits_Len32 F g a0 h := by kernel_rfl
theorem s_math_bits_Len32 (F g : Nat) : ∀ args h r, u1 (c_math_bits_Len32 F g) args h = some r → Tri Go.Proofs.Try.prog 152 args h r := by
  intro args h r e; obtain ⟨a0, rfl, e1⟩ := u1_some e; exact fn_sound Go.Proofs.Try.func152 rfl rfl rfl Go.Proofs.Try.ntmps152 (Sound.none _) ((k_math_bits_Len32 F g a0 h).trans e1)

-- "math/bits.Len64"
noncomputable def c_math_bits_Len64_j1 (F g : Nat) (vs : List AV) (h : H) : Option R := (fun x5 x6 => aConvI 4 x5 h fun x7 h => aIdxStr (AV.str [0, 1, 2, 2, 3, 3, 3, 3, 4, 4, 4, 4, 4, 4, 4, 4, 5, 5, 5, 5, 5, 5, 5, 5, 5, 5, 5, 5, 5, 5, 5, 5, 6, 6, 6, 6, 6, 6, 6, 6, 6, 6, 6, 6, 6, 6, 6, 6, 6, 6, 6, 6, 6, 6, 6, 6, 6, 6, 6, 6, 6, 6, 6, 6, 7, 7, 7, 7, 7, 7, 7, 7, 7, 7, 7, 7, 7, 7, 7, 7, 7, 7, 7, 7, 7, 7, 7, 7, 7, 7, 7, 7, 7, 7, 7, 7, 7, 7, 7, 7, 7, 7, 7, 7, 7, 7, 7, 7, 7, 7, 7, 7, 7, 7, 7, 7, 7, 7, 7, 7, 7, 7, 7, 7, 7, 7, 7, 7, 8, 8, 8, 8, 8, 8, 8, 8, 8, 8, 8, 8, 8, 8, 8, 8, 8, 8, 8, 8, 8, 8, 8, 8, 8, 8, 8, 8, 8, 8, 8, 8, 8, 8, 8, 8, 8, 8, 8, 8, 8, 8, 8, 8, 8, 8, 8, 8, 8, 8, 8, 8, 8, 8, 8, 8, 8, 8, 8, 8, 8, 8, 8, 8, 8, 8, 8, 8, 8, 8, 8, 8, 8, 8, 8, 8, 8, 8, 8, 8, 8, 8, 8, 8, 8, 8, 8, 8, 8, 8, 8, 8, 8, 8, 8, 8, 8, 8, 8, 8, 8, 8, 8, 8, 8, 8, 8, 8, 8, 8, 8, 8, 8, 8, 8, 8, 8, 8, 8, 8, 8, 8, 8, 8, 8, 8, 8, 8] 256) x7 h fun x8 h => aConvI 3 x8 h fun x9 h => aArith iadd x6 x9 h fun x10 h => some (x10, h)) (hd vs) (hd (tl vs))
noncomputable def c_math_bits_Len64_j2 (F g : Nat) (vs : List AV) (h : H) : Option R := (fun x3 x4 => aCmpI (fun a b => ile b a) x3 (AV.int 7 (Int.ofNat 256)) h fun x11 h => withBool x11 fun t12 => bc t12 (aShr x3 (AV.int 7 (Int.ofNat 8)) h fun x13 h => aArith iadd x4 (AV.int 3 (Int.ofNat 8)) h fun x14 h => (c_math_bits_Len64_j1 F g) [x13, x14] h) ((c_math_bits_Len64_j1 F g) [x3, x4] h)) (hd vs) (hd (tl vs))
noncomputable def c_math_bits_Len64_j3 (F g : Nat) (vs : List AV) (h : H) : Option R := (fun x1 x2 => aCmpI (fun a b => ile b a) x1 (AV.int 7 (Int.ofNat 65536)) h fun x15 h => withBool x15 fun t16 => bc t16 (aShr x1 (AV.int 7 (Int.ofNat 16)) h fun x17 h => aArith iadd x2 (AV.int 3 (Int.ofNat 16)) h fun x18 h => (c_math_bits_Len64_j2 F g) [x17, x18] h) ((c_math_bits_Len64_j2 F g) [x1, x2] h)) (hd vs) (hd (tl vs))
noncomputable def c_math_bits_Len64 (F g : Nat) (a0 : AV) (h : H) : Option R := aCmpI (fun a b => ile b a) a0 (AV.int 7 (Int.ofNat 4294967296)) h fun x19 h => withBool x19 fun t20 => bc t20 (aShr a0 (AV.int 7 (Int.ofNat 32)) h fun x21 h => (c_math_bits_Len64_j3 F g) [x21, (AV.int 3 (Int.ofNat 32))] h) ((c_math_bits_Len64_j3 F g) [a0, (AV.int 3 (Int.ofNat 0))] h)
noncomputable def A_math_bits_Len64 : An := (.two .o (.at_ [0, 2] (.two .o (.two (.two .o .o) .o)) (.at_ [0, 2] (.two .o (.two (.two .o .o) .o)) (.at_ [0, 2] (.two .o (.two (.two .o .o) .o)) (.two .o .o)))))
noncomputable def b_math_bits_Len64 : Code := bodyOf Go.Proofs.Try.f153
theorem k_math_bits_Len64 (F g : Nat) (a0 : AV) (h : H) : callD Go.Proofs.Try.prog (fun _ _ _ => none : Env) 25 F b_math_bits_Len64 [2] A_math_bits_Len64 [a0] h = c_math_bits_Len64 F g a0 h := by kernel_rfl
theorem s_math_bits_Len64 (F g : Nat) : ∀ args h r, u1 (c_math_bits_Len64 F g) args h = some r → Tri Go.Proofs.Try.prog 153 args h r := by
  intro args h r e; obtain ⟨a0, rfl, e1⟩ := u1_some e; exact fn_sound Go.Proofs.Try.func153 rfl rfl rfl Go.Proofs.Try.ntmps153 (Sound.none _) ((k_math_bits_Len64 F g a0 h).trans e1)

-- "math/bits.Len"
noncomputable def c_math_bits_Len (F g : Nat) (a0 : AV) (h : H) : Option R := withBool (AV.bool false) fun t1 => bc t1 (aConvI 6 a0 h fun x2 h => bindR (c_math_bits_Len32 F g x2 h) fun x3 h => some (x3, h)) (bindR (c_math_bits_Len64 F g a0 h) fun x4 h => some (x4, h))
noncomputable def A_math_bits_Len : An := (.two .o (.two (.two (.two .o .o) .o) (.two .o .o)))
noncomputable def b_math_bits_Len : Code := bodyOf Go.Proofs.Try.f132
theorem k_math_bits_Len (F g : Nat) (a0 : AV) (h : H) : callD Go.Proofs.Try.prog (Env.add (Env.add (fun _ _ _ => none : Env) 152 (u1 (c_math_bits_Len32 F g))) 153 (u1 (c_math_bits_Len64 F g))) 8 F b_math_bits_Len [2] A_math_bits_Len [a0] h = c_math_bits_Len F g a0 h := by kernel_rfl
theorem s_math_bits_Len (F g : Nat) : ∀ args h r, u1 (c_math_bits_Len F g) args h = some r → Tri Go.Proofs.Try.prog 132 args h r := by
  intro args h r e; obtain ⟨a0, rfl, e1⟩ := u1_some e; exact fn_sound Go.Proofs.Try.func132 rfl rfl rfl Go.Proofs.Try.ntmps132 (Sound.add (Sound.add (Sound.none _) (s_math_bits_Len32 F g)) (s_math_bits_Len64 F g)) ((k_math_bits_Len F g a0 h).trans e1)

-- "slices.insertionSortCmpFunc[*loop.example/treenumbers/impl.node]"
noncomputable abbrev D_slices_insertionSortCmpFunc_beeb (F g : Nat) (E : Env) : Env := E
noncomputable abbrev G_slices_insertionSortCmpFunc_beeb (F g : Nat) (E : Env) : Env := (D_slices_insertionSortCmpFunc_beeb F g E)
noncomputable def c_slices_insertionSortCmpFunc_beeb_j1 (F g : Nat) (kc2 : List AV → H → Option R) (kc10 : List AV → H → Option R) (vs : List AV) (h : H) : Option R := (fun x18 x19 x20 x21 x22 x23 x24 x25 => aPick x24 x25 (AV.bool false) h fun x26 _ => withBool x26 fun t27 => bc t27 (aArith isub x23 (AV.int 3 (Int.ofNat 1)) h fun x28 _ => aArith isub x23 (AV.int 3 (Int.ofNat 1)) h fun x29 _ => aIdxAddr 1 x18 x29 h fun x30 _ => aLoad x30 h fun x31 _ => aIdxAddr 1 x18 x23 h fun x32 _ => aLoad x32 h fun x33 _ => aIdxAddr 1 x18 x23 h fun x34 _ => aStore x34 x31 h fun x35 h => aIdxAddr 1 x18 x28 h fun x36 _ => aStore x36 x33 h fun x37 h => aArith isub x23 (AV.int 3 (Int.ofNat 1)) h fun x38 h => kc10 [x18, x19, x20, x21, x22, x38] h) (aArith iadd x22 (AV.int 3 (Int.ofNat 1)) h fun x39 h => kc2 [x18, x19, x20, x21, x39] h)) (hd vs) (hd (tl vs)) (hd (tl (tl vs))) (hd (tl (tl (tl vs)))) (hd (tl (tl (tl (tl vs))))) (hd (tl (tl (tl (tl (tl vs)))))) (hd (tl (tl (tl (tl (tl (tl vs))))))) (hd (tl (tl (tl (tl (tl (tl (tl vs))))))))
noncomputable def c_slices_insertionSortCmpFunc_beeb_l2 (F g : Nat) (E : Env) (kc2 : List AV → H → Option R) : List AV → H → (List AV → H → Option R) → Option R := fun vs h kc10 => (fun x11 x12 x13 x14 x15 x16 => aCmpI (fun a b => ilt b a) x16 x12 h fun x17 _ => guardB true x17 (aIdxAddr 1 x11 x16 h fun x40 _ => aLoad x40 h fun x41 _ => aArith isub x16 (AV.int 3 (Int.ofNat 1)) h fun x42 _ => aIdxAddr 1 x11 x42 h fun x43 _ => aLoad x43 h fun x44 _ => dCall (G_slices_insertionSortCmpFunc_beeb F g E) x14 [x41, x44] h fun x45 h => aCmpI ilt x45 (AV.int 3 (Int.ofNat 0)) h fun x46 _ => (c_slices_insertionSortCmpFunc_beeb_j1 F g kc2 kc10) [x11, x12, x13, x14, x15, x16, x17, x46] h) ((c_slices_insertionSortCmpFunc_beeb_j1 F g kc2 kc10) [x11, x12, x13, x14, x15, x16, x17, (AV.one .tup (AV.leaf .nil))] h)) (hd vs) (hd (tl vs)) (hd (tl (tl vs))) (hd (tl (tl (tl vs)))) (hd (tl (tl (tl (tl vs))))) (hd (tl (tl (tl (tl (tl vs))))))
noncomputable def c_slices_insertionSortCmpFunc_beeb_l3 (F g : Nat) (E : Env) : List AV → H → (List AV → H → Option R) → Option R := fun vs h kc2 => (fun x3 x4 x5 x6 x7 => aCmpI ilt x7 x5 h fun x8 h => withBool x8 fun t9 => bc t9 (loopD F (c_slices_insertionSortCmpFunc_beeb_l2 F g E kc2) [x3, x4, x5, x6, x7, x7] h) (some (AV.one .tup (AV.leaf .nil), h))) (hd vs) (hd (tl vs)) (hd (tl (tl vs))) (hd (tl (tl (tl vs)))) (hd (tl (tl (tl (tl vs)))))
noncomputable def c_slices_insertionSortCmpFunc_beeb (F g : Nat) (E : Env) (a0 a1 a2 a3 : AV) (h : H) : Option R := aArith iadd a1 (AV.int 3 (Int.ofNat 1)) h fun x1 h => loopD F (c_slices_insertionSortCmpFunc_beeb_l3 F g E) [a0, a1, a2, a3, x1] h
noncomputable def A_slices_insertionSortCmpFunc_beeb : An := (.two .o (.two (.at_ [0, 1, 2, 3, 8] (.two (.two .o (.two .o .o)) (.two (.two (.two .o (.two (.at_ [0, 1, 2, 3, 8, 9] (.two (.two (.at_ [0, 1, 2, 3, 8, 9, 21, 33] .o .o) (.two .o .o)) (.two (.two .o .o) .o)) .o) .o)) .o) .o)) .o) .o))
noncomputable def b_slices_insertionSortCmpFunc_beeb : Code := bodyOf Go.Proofs.Try.f155
theorem k_slices_insertionSortCmpFunc_beeb (F g : Nat) (E : Env) (a0 a1 a2 a3 : AV) (h : H) : callD Go.Proofs.Try.prog (G_slices_insertionSortCmpFunc_beeb F g E) 53 F b_slices_insertionSortCmpFunc_beeb [] A_slices_insertionSortCmpFunc_beeb [a0, a1, a2, a3] h = c_slices_insertionSortCmpFunc_beeb F g E a0 a1 a2 a3 h := by kernel_rfl
theorem s_slices_insertionSortCmpFunc_beeb (F g : Nat) (E : Env) (hE : Sound Go.Proofs.Try.prog E) : ∀ args h r, u4 (c_slices_insertionSortCmpFunc_beeb F g E) args h = some r → Tri Go.Proofs.Try.prog 155 args h r := by
  intro args h r e; obtain ⟨a0, a1, a2, a3, rfl, e1⟩ := u4_some e; exact fn_sound Go.Proofs.Try.func155 rfl rfl rfl Go.Proofs.Try.ntmps155 hE ((k_slices_insertionSortCmpFunc_beeb F g E a0 a1 a2 a3 h).trans e1)

-- "slices.pdqsortCmpFunc[*loop.example/treenumbers/impl.node]"
noncomputable abbrev D_slices_pdqsortCmpFunc_beeb (F g : Nat) (E : Env) : Env := E
noncomputable abbrev G_slices_pdqsortCmpFunc_beeb (F g : Nat) (E : Env) : Env := (Env.add (Env.add (Env.add (Env.add (D_slices_pdqsortCmpFunc_beeb F g E) 155 (u4 (c_slices_insertionSortCmpFunc_beeb F g (D_slices_pdqsortCmpFunc_beeb F g E)))) 156 (fun _ _ => none)) 158 (fun _ _ => none)) 157 (fun _ _ => none))
noncomputable def c_slices_pdqsortCmpFunc_beeb_j1 (F g : Nat) (vs : List AV) (h : H) : Option R := (fun x15 x16 x17 x18 x19 x20 x21 x22 => none) (hd vs) (hd (tl vs)) (hd (tl (tl vs))) (hd (tl (tl (tl vs)))) (hd (tl (tl (tl (tl vs))))) (hd (tl (tl (tl (tl (tl vs)))))) (hd (tl (tl (tl (tl (tl (tl vs))))))) (hd (tl (tl (tl (tl (tl (tl (tl vs))))))))
noncomputable def c_slices_pdqsortCmpFunc_beeb_l2 (F g : Nat) (E : Env) : List AV → H → (List AV → H → Option R) → Option R := fun vs h kc1 => (fun x2 x3 x4 x5 x6 x7 x8 => aArith isub x4 x3 h fun x9 h => aCmpI ile x9 (AV.int 3 (Int.ofNat 12)) h fun x10 h => withBool x10 fun t11 => bc t11 (bindR (c_slices_insertionSortCmpFunc_beeb F g (D_slices_pdqsortCmpFunc_beeb F g E) x2 x3 x4 x6 h) fun x12 h => some (AV.one .tup (AV.leaf .nil), h)) (aCmpI ieq x5 (AV.int 3 (Int.ofNat 0)) h fun x13 h => withBool x13 fun t14 => bc t14 (none) (aNot x7 h fun x23 h => withBool x23 fun t24 => bc t24 (none) ((c_slices_pdqsortCmpFunc_beeb_j1 F g) [x2, x3, x4, x5, x6, x7, x8, x9] h)))) (hd vs) (hd (tl vs)) (hd (tl (tl vs))) (hd (tl (tl (tl vs)))) (hd (tl (tl (tl (tl vs))))) (hd (tl (tl (tl (tl (tl vs)))))) (hd (tl (tl (tl (tl (tl (tl vs)))))))
noncomputable def c_slices_pdqsortCmpFunc_beeb (F g : Nat) (E : Env) (a0 a1 a2 a3 a4 : AV) (h : H) : Option R := loopD F (c_slices_pdqsortCmpFunc_beeb_l2 F g E) [a0, a1, a2, a3, a4, (AV.bool true), (AV.bool true)] h
noncomputable def A_slices_pdqsortCmpFunc_beeb : An := (.two .o (.two .o (.two (.at_ [0, 1, 2, 3, 4, 10, 11] (.two (.two .o (.two (.two .o (.two (.two .o .o) .o)) (.two (.two .o (.two (.two .o .o) .o)) (.at_ [0, 1, 2, 3, 4, 10, 11, 12] (.two .o (.two (.two .o .o) .o)) (.two .o (.at_ [0, 1, 2, 3, 4, 10, 11, 12, 13, 14] (.two .o (.two (.two .o (.two .o .o)) .o)) (.at_ [0, 1, 2, 3, 4, 10, 11, 12, 13] (.two (.at_ [0, 1, 2, 3, 4, 10, 11, 12, 13, 14, 69, 70] .o (.at_ [0, 1, 2, 3, 4, 10, 11, 12, 13, 72, 74] .o .o)) (.two (.two .o (.two .o .o)) .o)) (.two (.two (.at_ [0, 1, 2, 3, 4, 10, 11, 12, 13, 83, 96] .o .o) (.two (.two .o (.two .o .o)) .o)) (.two .o (.two .o (.two .o (.two .o (.two .o (.two (.two .o (.two .o .o)) (.two .o (.two .o .o)))))))))))))))) .o) .o) .o)))
noncomputable def b_slices_pdqsortCmpFunc_beeb : Code := bodyOf Go.Proofs.Try.f139
theorem k_slices_pdqsortCmpFunc_beeb (F g : Nat) (E : Env) (a0 a1 a2 a3 a4 : AV) (h : H) : callD Go.Proofs.Try.prog (G_slices_pdqsortCmpFunc_beeb F g E) 148 F b_slices_pdqsortCmpFunc_beeb [] A_slices_pdqsortCmpFunc_beeb [a0, a1, a2, a3, a4] h = c_slices_pdqsortCmpFunc_beeb F g E a0 a1 a2 a3 a4 h := by kernel_rfl
theorem s_slices_pdqsortCmpFunc_beeb (F g : Nat) (E : Env) (hE : Sound Go.Proofs.Try.prog E) : ∀ args h r, u5 (c_slices_pdqsortCmpFunc_beeb F g E) args h = some r → Tri Go.Proofs.Try.prog 139 args h r := by
  intro args h r e; obtain ⟨a0, a1, a2, a3, a4, rfl, e1⟩ := u5_some e; exact fn_sound Go.Proofs.Try.func139 rfl rfl rfl Go.Proofs.Try.ntmps139 (Sound.add (Sound.add (Sound.add (Sound.add hE (s_slices_insertionSortCmpFunc_beeb F g (D_slices_pdqsortCmpFunc_beeb F g E) hE)) (fun _ _ _ e => by cases e)) (fun _ _ _ e => by cases e)) (fun _ _ _ e => by cases e)) ((k_slices_pdqsortCmpFunc_beeb F g E a0 a1 a2 a3 a4 h).trans e1)

-- "slices.SortFunc[[]*loop.example/treenumbers/impl.node,*loop.example/treenumbers/impl.node]"
noncomputable abbrev D_slices_SortFunc_4168 (F g : Nat) (E : Env) : Env := E
noncomputable abbrev G_slices_SortFunc_4168 (F g : Nat) (E : Env) : Env := (Env.add (Env.add (D_slices_SortFunc_4168 F g E) 132 (u1 (c_math_bits_Len F g))) 139 (u5 (c_slices_pdqsortCmpFunc_beeb F g (D_slices_SortFunc_4168 F g E))))
noncomputable def c_slices_SortFunc_4168 (F g : Nat) (E : Env) (a0 a1 : AV) (h : H) : Option R := aLenK 1 a0 h fun x1 h => aConvI 7 x1 h fun x2 h => bindR (c_math_bits_Len F g x2 h) fun x3 h => bindR (c_slices_pdqsortCmpFunc_beeb F g (D_slices_SortFunc_4168 F g E) a0 (AV.int 3 (Int.ofNat 0)) x1 x3 a1 h) fun x4 h => some (AV.one .tup (AV.leaf .nil), h)
noncomputable def A_slices_SortFunc_4168 : An := (.two .o .o)
noncomputable def b_slices_SortFunc_4168 : Code := bodyOf Go.Proofs.Try.f115
theorem k_slices_SortFunc_4168 (F g : Nat) (E : Env) (a0 a1 : AV) (h : H) : callD Go.Proofs.Try.prog (G_slices_SortFunc_4168 F g E) 14 F b_slices_SortFunc_4168 [] A_slices_SortFunc_4168 [a0, a1] h = c_slices_SortFunc_4168 F g E a0 a1 h := by kernel_rfl
theorem s_slices_SortFunc_4168 (F g : Nat) (E : Env) (hE : Sound Go.Proofs.Try.prog E) : ∀ args h r, u2 (c_slices_SortFunc_4168 F g E) args h = some r → Tri Go.Proofs.Try.prog 115 args h r := by
  intro args h r e; obtain ⟨a0, a1, rfl, e1⟩ := u2_some e; exact fn_sound Go.Proofs.Try.func115 rfl rfl rfl Go.Proofs.Try.ntmps115 (Sound.add (Sound.add hE (s_math_bits_Len F g)) (s_slices_pdqsortCmpFunc_beeb F g (D_slices_SortFunc_4168 F g E) hE)) ((k_slices_SortFunc_4168 F g E a0 a1 h).trans e1)

-- "loop.example/treenumbers/impl.compareTexts"
noncomputable def c_impl_compareTexts (F g : Nat) (a0 a1 : AV) (h : H) : Option R := bindR (c_impl_node_text F g a0 h) fun x1 h => bindR (c_impl_node_text F g a1 h) fun x2 h => bindR (Go.AI.T.c_strings_Compare F g x1 x2 h) fun x3 h => some (x3, h)
noncomputable def A_impl_compareTexts : An := (.two .o (.two .o .o))
noncomputable def b_impl_compareTexts : Code := bodyOf Go.Proofs.Try.f116
theorem k_impl_compareTexts (F g : Nat) (a0 a1 : AV) (h : H) : callD Go.Proofs.Try.prog (Env.add (Env.add (fun _ _ _ => none : Env) 74 (u1 (c_impl_node_text F g))) 140 (u2 (Go.AI.T.c_strings_Compare F g))) 10 F b_impl_compareTexts [4] A_impl_compareTexts [a0, a1] h = c_impl_compareTexts F g a0 a1 h := by kernel_rfl
theorem s_impl_compareTexts (F g : Nat) : ∀ args h r, u2 (c_impl_compareTexts F g) args h = some r → Tri Go.Proofs.Try.prog 116 args h r := by
  intro args h r e; obtain ⟨a0, a1, rfl, e1⟩ := u2_some e; exact fn_sound Go.Proofs.Try.func116 rfl rfl rfl Go.Proofs.Try.ntmps116 (Sound.add (Sound.add (Sound.none _) (s_impl_node_text F g)) (Go.AI.T.s_strings_Compare F g)) ((k_impl_compareTexts F g a0 a1 h).trans e1)

-- "(*loop.example/treenumbers/impl.node).sort"
noncomputable abbrev D_impl_node_sort (F g : Nat) : Env := (Env.add (fun _ _ _ => none : Env) 116 (u2 (c_impl_compareTexts F g)))
noncomputable def c_impl_node_sort_l1 (F g : Nat) (self : AV → H → Option R) : List AV → H → (List AV → H → Option R) → Option R := fun vs h kc5 => (fun x6 x7 x8 x9 => aCmpI ilt x9 x8 h fun x10 h => withBool x10 fun t11 => bc t11 (aIdxAddr 1 x7 x9 h fun x12 h => aLoad x12 h fun x13 h => bindR (self x13 h) fun x14 h => aArith iadd x9 (AV.int 3 (Int.ofNat 1)) h fun x15 h => kc5 [x6, x7, x8, x15] h) (aNilCheck x6 h fun x16 h => aField 2 x16 h fun x17 h => aLoad x17 h fun x18 h => bindR (c_slices_SortFunc_4168 F g (D_impl_node_sort F g) x18 (AV.func (.func 116) (AV.leaf .nil) (AV.leaf .nil)) h) fun x19 h => some (AV.one .tup (AV.leaf .nil), h))) (hd vs) (hd (tl vs)) (hd (tl (tl vs))) (hd (tl (tl (tl vs))))
noncomputable def c_impl_node_sort (F g : Nat) : AV → H → Option R := Nat.rec (motive := fun _ => AV → H → Option R) (fun _ _ => none) (fun g self a0 h => aNilCheck a0 h fun x1 h => aField 2 x1 h fun x2 h => aLoad x2 h fun x3 h => aLenK 1 x3 h fun x4 h => loopD F (c_impl_node_sort_l1 F g self) [a0, x3, x4, (AV.int 3 (Int.ofNat 0))] h) g
noncomputable def A_impl_node_sort : An := (.two (.two .o (.two (.at_ [0, 7, 8, 9] (.two .o (.two (.two .o .o) (.two (.two (.two .o .o) .o) .o))) .o) .o)) .o)
noncomputable def b_impl_node_sort : Code := bodyOf Go.Proofs.Try.f73
theorem k_impl_node_sort (F g : Nat) (a0 : AV) (h : H) : callD Go.Proofs.Try.prog (Env.add (Env.add (D_impl_node_sort F g) 115 (u2 (c_slices_SortFunc_4168 F g (D_impl_node_sort F g)))) 73 (u1 (c_impl_node_sort F g))) 21 F b_impl_node_sort [] A_impl_node_sort [a0] h = c_impl_node_sort F (g + 1) a0 h := by kernel_rfl
theorem s_impl_node_sort (F g : Nat) : ∀ args h r, u1 (c_impl_node_sort F g) args h = some r → Tri Go.Proofs.Try.prog 73 args h r := by
  induction g with
  | zero => intro args h r e; obtain ⟨a0, rfl, e⟩ := u1_some e; cases e
  | succ g ih => intro args h r e; obtain ⟨a0, rfl, e1⟩ := u1_some e; exact fn_sound Go.Proofs.Try.func73 rfl rfl rfl Go.Proofs.Try.ntmps73 (Sound.add (Sound.add (Sound.add (Sound.none _) (s_impl_compareTexts F g)) (s_slices_SortFunc_4168 F g (D_impl_node_sort F g) (Sound.add (Sound.none _) (s_impl_compareTexts F g)))) ih) ((k_impl_node_sort F g a0 h).trans e1)

-- "loop.example/treenumbers/impl.TreeSorted"
noncomputable def c_impl_TreeSorted (F g : Nat) (a0 : AV) (h : H) : Option R := bindR (Go.AI.T.c_impl_readTree F g a0 h) fun x1 h => aExtract x1 0 h fun x2 h => aExtract x1 1 h fun x3 h => aNot x3 h fun x4 h => withBool x4 fun t5 => bc t5 (some (AV.one .tup (AV.cons (AV.str [] 0) (AV.cons (AV.bool false) (AV.leaf .nil))), h)) (bindR (c_impl_node_sort F g x2 h) fun x6 h => bindR (c_impl_node_text F g x2 h) fun x7 h => some (AV.one .tup (AV.cons x7 (AV.cons (AV.bool true) (AV.leaf .nil))), h))
noncomputable def A_impl_TreeSorted : An := (.two .o (.two .o (.two (.two .o (.two (.two .o .o) .o)) (.two .o (.two .o .o)))))
noncomputable def b_impl_TreeSorted : Code := bodyOf Go.Proofs.Try.f20
theorem k_impl_TreeSorted (F g : Nat) (a0 : AV) (h : H) : callD Go.Proofs.Try.prog (Env.add (Env.add (Env.add (fun _ _ _ => none : Env) 72 (u1 (Go.AI.T.c_impl_readTree F g))) 73 (u1 (c_impl_node_sort F g))) 74 (u1 (c_impl_node_text F g))) 17 F b_impl_TreeSorted [2, 3] A_impl_TreeSorted [a0] h = c_impl_TreeSorted F g a0 h := by kernel_rfl
theorem s_impl_TreeSorted (F g : Nat) : ∀ args h r, u1 (c_impl_TreeSorted F g) args h = some r → Tri Go.Proofs.Try.prog 20 args h r := by
  intro args h r e; obtain ⟨a0, rfl, e1⟩ := u1_some e; exact fn_sound Go.Proofs.Try.func20 rfl rfl rfl Go.Proofs.Try.ntmps20 (Sound.add (Sound.add (Sound.add (Sound.none _) (Go.AI.T.s_impl_readTree F g)) (s_impl_node_sort F g)) (s_impl_node_text F g)) ((k_impl_TreeSorted F g a0 h).trans e1)

-- "loop.example/treenumbers/impl.CodeJoin"
noncomputable def c_impl_CodeJoin_j1 (F g : Nat) (vs : List AV) (h : H) : Option R := (fun x8 x9 x10 x11 => aPick x10 (AV.bool true) x11 h fun x12 h => withBool x12 fun t13 => bc t13 (some (AV.one .tup (AV.cons (AV.str [] 0) (AV.cons (AV.bool false) (AV.leaf .nil))), h)) (aAppend 1 16 x8 x9 h fun x14 h => bindR (c_impl_TreeOf F g x14 h) fun x15 h => aExtract x15 0 h fun x16 h => aExtract x15 1 h fun x17 h => aNot x17 h fun x18 h => withBool x18 fun t19 => bc t19 (some (AV.one .tup (AV.cons (AV.str [] 0) (AV.cons (AV.bool false) (AV.leaf .nil))), h)) (bindR (c_impl_TreeSorted F g x16 h) fun x20 h => aExtract x20 0 h fun x21 h => aExtract x20 1 h fun x22 h => some (AV.one .tup (AV.cons x21 (AV.cons x22 (AV.leaf .nil))), h)))) (hd vs) (hd (tl vs)) (hd (tl (tl vs))) (hd (tl (tl (tl vs))))
noncomputable def c_impl_CodeJoin (F g : Nat) (a0 a1 : AV) (h : H) : Option R := bindR (c_impl_TreeChildren F g a0 h) fun x1 h => aExtract x1 0 h fun x2 h => aExtract x1 1 h fun x3 h => bindR (c_impl_TreeChildren F g a1 h) fun x4 h => aExtract x4 0 h fun x5 h => aExtract x4 1 h fun x6 h => aNot x3 h fun x7 h => guardB false x7 (aNot x6 h fun x23 h => (c_impl_CodeJoin_j1 F g) [x2, x5, x7, x23] h) ((c_impl_CodeJoin_j1 F g) [x2, x5, x7, (AV.one .tup (AV.leaf .nil))] h)
noncomputable def A_impl_CodeJoin : An := (.two .o (.two .o (.two .o (.two (.two (.at_ [6, 8, 24, 26] .o .o) (.two (.two .o .o) .o)) (.two .o (.two (.two .o (.two (.two .o .o) .o)) (.two .o .o)))))))
noncomputable def b_impl_CodeJoin : Code := bodyOf Go.Proofs.Try.f31
theorem k_impl_CodeJoin (F g : Nat) (a0 a1 : AV) (h : H) : callD Go.Proofs.Try.prog (Env.add (Env.add (Env.add (fun _ _ _ => none : Env) 83 (u1 (c_impl_TreeChildren F g))) 29 (u1 (c_impl_TreeOf F g))) 20 (u1 (c_impl_TreeSorted F g))) 41 F b_impl_CodeJoin [4, 5] A_impl_CodeJoin [a0, a1] h = c_impl_CodeJoin F g a0 a1 h := by kernel_rfl
theorem s_impl_CodeJoin (F g : Nat) : ∀ args h r, u2 (c_impl_CodeJoin F g) args h = some r → Tri Go.Proofs.Try.prog 31 args h r := by
  intro args h r e; obtain ⟨a0, a1, rfl, e1⟩ := u2_some e; exact fn_sound Go.Proofs.Try.func31 rfl rfl rfl Go.Proofs.Try.ntmps31 (Sound.add (Sound.add (Sound.add (Sound.none _) (s_impl_TreeChildren F g)) (s_impl_TreeOf F g)) (s_impl_TreeSorted F g)) ((k_impl_CodeJoin F g a0 a1 h).trans e1)

-- "loop.example/treenumbers/spec.l1End"
noncomputable def c_spec_l1End_j1 (F g : Nat) (kc1 : List AV → H → Option R) (vs : List AV) (h : H) : Option R := (fun x8 x9 x10 => aCmpI ieq x9 (AV.int 3 (Int.ofNat 0)) h fun x11 h => withBool x11 fun t12 => bc t12 (aArith iadd x10 (AV.int 3 (Int.ofNat 1)) h fun x13 h => some (x13, h)) (aCmpI ilt x9 (AV.int 3 (Int.ofNat 0)) h fun x14 h => withBool x14 fun t15 => bc t15 (some ((AV.int 3 (Int.negSucc 0)), h)) (aArith iadd x10 (AV.int 3 (Int.ofNat 1)) h fun x16 h => kc1 [x8, x9, x16] h))) (hd vs) (hd (tl vs)) (hd (tl (tl vs)))
noncomputable def c_spec_l1End_l2 (F g : Nat) : List AV → H → (List AV → H → Option R) → Option R := fun vs h kc1 => (fun x2 x3 x4 => aLenK 0 x2 h fun x5 h => aCmpI ilt x4 x5 h fun x6 h => withBool x6 fun t7 => bc t7 (aIdxStr x2 x4 h fun x17 h => aCmpI ieq x17 (AV.int 4 (Int.ofNat 40)) h fun x18 h => withBool x18 fun t19 => bc t19 (aArith iadd x3 (AV.int 3 (Int.ofNat 1)) h fun x20 h => (c_spec_l1End_j1 F g kc1) [x2, x20, x4] h) (aCmpI ieq x17 (AV.int 4 (Int.ofNat 41)) h fun x21 h => withBool x21 fun t22 => bc t22 (aArith isub x3 (AV.int 3 (Int.ofNat 1)) h fun x23 h => (c_spec_l1End_j1 F g kc1) [x2, x23, x4] h) (some ((AV.int 3 (Int.negSucc 0)), h)))) (some ((AV.int 3 (Int.negSucc 0)), h))) (hd vs) (hd (tl vs)) (hd (tl (tl vs)))
noncomputable def c_spec_l1End (F g : Nat) (a0 a1 : AV) (h : H) : Option R := loopD F (c_spec_l1End_l2 F g) [a0, (AV.int 3 (Int.ofNat 0)), a1] h
noncomputable def A_spec_l1End : An := (.two .o (.two .o (.two (.two .o (.two (.at_ [0, 5, 6] (.two (.two .o (.two .o .o)) (.two (.two (.at_ [0, 5, 6] (.two .o (.two (.two .o (.two .o (.two .o (.two .o (.two .o .o))))) .o)) (.two (.two .o (.two (.two .o .o) .o)) (.two .o (.two (.two .o .o) .o)))) .o) .o)) .o) .o)) (.two .o .o))))
noncomputable def b_spec_l1End : Code := bodyOf Go.Proofs.Try.f113
theorem k_spec_l1End (F g : Nat) (a0 a1 : AV) (h : H) : callD Go.Proofs.Try.prog (fun _ _ _ => none : Env) 31 F b_spec_l1End [4] A_spec_l1End [a0, a1] h = c_spec_l1End F g a0 a1 h := by kernel_rfl
theorem s_spec_l1End (F g : Nat) : ∀ args h r, u2 (c_spec_l1End F g) args h = some r → Tri Go.Proofs.Try.prog 113 args h r := by
  intro args h r e; obtain ⟨a0, a1, rfl, e1⟩ := u2_some e; exact fn_sound Go.Proofs.Try.func113 rfl rfl rfl Go.Proofs.Try.ntmps113 (Sound.none _) ((k_spec_l1End F g a0 a1 h).trans e1)

-- "loop.example/treenumbers/spec.l1Kids"
noncomputable def c_spec_l1Kids_l1 (F g : Nat) : List AV → H → (List AV → H → Option R) → Option R := fun vs h kc2 => (fun x3 x4 x5 => aLenK 0 x3 h fun x6 h => aArith isub x6 (AV.int 3 (Int.ofNat 1)) h fun x7 h => aCmpI ilt x5 x7 h fun x8 h => withBool x8 fun t9 => bc t9 (bindR (c_spec_l1End F g x3 x5 h) fun x10 h => aSliceS x3 (some x5) (some x10) none h fun x11 h => aBuildSlice 1 1 [(0, 1, x11)] h fun x12 h => aAppend 1 16 x4 x12 h fun x13 h => kc2 [x3, x13, x10] h) (some (x4, h))) (hd vs) (hd (tl vs)) (hd (tl (tl vs)))
noncomputable def c_spec_l1Kids (F g : Nat) (a0 : AV) (h : H) : Option R := aBuildSlice 0 1 [] h fun x1 h => loopD F (c_spec_l1Kids_l1 F g) [a0, x1, (AV.int 3 (Int.ofNat 1))] h
noncomputable def A_spec_l1Kids : An := (.two .o (.two .o (.two .o (.two (.two (.at_ [0, 3, 4] (.two (.two .o (.two .o .o)) (.two (.two .o (.two .o .o)) .o)) .o) .o) (.two .o .o)))))
noncomputable def b_spec_l1Kids : Code := bodyOf Go.Proofs.Try.f93
theorem k_spec_l1Kids (F g : Nat) (a0 : AV) (h : H) : callD Go.Proofs.Try.prog (Env.add (fun _ _ _ => none : Env) 113 (u2 (c_spec_l1End F g))) 24 F b_spec_l1Kids [2] A_spec_l1Kids [a0] h = c_spec_l1Kids F g a0 h := by kernel_rfl
theorem s_spec_l1Kids (F g : Nat) : ∀ args h r, u1 (c_spec_l1Kids F g) args h = some r → Tri Go.Proofs.Try.prog 93 args h r := by
  intro args h r e; obtain ⟨a0, rfl, e1⟩ := u1_some e; exact fn_sound Go.Proofs.Try.func93 rfl rfl rfl Go.Proofs.Try.ntmps93 (Sound.add (Sound.none _) (s_spec_l1End F g)) ((k_spec_l1Kids F g a0 h).trans e1)

-- "loop.example/treenumbers/spec.l1Of"
noncomputable def c_spec_l1Of_l1 (F g : Nat) : List AV → H → (List AV → H → Option R) → Option R := fun vs h kc1 => (fun x2 x3 x4 => aLenK 1 x2 h fun x5 h => aCmpI ilt x4 x5 h fun x6 h => withBool x6 fun t7 => bc t7 (aIdxAddr 1 x2 x4 h fun x8 h => aLoad x8 h fun x9 h => aSAdd x3 x9 h fun x10 h => aArith iadd x4 (AV.int 3 (Int.ofNat 1)) h fun x11 h => kc1 [x2, x10, x11] h) (aSAdd x3 (AV.str [41] 1) h fun x12 h => some (x12, h))) (hd vs) (hd (tl vs)) (hd (tl (tl vs)))
noncomputable def c_spec_l1Of (F g : Nat) (a0 : AV) (h : H) : Option R := loopD F (c_spec_l1Of_l1 F g) [a0, (AV.str [40] 1), (AV.int 3 (Int.ofNat 0))] h
noncomputable def A_spec_l1Of : An := (.two .o (.two .o (.two (.two .o (.two (.at_ [0, 3, 4] (.two (.two .o (.two .o .o)) (.two (.two .o .o) .o)) .o) .o)) (.two .o .o))))
noncomputable def b_spec_l1Of : Code := bodyOf Go.Proofs.Try.f120
theorem k_spec_l1Of (F g : Nat) (a0 : AV) (h : H) : callD Go.Proofs.Try.prog (fun _ _ _ => none : Env) 19 F b_spec_l1Of [2] A_spec_l1Of [a0] h = c_spec_l1Of F g a0 h := by kernel_rfl
theorem s_spec_l1Of (F g : Nat) : ∀ args h r, u1 (c_spec_l1Of F g) args h = some r → Tri Go.Proofs.Try.prog 120 args h r := by
  intro args h r e; obtain ⟨a0, rfl, e1⟩ := u1_some e; exact fn_sound Go.Proofs.Try.func120 rfl rfl rfl Go.Proofs.Try.ntmps120 (Sound.none _) ((k_spec_l1Of F g a0 h).trans e1)

-- "loop.example/treenumbers/spec.l1Sorted"
noncomputable def c_spec_l1Sorted_j1 (F g : Nat) (kc3 : List AV → H → Option R) (kc14 : List AV → H → Option R) (vs : List AV) (h : H) : Option R := (fun x21 x22 x23 x24 x25 x26 x27 => aPick x26 x27 (AV.bool false) h fun x28 h => withBool x28 fun t29 => bc t29 (aArith isub x25 (AV.int 3 (Int.ofNat 1)) h fun x30 h => kc14 [x21, x22, x23, x24, x30] h) (aBuildSlice 0 1 [] h fun x31 h => aSliceV 1 x22 none (some x25) none h fun x32 _ => aAppend 1 16 x31 x32 h fun x33 h => aBuildSlice 1 1 [(0, 1, x24)] h fun x34 h => aAppend 1 16 x33 x34 h fun x35 h => aSliceV 1 x22 (some x25) none none h fun x36 _ => aAppend 1 16 x35 x36 h fun x37 h => aArith iadd x23 (AV.int 3 (Int.ofNat 1)) h fun x38 h => kc3 [x21, x37, x38] h)) (hd vs) (hd (tl vs)) (hd (tl (tl vs))) (hd (tl (tl (tl vs)))) (hd (tl (tl (tl (tl vs))))) (hd (tl (tl (tl (tl (tl vs)))))) (hd (tl (tl (tl (tl (tl (tl vs)))))))
noncomputable def c_spec_l1Sorted_l2 (F g : Nat) (kc3 : List AV → H → Option R) : List AV → H → (List AV → H → Option R) → Option R := fun vs h kc14 => (fun x15 x16 x17 x18 x19 => aCmpI (fun a b => ilt b a) x19 (AV.int 3 (Int.ofNat 0)) h fun x20 h => guardB true x20 (aArith isub x19 (AV.int 3 (Int.ofNat 1)) h fun x39 h => aIdxAddr 1 x16 x39 h fun x40 h => aLoad x40 h fun x41 h => aCmpS ltL x18 x41 h fun x42 h => (c_spec_l1Sorted_j1 F g kc3 kc14) [x15, x16, x17, x18, x19, x20, x42] h) ((c_spec_l1Sorted_j1 F g kc3 kc14) [x15, x16, x17, x18, x19, x20, (AV.one .tup (AV.leaf .nil))] h)) (hd vs) (hd (tl vs)) (hd (tl (tl vs))) (hd (tl (tl (tl vs)))) (hd (tl (tl (tl (tl vs)))))
noncomputable def c_spec_l1Sorted_l3 (F g : Nat) (self : AV → H → Option R) : List AV → H → (List AV → H → Option R) → Option R := fun vs h kc3 => (fun x4 x5 x6 => aLenK 1 x4 h fun x7 h => aCmpI ilt x6 x7 h fun x8 h => withBool x8 fun t9 => bc t9 (aIdxAddr 1 x4 x6 h fun x10 h => aLoad x10 h fun x11 h => bindR (self x11 h) fun x12 h => aLenK 1 x5 h fun x13 h => loopD F (c_spec_l1Sorted_l2 F g kc3) [x4, x5, x6, x12, x13] h) (bindR (c_spec_l1Of F g x5 h) fun x43 h => some (x43, h))) (hd vs) (hd (tl vs)) (hd (tl (tl vs)))
noncomputable def c_spec_l1Sorted (F g : Nat) : AV → H → Option R := Nat.rec (motive := fun _ => AV → H → Option R) (fun _ _ => none) (fun g self a0 h => bindR (c_spec_l1Kids F g a0 h) fun x1 h => aBuildSlice 0 1 [] h fun x2 h => loopD F (c_spec_l1Sorted_l3 F g self) [x1, x2, (AV.int 3 (Int.ofNat 0))] h) g
noncomputable def A_spec_l1Sorted : An := (.two .o (.two .o (.two .o (.two (.two .o (.two (.at_ [3, 4, 5] (.two (.two .o (.two .o .o)) (.two (.two (.two .o (.two .o (.two (.two (.at_ [3, 4, 5, 6, 7] (.two (.two (.at_ [3, 4, 5, 6, 7, 26, 33] .o .o) (.two .o .o)) (.two .o .o)) .o) .o) .o))) .o) .o)) .o) .o)) (.two .o .o)))))
noncomputable def b_spec_l1Sorted : Code := bodyOf Go.Proofs.Try.f85
theorem k_spec_l1Sorted (F g : Nat) (a0 : AV) (h : H) : callD Go.Proofs.Try.prog (Env.add (Env.add (Env.add (fun _ _ _ => none : Env) 93 (u1 (c_spec_l1Kids F g))) 120 (u1 (c_spec_l1Of F g))) 85 (u1 (c_spec_l1Sorted F g))) 51 F b_spec_l1Sorted [2] A_spec_l1Sorted [a0] h = c_spec_l1Sorted F (g + 1) a0 h := by kernel_rfl
theorem s_spec_l1Sorted (F g : Nat) : ∀ args h r, u1 (c_spec_l1Sorted F g) args h = some r → Tri Go.Proofs.Try.prog 85 args h r := by
  induction g with
  | zero => intro args h r e; obtain ⟨a0, rfl, e⟩ := u1_some e; cases e
  | succ g ih => intro args h r e; obtain ⟨a0, rfl, e1⟩ := u1_some e; exact fn_sound Go.Proofs.Try.func85 rfl rfl rfl Go.Proofs.Try.ntmps85 (Sound.add (Sound.add (Sound.add (Sound.none _) (s_spec_l1Kids F g)) (s_spec_l1Of F g)) ih) ((k_spec_l1Sorted F g a0 h).trans e1)

-- "loop.example/treenumbers/spec.l1Done"
noncomputable def c_spec_l1Done (F g : Nat) (a0 : AV) (h : H) : Option R := bindR (Go.AI.T.c_spec_TreeIn F g a0 h) fun x1 h => aNot x1 h fun x2 h => withBool x2 fun t3 => bc t3 (some (AV.one .tup (AV.cons (AV.str [] 0) (AV.cons (AV.bool false) (AV.leaf .nil))), h)) (some (AV.one .tup (AV.cons a0 (AV.cons (AV.bool true) (AV.leaf .nil))), h))
noncomputable def A_spec_l1Done : An := (.two .o (.two (.two .o (.two (.two .o .o) .o)) (.two .o .o)))
noncomputable def b_spec_l1Done : Code := bodyOf Go.Proofs.Try.f84
theorem k_spec_l1Done (F g : Nat) (a0 : AV) (h : H) : callD Go.Proofs.Try.prog (Env.add (fun _ _ _ => none : Env) 68 (u1 (Go.AI.T.c_spec_TreeIn F g))) 8 F b_spec_l1Done [2, 3] A_spec_l1Done [a0] h = c_spec_l1Done F g a0 h := by kernel_rfl
theorem s_spec_l1Done (F g : Nat) : ∀ args h r, u1 (c_spec_l1Done F g) args h = some r → Tri Go.Proofs.Try.prog 84 args h r := by
  intro args h r e; obtain ⟨a0, rfl, e1⟩ := u1_some e; exact fn_sound Go.Proofs.Try.func84 rfl rfl rfl Go.Proofs.Try.ntmps84 (Sound.add (Sound.none _) (Go.AI.T.s_spec_TreeIn F g)) ((k_spec_l1Done F g a0 h).trans e1)

-- "loop.example/treenumbers/spec.CodeJoin"
noncomputable def c_spec_CodeJoin_j1 (F g : Nat) (vs : List AV) (h : H) : Option R := (fun x3 x4 x5 x6 => aPick x5 (AV.bool true) x6 h fun x7 h => withBool x7 fun t8 => bc t8 (some (AV.one .tup (AV.cons (AV.str [] 0) (AV.cons (AV.bool false) (AV.leaf .nil))), h)) (aLenK 0 x3 h fun x9 _ => aArith isub x9 (AV.int 3 (Int.ofNat 1)) h fun x10 _ => aSliceS x3 none (some x10) none h fun x11 _ => aSliceS x4 (some (AV.int 3 (Int.ofNat 1))) none none h fun x12 _ => aSAdd x11 x12 h fun x13 _ => bindR (c_spec_l1Sorted F g x13 h) fun x14 h => bindR (c_spec_l1Done F g x14 h) fun x15 h => aExtract x15 0 h fun x16 _ => aExtract x15 1 h fun x17 _ => some (AV.one .tup (AV.cons x16 (AV.cons x17 (AV.leaf .nil))), h))) (hd vs) (hd (tl vs)) (hd (tl (tl vs))) (hd (tl (tl (tl vs))))
noncomputable def c_spec_CodeJoin (F g : Nat) (a0 a1 : AV) (h : H) : Option R := bindR (Go.AI.T.c_spec_TreeIn F g a0 h) fun x1 h => aNot x1 h fun x2 h => guardB false x2 (bindR (Go.AI.T.c_spec_TreeIn F g a1 h) fun x18 h => aNot x18 h fun x19 h => (c_spec_CodeJoin_j1 F g) [a0, a1, x2, x19] h) ((c_spec_CodeJoin_j1 F g) [a0, a1, x2, (AV.one .tup (AV.leaf .nil))] h)
noncomputable def A_spec_CodeJoin : An := (.two .o (.two (.two (.at_ [0, 1, 9, 12] .o .o) (.two (.two .o .o) .o)) (.two .o .o)))
noncomputable def b_spec_CodeJoin : Code := bodyOf Go.Proofs.Try.f32
theorem k_spec_CodeJoin (F g : Nat) (a0 a1 : AV) (h : H) : callD Go.Proofs.Try.prog (Env.add (Env.add (Env.add (fun _ _ _ => none : Env) 68 (u1 (Go.AI.T.c_spec_TreeIn F g))) 85 (u1 (c_spec_l1Sorted F g))) 84 (u1 (c_spec_l1Done F g))) 26 F b_spec_CodeJoin [4, 5] A_spec_CodeJoin [a0, a1] h = c_spec_CodeJoin F g a0 a1 h := by kernel_rfl
theorem s_spec_CodeJoin (F g : Nat) : ∀ args h r, u2 (c_spec_CodeJoin F g) args h = some r → Tri Go.Proofs.Try.prog 32 args h r := by
  intro args h r e; obtain ⟨a0, a1, rfl, e1⟩ := u2_some e; exact fn_sound Go.Proofs.Try.func32 rfl rfl rfl Go.Proofs.Try.ntmps32 (Sound.add (Sound.add (Sound.add (Sound.none _) (Go.AI.T.s_spec_TreeIn F g)) (s_spec_l1Sorted F g)) (s_spec_l1Done F g)) ((k_spec_CodeJoin F g a0 a1 h).trans e1)

-- "(loop.example/treenumbers/impl.codeBook).prime"
noncomputable def c_impl_codeBook_prime (F g : Nat) (other : AV → AV → H → Option R) (a0 a1 : AV) (h : H) : Option R := bindR (other a0 a1 h) fun x1 h => aExtract x1 0 h fun x2 h => aExtract x1 1 h fun x3 h => aNot x3 h fun x4 h => withBool x4 fun t5 => bc t5 (some (AV.one .tup (AV.cons (AV.int 3 (Int.ofNat 0)) (AV.cons (AV.bool false) (AV.leaf .nil))), h)) (bindR (Go.AI.T.c_impl_CodePrime F g x2 h) fun x6 h => aExtract x6 0 h fun x7 h => aExtract x6 1 h fun x8 h => some (AV.one .tup (AV.cons x7 (AV.cons x8 (AV.leaf .nil))), h))
noncomputable def A_impl_codeBook_prime : An := (.two .o (.two .o (.two (.two .o (.two (.two .o .o) .o)) (.two .o .o))))
noncomputable def b_impl_codeBook_prime : Code := bodyOf Go.Proofs.Try.f138
theorem k_impl_codeBook_prime (F g : Nat) (other : AV → AV → H → Option R) (a0 a1 : AV) (h : H) : callD Go.Proofs.Try.prog (Env.add (Env.add (fun _ _ _ => none : Env) 24 (u1 (Go.AI.T.c_impl_CodePrime F g))) 112 (u2 other)) 20 F b_impl_codeBook_prime [4, 5] A_impl_codeBook_prime [a0, a1] h = c_impl_codeBook_prime F g other a0 a1 h := by kernel_rfl
theorem s_impl_codeBook_prime (F g : Nat) (other : AV → AV → H → Option R) (ho : ∀ args h r, u2 other args h = some r → Tri Go.Proofs.Try.prog 112 args h r) : ∀ args h r, u2 (c_impl_codeBook_prime F g other) args h = some r → Tri Go.Proofs.Try.prog 138 args h r := by
  intro args h r e; obtain ⟨a0, a1, rfl, e1⟩ := u2_some e; exact fn_sound Go.Proofs.Try.func138 rfl rfl rfl Go.Proofs.Try.ntmps138 (Sound.add (Sound.add (Sound.none _) (Go.AI.T.s_impl_CodePrime F g)) ho) ((k_impl_codeBook_prime F g other a0 a1 h).trans e1)

-- "(loop.example/treenumbers/impl.codeBook).code"
noncomputable def c_impl_codeBook_code_j1 (F g : Nat) (kc10 : List AV → H → Option R) (vs : List AV) (h : H) : Option R := (fun x25 x26 x27 x28 x29 x30 x31 x32 x33 => aPick x32 (AV.bool true) x33 h fun x34 h => withBool x34 fun t35 => bc t35 (some (AV.one .tup (AV.cons (AV.int 3 (Int.ofNat 0)) (AV.cons (AV.bool false) (AV.leaf .nil))), h)) (aArith imul x27 x28 h fun x36 h => aArith iadd x31 (AV.int 3 (Int.ofNat 1)) h fun x37 h => kc10 [x25, x26, x36, x29, x30, x37] h)) (hd vs) (hd (tl vs)) (hd (tl (tl vs))) (hd (tl (tl (tl vs)))) (hd (tl (tl (tl (tl vs))))) (hd (tl (tl (tl (tl (tl vs)))))) (hd (tl (tl (tl (tl (tl (tl vs))))))) (hd (tl (tl (tl (tl (tl (tl (tl vs)))))))) (hd (tl (tl (tl (tl (tl (tl (tl (tl vs)))))))))
noncomputable def c_impl_codeBook_code_l2 (F g : Nat) (self : AV → AV → H → Option R) : List AV → H → (List AV → H → Option R) → Option R := fun vs h kc10 => (fun x11 x12 x13 x14 x15 x16 => aCmpI ilt x16 x15 h fun x17 h => withBool x17 fun t18 => bc t18 (aIdxAddr 1 x14 x16 h fun x19 h => aLoad x19 h fun x20 h => bindR (c_impl_codeBook_prime F g self x11 x20 h) fun x21 h => aExtract x21 0 h fun x22 h => aExtract x21 1 h fun x23 h => aNot x23 h fun x24 h => guardB false x24 (aArith imul x13 x22 h fun x38 h => aCmpI (fun a b => ilt b a) x38 (AV.int 3 (Int.ofNat 5000)) h fun x39 h => (c_impl_codeBook_code_j1 F g kc10) [x11, x12, x13, x22, x14, x15, x16, x24, x39] h) ((c_impl_codeBook_code_j1 F g kc10) [x11, x12, x13, x22, x14, x15, x16, x24, (AV.one .tup (AV.leaf .nil))] h)) (bc (keyD TypeDesc.string x12) (aMapSet x11 x12 x13 h fun x40 h => some (AV.one .tup (AV.cons x13 (AV.cons (AV.bool true) (AV.leaf .nil))), h)) none)) (hd vs) (hd (tl vs)) (hd (tl (tl vs))) (hd (tl (tl (tl vs)))) (hd (tl (tl (tl (tl vs))))) (hd (tl (tl (tl (tl (tl vs))))))
noncomputable def c_impl_codeBook_code (F g : Nat) : AV → AV → H → Option R := Nat.rec (motive := fun _ => AV → AV → H → Option R) (fun _ _ _ => none) (fun g self a0 a1 h => bindR (c_impl_node_text F g a1 h) fun x1 h => bc (keyD TypeDesc.string x1) (aLookup true (AV.int 3 (Int.ofNat 0)) a0 x1 h fun x2 h => aExtract x2 0 h fun x3 h => aExtract x2 1 h fun x4 h => withBool x4 fun t5 => bc t5 (some (AV.one .tup (AV.cons x3 (AV.cons (AV.bool true) (AV.leaf .nil))), h)) (aNilCheck a1 h fun x6 h => aField 2 x6 h fun x7 h => aLoad x7 h fun x8 h => aLenK 1 x8 h fun x9 h => loopD F (c_impl_codeBook_code_l2 F g self) [a0, x1, (AV.int 3 (Int.ofNat 1)), x8, x9, (AV.int 3 (Int.ofNat 0))] h)) none) g
noncomputable def A_impl_codeBook_code : An := (.two .o (.two .o (.two (.two .o (.two .o (.two (.two .o .o) .o))) (.two .o (.two (.two .o (.two (.at_ [0, 6, 9, 27, 28, 29] (.two .o (.two (.two .o .o) (.two (.two (.two .o (.two .o (.two (.two (.at_ [0, 6, 9, 12, 27, 28, 29, 41, 45] .o .o) (.two (.two .o .o) .o)) .o))) .o) .o))) .o) .o)) (.two .o (.two .o .o)))))))
noncomputable def b_impl_codeBook_code : Code := bodyOf Go.Proofs.Try.f112
theorem k_impl_codeBook_code (F g : Nat) (a0 a1 : AV) (h : H) : callD Go.Proofs.Try.prog (Env.add (Env.add (fun _ _ _ => none : Env) 74 (u1 (c_impl_node_text F g))) 138 (u2 (c_impl_codeBook_prime F g (c_impl_codeBook_code F g)))) 55 F b_impl_codeBook_code [4, 5] A_impl_codeBook_code [a0, a1] h = c_impl_codeBook_code F (g + 1) a0 a1 h := by kernel_rfl
theorem s_impl_codeBook_code (F g : Nat) : ∀ args h r, u2 (c_impl_codeBook_code F g) args h = some r → Tri Go.Proofs.Try.prog 112 args h r := by
  induction g with
  | zero => intro args h r e; obtain ⟨a0, a1, rfl, e⟩ := u2_some e; cases e
  | succ g ih => intro args h r e; obtain ⟨a0, a1, rfl, e1⟩ := u2_some e; exact fn_sound Go.Proofs.Try.func112 rfl rfl rfl Go.Proofs.Try.ntmps112 (Sound.add (Sound.add (Sound.none _) (s_impl_node_text F g)) (s_impl_codeBook_prime F g (c_impl_codeBook_code F g) ih)) ((k_impl_codeBook_code F g a0 a1 h).trans e1)

-- "(loop.example/treenumbers/impl.codeBook).ask"
noncomputable def c_impl_codeBook_ask (F g : Nat) (a0 a1 : AV) (h : H) : Option R := aClearM a0 h fun x1 h => bindR (Go.AI.T.c_impl_readTree F g a1 h) fun x2 h => aExtract x2 0 h fun x3 h => aExtract x2 1 h fun x4 h => aNot x4 h fun x5 h => withBool x5 fun t6 => bc t6 (some (AV.one .tup (AV.cons (AV.int 3 (Int.ofNat 0)) (AV.cons (AV.bool false) (AV.leaf .nil))), h)) (bindR (c_impl_codeBook_code F g a0 x3 h) fun x7 h => aExtract x7 0 h fun x8 h => aExtract x7 1 h fun x9 h => some (AV.one .tup (AV.cons x8 (AV.cons x9 (AV.leaf .nil))), h))
noncomputable def A_impl_codeBook_ask : An := (.two .o (.two .o (.two .o (.two (.two .o (.two (.two .o .o) .o)) (.two .o .o)))))
noncomputable def b_impl_codeBook_ask : Code := bodyOf Go.Proofs.Try.f67
theorem k_impl_codeBook_ask (F g : Nat) (a0 a1 : AV) (h : H) : callD Go.Proofs.Try.prog (Env.add (Env.add (fun _ _ _ => none : Env) 72 (u1 (Go.AI.T.c_impl_readTree F g))) 112 (u2 (c_impl_codeBook_code F g))) 21 F b_impl_codeBook_ask [4, 5] A_impl_codeBook_ask [a0, a1] h = c_impl_codeBook_ask F g a0 a1 h := by kernel_rfl
theorem s_impl_codeBook_ask (F g : Nat) : ∀ args h r, u2 (c_impl_codeBook_ask F g) args h = some r → Tri Go.Proofs.Try.prog 67 args h r := by
  intro args h r e; obtain ⟨a0, a1, rfl, e1⟩ := u2_some e; exact fn_sound Go.Proofs.Try.func67 rfl rfl rfl Go.Proofs.Try.ntmps67 (Sound.add (Sound.add (Sound.none _) (Go.AI.T.s_impl_readTree F g)) (s_impl_codeBook_code F g)) ((k_impl_codeBook_ask F g a0 a1 h).trans e1)

-- "loop.example/treenumbers/impl.CodeOf"
noncomputable def c_impl_CodeOf (F g : Nat) (a0 : AV) (h : H) : Option R := aMakeMap h fun x1 h => bindR (c_impl_codeBook_ask F g x1 a0 h) fun x2 h => aExtract x2 0 h fun x3 h => aExtract x2 1 h fun x4 h => some (AV.one .tup (AV.cons x3 (AV.cons x4 (AV.leaf .nil))), h)
noncomputable def A_impl_CodeOf : An := (.two .o (.two .o .o))
noncomputable def b_impl_CodeOf : Code := bodyOf Go.Proofs.Try.f17
theorem k_impl_CodeOf (F g : Nat) (a0 : AV) (h : H) : callD Go.Proofs.Try.prog (Env.add (fun _ _ _ => none : Env) 67 (u2 (c_impl_codeBook_ask F g))) 9 F b_impl_CodeOf [2, 3] A_impl_CodeOf [a0] h = c_impl_CodeOf F g a0 h := by kernel_rfl
theorem s_impl_CodeOf (F g : Nat) : ∀ args h r, u1 (c_impl_CodeOf F g) args h = some r → Tri Go.Proofs.Try.prog 17 args h r := by
  intro args h r e; obtain ⟨a0, rfl, e1⟩ := u1_some e; exact fn_sound Go.Proofs.Try.func17 rfl rfl rfl Go.Proofs.Try.ntmps17 (Sound.add (Sound.none _) (s_impl_codeBook_ask F g)) ((k_impl_CodeOf F g a0 h).trans e1)

end
end Go.AI.V
namespace Go.AI.T
open Go Go.RowKit Go.AI
set_option linter.unusedVariables false
set_option linter.unusedSimpArgs false
set_option maxRecDepth 100000
noncomputable section
-- "loop.example/treenumbers/spec.DrawCodeJoin"
noncomputable def c_raw_spec_DrawCodeJoin (F g : Nat) (a0 : AV) (h : H) : Option R := bindR (Go.AI.c_spec_l6Open F g a0 h) fun x1 h => bindR (Go.AI.c_spec_l91Tree F g x1 (AV.int 3 (Int.ofNat 5)) h) fun x2 h => bindR (Go.AI.c_spec_l91Tree F g x1 (AV.int 3 (Int.ofNat 5)) h) fun x3 h => some (AV.one .tup (AV.cons x2 (AV.cons x3 (AV.leaf .nil))), h)
noncomputable def A_raw_spec_DrawCodeJoin : An := (.two .o (.two .o (.two .o (.two .o .o))))
noncomputable def b_raw_spec_DrawCodeJoin : Code := bodyOf Go.Proofs.Try.f30
theorem k_raw_spec_DrawCodeJoin (F g : Nat) (a0 : AV) (h : H) : callD Go.Proofs.Try.prog (Env.add (Env.add (fun _ _ _ => none : Env) 66 (u1 (Go.AI.c_spec_l6Open F g))) 65 (u2 (Go.AI.c_spec_l91Tree F g))) 13 F b_raw_spec_DrawCodeJoin [2, 3] A_raw_spec_DrawCodeJoin [a0] h = c_raw_spec_DrawCodeJoin F g a0 h := by kernel_rfl
theorem s_raw_spec_DrawCodeJoin (F g : Nat) : ∀ args h r, u1 (c_raw_spec_DrawCodeJoin F g) args h = some r → Tri Go.Proofs.Try.prog 30 args h r := by
  intro args h r e; obtain ⟨a0, rfl, e1⟩ := u1_some e; exact fn_sound Go.Proofs.Try.func30 rfl rfl rfl Go.Proofs.Try.ntmps30 (Sound.add (Sound.add (Sound.none _) (Go.AI.s_spec_l6Open F g)) (Go.AI.s_spec_l91Tree F g)) ((k_raw_spec_DrawCodeJoin F g a0 h).trans e1)

end
end Go.AI.T
namespace Go.AI.T
open Go Go.RowKit Go.AI
set_option linter.unusedVariables false
set_option linter.unusedSimpArgs false
set_option maxRecDepth 100000
noncomputable section
def fgC (c : AV → H → Option R) (a0 : AV) (h : H) : Option R := bc a0.plain (onSome (c a0 H0) fun r => bc r.1.plain (some (r.1, h)) none) none
theorem fgC_sound {f : FuncId} {c : AV → H → Option R} (hs : ∀ args h r, u1 c args h = some r → Tri Go.Proofs.Try.prog f args h r) : ∀ args h r, u1 (fgC c) args h = some r → Tri Go.Proofs.Try.prog f args h r := by
  intro args h r e
  obtain ⟨a0, rfl, e1⟩ := u1_some e
  obtain ⟨h0, e2⟩ := bif_some e1
  obtain ⟨r1, h1, e3⟩ := onSome_some e2
  obtain ⟨h2, e4⟩ := bif_some e3
  cases e4
  exact Tri.forget (hs [a0] H0 r1 h1) (fun a hm => by cases hm with | head => exact h0 | tail _ hm => cases hm) h2 h
def fgC2 (c : AV → AV → H → Option R) (a0 a1 : AV) (h : H) : Option R := bc a0.plain (bc a1.plain (onSome (c a0 a1 H0) fun r => bc r.1.plain (some (r.1, h)) none) none) none
theorem fgC2_sound {f : FuncId} {c : AV → AV → H → Option R} (hs : ∀ args h r, u2 c args h = some r → Tri Go.Proofs.Try.prog f args h r) : ∀ args h r, u2 (fgC2 c) args h = some r → Tri Go.Proofs.Try.prog f args h r := by
  intro args h r e
  obtain ⟨a0, a1, rfl, e1⟩ := u2_some e
  obtain ⟨h0, e2⟩ := bif_some e1
  obtain ⟨h0', e2'⟩ := bif_some e2
  obtain ⟨r1, h1, e3⟩ := onSome_some e2'
  obtain ⟨h2, e4⟩ := bif_some e3
  cases e4
  exact Tri.forget (hs [a0, a1] H0 r1 h1) (fun a hm => by
    cases hm with
    | head => exact h0
    | tail _ hm => cases hm with
      | head => exact h0'
      | tail _ hm => cases hm) h2 h
def c_impl_CodeJoin (F g : Nat) (a0 a1 : AV) (h : H) : Option R := fgC2 (Go.AI.V.c_impl_CodeJoin 20000 20) a0 a1 h
theorem s_impl_CodeJoin (F g : Nat) : ∀ args h r, u2 (c_impl_CodeJoin F g) args h = some r → Tri Go.Proofs.Try.prog id_impl_CodeJoin args h r := fgC2_sound (Go.AI.V.s_impl_CodeJoin 20000 20)
def c_spec_CodeJoin (F g : Nat) (a0 a1 : AV) (h : H) : Option R := fgC2 (Go.AI.V.c_spec_CodeJoin 20000 20) a0 a1 h
theorem s_spec_CodeJoin (F g : Nat) : ∀ args h r, u2 (c_spec_CodeJoin F g) args h = some r → Tri Go.Proofs.Try.prog id_spec_CodeJoin args h r := fgC2_sound (Go.AI.V.s_spec_CodeJoin 20000 20)
def c_impl_CodeOf (F g : Nat) (a0 : AV) (h : H) : Option R := fgC (Go.AI.V.c_impl_CodeOf 20000 20) a0 h
theorem s_impl_CodeOf (F g : Nat) : ∀ args h r, u1 (c_impl_CodeOf F g) args h = some r → Tri Go.Proofs.Try.prog id_impl_CodeOf args h r := fgC_sound (Go.AI.V.s_impl_CodeOf 20000 20)
def c_spec_DrawCodeJoin (F g : Nat) (a0 : AV) (h : H) : Option R := quietC (c_raw_spec_DrawCodeJoin 20000 20) a0 h
theorem s_spec_DrawCodeJoin (F g : Nat) : ∀ args h r, u1 (c_spec_DrawCodeJoin F g) args h = some r → Tri Go.Proofs.Try.prog id_spec_DrawCodeJoin args h r := quietC_sound (s_raw_spec_DrawCodeJoin 20000 20)
end
end Go.AI.T
namespace Go.AI.T
open Go Go.RowKit Go.AI
set_option linter.unusedVariables false
set_option linter.unusedSimpArgs false
set_option maxRecDepth 100000
noncomputable section
-- "loop.example/treenumbers/laws.FnJoin"
noncomputable def c_laws_FnJoin_j1 (F g : Nat) (vs : List AV) (h : H) : Option R := (fun x34 x35 => aPick x34 x35 (AV.bool false) h fun x36 h => some (x36, h)) (hd vs) (hd (tl vs))
noncomputable def c_laws_FnJoin_j2 (F g : Nat) (vs : List AV) (h : H) : Option R := (fun x93 x94 => aPick x93 x94 (AV.bool false) h fun x95 h => some (x95, h)) (hd vs) (hd (tl vs))
noncomputable def c_laws_FnJoin_j3 (F g : Nat) (vs : List AV) (h : H) : Option R := (fun x90 x91 x92 => guardB true x90 (aPick x91 (AV.bool true) x92 h fun x96 h => (c_laws_FnJoin_j2 F g) [x90, x96] h) ((c_laws_FnJoin_j2 F g) [x90, (AV.one .tup (AV.leaf .nil))] h)) (hd vs) (hd (tl vs)) (hd (tl (tl vs)))
noncomputable def c_laws_FnJoin_j4 (F g : Nat) (vs : List AV) (h : H) : Option R := (fun x86 x87 x88 x89 => guardB false x87 (aPick x88 x89 (AV.bool false) h fun x97 h => (c_laws_FnJoin_j3 F g) [x86, x87, x97] h) ((c_laws_FnJoin_j3 F g) [x86, x87, (AV.one .tup (AV.leaf .nil))] h)) (hd vs) (hd (tl vs)) (hd (tl (tl vs))) (hd (tl (tl (tl vs))))
noncomputable def c_laws_FnJoin_j5 (F g : Nat) (vs : List AV) (h : H) : Option R := (fun x80 x81 x82 x83 x84 x85 => guardB true x85 (aArith imul x80 x81 h fun x98 h => aCmpI ieq x82 x98 h fun x99 h => (c_laws_FnJoin_j4 F g) [x83, x84, x85, x99] h) ((c_laws_FnJoin_j4 F g) [x83, x84, x85, (AV.one .tup (AV.leaf .nil))] h)) (hd vs) (hd (tl vs)) (hd (tl (tl vs))) (hd (tl (tl (tl vs)))) (hd (tl (tl (tl (tl vs))))) (hd (tl (tl (tl (tl (tl vs))))))
noncomputable def c_laws_FnJoin_j6 (F g : Nat) (vs : List AV) (h : H) : Option R := (fun x73 x74 x75 x76 x77 x78 x79 => guardB false x77 (aPick x78 x79 (AV.bool false) h fun x100 h => (c_laws_FnJoin_j5 F g) [x73, x74, x75, x76, x77, x100] h) ((c_laws_FnJoin_j5 F g) [x73, x74, x75, x76, x77, (AV.one .tup (AV.leaf .nil))] h)) (hd vs) (hd (tl vs)) (hd (tl (tl vs))) (hd (tl (tl (tl vs)))) (hd (tl (tl (tl (tl vs))))) (hd (tl (tl (tl (tl (tl vs)))))) (hd (tl (tl (tl (tl (tl (tl vs)))))))
noncomputable def c_laws_FnJoin_j7 (F g : Nat) (vs : List AV) (h : H) : Option R := (fun x66 x67 x68 x69 x70 x71 x72 => guardB true x72 ((c_laws_FnJoin_j6 F g) [x66, x67, x69, x70, x71, x72, x68] h) ((c_laws_FnJoin_j6 F g) [x66, x67, x69, x70, x71, x72, (AV.one .tup (AV.leaf .nil))] h)) (hd vs) (hd (tl vs)) (hd (tl (tl vs))) (hd (tl (tl (tl vs)))) (hd (tl (tl (tl (tl vs))))) (hd (tl (tl (tl (tl (tl vs)))))) (hd (tl (tl (tl (tl (tl (tl vs)))))))
noncomputable def c_laws_FnJoin_j8 (F g : Nat) (vs : List AV) (h : H) : Option R := (fun x59 x60 x61 x62 x63 x64 x65 => guardB false x65 ((c_laws_FnJoin_j7 F g) [x59, x61, x62, x63, x64, x65, x60] h) ((c_laws_FnJoin_j7 F g) [x59, x61, x62, x63, x64, x65, (AV.one .tup (AV.leaf .nil))] h)) (hd vs) (hd (tl vs)) (hd (tl (tl vs))) (hd (tl (tl (tl vs)))) (hd (tl (tl (tl (tl vs))))) (hd (tl (tl (tl (tl (tl vs)))))) (hd (tl (tl (tl (tl (tl (tl vs)))))))
noncomputable def c_laws_FnJoin_j9 (F g : Nat) (vs : List AV) (h : H) : Option R := (fun x50 x51 x52 x53 x54 x55 x56 x57 => aPick x56 x57 (AV.bool false) h fun x58 h => guardB true x58 (aNot x55 h fun x101 h => (c_laws_FnJoin_j8 F g) [x50, x51, x52, x53, x54, x58, x101] h) ((c_laws_FnJoin_j8 F g) [x50, x51, x52, x53, x54, x58, (AV.one .tup (AV.leaf .nil))] h)) (hd vs) (hd (tl vs)) (hd (tl (tl vs))) (hd (tl (tl (tl vs)))) (hd (tl (tl (tl (tl vs))))) (hd (tl (tl (tl (tl (tl vs)))))) (hd (tl (tl (tl (tl (tl (tl vs))))))) (hd (tl (tl (tl (tl (tl (tl (tl vs))))))))
noncomputable def c_laws_FnJoin_j10 (F g : Nat) (vs : List AV) (h : H) : Option R := (fun x23 x24 x25 x26 x27 x28 x29 x30 => aPick x29 (AV.bool true) x30 h fun x31 h => withBool x31 fun t32 => bc t32 (aEq false 0 x26 x28 h fun x33 h => guardB true x33 (aCmpS eqL x25 x27 h fun x37 h => (c_laws_FnJoin_j1 F g) [x33, x37] h) ((c_laws_FnJoin_j1 F g) [x33, (AV.one .tup (AV.leaf .nil))] h)) (bindR (c_impl_CodeOf F g x23 h) fun x38 h => aExtract x38 0 h fun x39 h => aExtract x38 1 h fun x40 h => bindR (c_impl_CodeOf F g x24 h) fun x41 h => aExtract x41 0 h fun x42 h => aExtract x41 1 h fun x43 h => bindR (c_impl_CodeOf F g x25 h) fun x44 h => aExtract x44 0 h fun x45 h => aExtract x44 1 h fun x46 h => bindR (c_impl_CodeJoin F g x24 x23 h) fun x47 h => aExtract x47 0 h fun x48 h => aExtract x47 1 h fun x49 h => guardB true x49 (aCmpS eqL x48 x25 h fun x102 h => (c_laws_FnJoin_j9 F g) [x39, x40, x42, x43, x45, x46, x49, x102] h) ((c_laws_FnJoin_j9 F g) [x39, x40, x42, x43, x45, x46, x49, (AV.one .tup (AV.leaf .nil))] h))) (hd vs) (hd (tl vs)) (hd (tl (tl vs))) (hd (tl (tl (tl vs)))) (hd (tl (tl (tl (tl vs))))) (hd (tl (tl (tl (tl (tl vs)))))) (hd (tl (tl (tl (tl (tl (tl vs))))))) (hd (tl (tl (tl (tl (tl (tl (tl vs))))))))
noncomputable def c_laws_FnJoin_j11 (F g : Nat) (vs : List AV) (h : H) : Option R := (fun x14 x15 x16 x17 x18 x19 x20 x21 => aPick x20 (AV.bool true) x21 h fun x22 h => guardB false x22 (aNot x17 h fun x103 h => (c_laws_FnJoin_j10 F g) [x14, x15, x16, x17, x18, x19, x22, x103] h) ((c_laws_FnJoin_j10 F g) [x14, x15, x16, x17, x18, x19, x22, (AV.one .tup (AV.leaf .nil))] h)) (hd vs) (hd (tl vs)) (hd (tl (tl vs))) (hd (tl (tl (tl vs)))) (hd (tl (tl (tl (tl vs))))) (hd (tl (tl (tl (tl (tl vs)))))) (hd (tl (tl (tl (tl (tl (tl vs))))))) (hd (tl (tl (tl (tl (tl (tl (tl vs))))))))
noncomputable def c_laws_FnJoin_r12 (F g : Nat) (x4 : AV) (h : H) : Option R := aExtract x4 0 h fun x5 h => aExtract x4 1 h fun x6 h => bindR (c_impl_CodeJoin F g x5 x6 h) fun x7 h => aExtract x7 0 h fun x8 h => aExtract x7 1 h fun x9 h => bindR (c_spec_CodeJoin F g x5 x6 h) fun x10 h => aExtract x10 0 h fun x11 h => aExtract x10 1 h fun x12 h => aEq true 0 x9 x12 h fun x13 h => guardB false x13 (aCmpS (fun a b => bnot (eqL a b)) x8 x11 h fun x104 h => (c_laws_FnJoin_j11 F g) [x5, x6, x8, x9, x11, x12, x13, x104] h) ((c_laws_FnJoin_j11 F g) [x5, x6, x8, x9, x11, x12, x13, (AV.one .tup (AV.leaf .nil))] h)
noncomputable def c_laws_FnJoin (F g : Nat) (a0 : AV) (h : H) : Option R := aLenK 1 a0 h fun x1 h => aCmpI (fun a b => ilt b a) x1 (AV.int 3 (Int.ofNat 1048576)) h fun x2 h => withBool x2 fun t3 => bc t3 (some ((AV.bool true), h)) (bindR (c_spec_DrawCodeJoin F g a0 h) fun x4 h => c_laws_FnJoin_r12 F g x4 h)
noncomputable def A_laws_FnJoin : An := (.two .o (.two (.two .o (.two (.two .o .o) .o)) (.two .o (.two .o (.two .o (.two (.two (.at_ [3, 4, 5, 6, 7, 8, 40, 43] .o (.at_ [3, 4, 5, 6, 7, 8, 45, 47] .o .o)) (.two (.two (.at_ [52, 55] .o .o) .o) .o)) (.two .o (.two .o (.two .o (.two .o (.two (.at_ [9, 10, 11, 12, 13, 14, 79, 82] .o (.at_ [9, 10, 11, 12, 13, 84, 87] .o (.at_ [9, 11, 12, 13, 84, 87, 89] .o (.at_ [9, 11, 13, 84, 87, 89, 90] .o (.at_ [9, 11, 13, 84, 87, 92] .o (.at_ [84, 87, 92, 97] .o (.at_ [84, 87, 98] .o (.at_ [84, 99] .o .o)))))))) .o)))))))))))
noncomputable def b_laws_FnJoin : Code := bodyOf Go.Proofs.Try.f7
theorem k_laws_FnJoin (F g : Nat) (a0 : AV) (h : H) : callD Go.Proofs.Try.prog (Env.add (Env.add (Env.add (Env.add (fun _ _ _ => none : Env) 30 (u1 (c_spec_DrawCodeJoin F g))) 31 (u2 (c_impl_CodeJoin F g))) 32 (u2 (c_spec_CodeJoin F g))) 17 (u1 (c_impl_CodeOf F g))) 101 F b_laws_FnJoin [2] A_laws_FnJoin [a0] h = c_laws_FnJoin F g a0 h := by kernel_rfl
theorem s_laws_FnJoin (F g : Nat) : ∀ args h r, u1 (c_laws_FnJoin F g) args h = some r → Tri Go.Proofs.Try.prog 7 args h r := by
  intro args h r e; obtain ⟨a0, rfl, e1⟩ := u1_some e; exact fn_sound Go.Proofs.Try.func7 rfl rfl rfl Go.Proofs.Try.ntmps7 (Sound.add (Sound.add (Sound.add (Sound.add (Sound.none _) (s_spec_DrawCodeJoin F g)) (s_impl_CodeJoin F g)) (s_spec_CodeJoin F g)) (s_impl_CodeOf F g)) ((k_laws_FnJoin F g a0 h).trans e1)

end
end Go.AI.T
namespace Go.AI.T
open Go Go.RowKit Go.AI
set_option linter.unusedVariables false
set_option linter.unusedSimpArgs false
set_option maxRecDepth 100000
noncomputable section
/-- A pair's trial; a tree's with all others. -/
def okJ (B : Blk) (s t : List Nat) : Bool := bc (Nat.ble (lenL t) 10) (tells (c_laws_FnJoin_r12 2097152 20 (.one .tup (.cons (.str s (lenL s)) (.cons (.str t (lenL t)) (.leaf .nil)))) (hCode B))) true
def okJs (B : Blk) (s : List Nat) : Bool := bc (Nat.ble (lenL s) 10) (allR (okJ B s) 17 1 1 (fun l => 40 :: l)) true
/-- The children of a tree are told. -/
def kidsTold (x : Option R) : Bool := @Option.rec R (fun _ => Bool) false (fun r => r.1.onTup false fun x => x.onCons false fun y z => z.onCons false fun b e => b.onBool false fun b => bc b (e.onLeaf false fun e => @Leaf.rec (fun _ => Bool) false false false false false false true (fun _ => false) (fun _ _ _ _ => false) (fun _ => false) e) false) x
def okK (l : List Nat) : Bool := bc (Nat.ble (lenL l) 10) (kidsTold (Go.AI.V.c_impl_TreeChildren 20000 20 (.str l (lenL l)) H0)) true
theorem okK_all : allR okK 17 1 1 (fun l => 40 :: l) = true := by kernel_rfl
theorem bc_and {p q : Bool} (h : bc p q false = true) : p = true ∧ q = true := by
  cases p with
  | true => exact ⟨rfl, h⟩
  | false => cases h
theorem kidsTold_eq {x : Option R} (h : kidsTold x = true) : ∃ y h', x = some (.one .tup (.cons y (.cons (.bool true) (.leaf .nil))), h') := by
  cases x with
  | none => cases h
  | some r =>
    obtain ⟨v, h'⟩ := r
    have h0 : v.onTup false (fun x => x.onCons false fun y z => z.onCons false fun b e => b.onBool false fun b => bc b (e.onLeaf false fun e => @Leaf.rec (fun _ => Bool) false false false false false false true (fun _ => false) (fun _ _ _ _ => false) (fun _ => false) e) false) = true := h
    clear h
    cases v using AV.casesE <;> first | (cases h0; done) | skip
    rename_i x
    have h1 : x.onCons false (fun y z => z.onCons false fun b e => b.onBool false fun b => bc b (e.onLeaf false fun e => @Leaf.rec (fun _ => Bool) false false false false false false true (fun _ => false) (fun _ _ _ _ => false) (fun _ => false) e) false) = true := h0
    clear h0
    cases x using AV.casesE <;> first | (cases h1; done) | skip
    rename_i y z
    have h2 : z.onCons false (fun b e => b.onBool false fun b => bc b (e.onLeaf false fun e => @Leaf.rec (fun _ => Bool) false false false false false false true (fun _ => false) (fun _ _ _ _ => false) (fun _ => false) e) false) = true := h1
    clear h1
    cases z using AV.casesE <;> first | (cases h2; done) | skip
    rename_i b e
    have h3 : b.onBool false (fun b => bc b (e.onLeaf false fun e => @Leaf.rec (fun _ => Bool) false false false false false false true (fun _ => false) (fun _ _ _ _ => false) (fun _ => false) e) false) = true := h2
    clear h2
    cases b using AV.casesE <;> first | (cases h3; done) | skip
    rename_i b
    obtain ⟨h4, h5⟩ := bc_and (p := b) h3
    have h4 : b = true := h4
    subst h4
    cases e using AV.casesE <;> first | (cases h5; done) | exact ⟨y, h', rfl⟩
theorem kids_good {l : List Nat} (ht : isTree l = true) (hl : l.length ≤ 10) : ∃ y h', Go.AI.V.c_impl_TreeChildren 20000 20 (.str l l.length) H0 = some (.one .tup (.cons y (.cons (.bool true) (.leaf .nil))), h') := by
  have hm := isTree_mem ht
  obtain ⟨r, hr, he⟩ := List.mem_map.1 hm
  have h1 := allR_mem okK 17 1 1 (fun l => 40 :: l) okK_all r hr
  rw [show (40 :: r) = _ from he] at h1
  unfold okK at h1
  rw [lenL_eq, ble_true hl, bc_true] at h1
  exact kidsTold_eq h1
abbrev noT : AV := .one .tup (.cons (.str [] 0) (.cons (.bool false) (.leaf .nil)))
theorem kids_bad {l : List Nat} {n : Nat} (hn : lenL l = n) (hm : n ≤ 1048576) (ht : isTree l = false) (h : H) : Go.AI.V.c_impl_TreeChildren 20000 20 (.str l n) h = some (.one .tup (.cons (.leaf .nils) (.cons (.bool false) (.leaf .nil))), h) := by
  delta Go.AI.V.c_impl_TreeChildren
  repeat (first | rw [Go.AI.T.spec_bad hn ht] | rw [Go.AI.T.read_bad hn hm ht] | rw [bindR_some'] | rw [aExtract_0] | rw [aExtract_1] | rw [Go.AI.T.aNot_b] | rw [Go.AI.T.bnot_f] | rw [Go.AI.T.bnot_t] | rw [withBool_bool] | rw [bc_true] | rw [bc_false])
theorem join_bad {s t : List Nat} (hs : s.length ≤ 300 ∧ (isTree s = true → s.length ≤ 10)) (ht : t.length ≤ 300 ∧ (isTree t = true → t.length ≤ 10)) (hb : isTree s = false ∨ isTree t = false) : ∃ h', Go.AI.V.c_impl_CodeJoin 20000 20 (.str s s.length) (.str t t.length) H0 = some (noT, h') := by
  delta Go.AI.V.c_impl_CodeJoin
  cases h1 : isTree s with
  | false =>
    rw [kids_bad (lenL_eq s) (by omega) h1, bindR_some', aExtract_0, aExtract_1]
    cases h2 : isTree t with
    | false => rw [kids_bad (lenL_eq t) (by omega) h2, bindR_some']; exact ⟨_, rfl⟩
    | true =>
      obtain ⟨y, h', e⟩ := kids_good h2 (ht.2 h2)
      rw [e, bindR_some']; exact ⟨_, rfl⟩
  | true =>
    have h2 : isTree t = false := by rcases hb with h | h; rw [h1] at h; cases h; exact h
    obtain ⟨y, h', e⟩ := kids_good h1 (hs.2 h1)
    rw [e, bindR_some', aExtract_0, aExtract_1, kids_bad (lenL_eq t) (by omega) h2, bindR_some']; exact ⟨_, rfl⟩
theorem sjoin_bad {s t : List Nat} (hb : isTree s = false ∨ isTree t = false) : ∃ h', Go.AI.V.c_spec_CodeJoin 20000 20 (.str s s.length) (.str t t.length) H0 = some (noT, h') := by
  delta Go.AI.V.c_spec_CodeJoin
  cases h1 : isTree s with
  | false => rw [Go.AI.T.spec_bad (lenL_eq s) h1, bindR_some']; exact ⟨_, rfl⟩
  | true =>
    have h2 : isTree t = false := by rcases hb with h | h; rw [h1] at h; cases h; exact h
    rw [Go.AI.T.spec_good (lenL_eq s) h1, bindR_some', aNot_b, bnot_t]
    rw [guardB_bool, bc_false, bnot_f, bc_true, Go.AI.T.spec_bad (lenL_eq t) h2, bindR_some']; exact ⟨_, rfl⟩
theorem draw_join (F g : Nat) {a0 : AV} {n : Nat} {L : List AV} {B : Blk} (ha : (a0 = .leaf .nils ∧ n = 0) ∨ a0 = .osl 0 0 n 1) (hB : 0 < n → B = .cells 2 L) (hb : ∀ i, i < n → ∃ v, L[i]? = some (.int 4 (.ofNat v)) ∧ v < 256) :
    ∃ s t : List Nat, (s.length ≤ 300 ∧ (isTree s = true → s.length ≤ 10)) ∧ (t.length ≤ 300 ∧ (isTree t = true → t.length ≤ 10)) ∧ c_spec_DrawCodeJoin F g a0 (hCode B) = some (.one .tup (.cons (.str s s.length) (.cons (.str t t.length) (.leaf .nil))), hCode B) := by
  obtain ⟨b, m, h1, e1, r1, _⟩ := open_ok (F := 20000) (g := 20) (h := hCode B) ha (fun hn => ⟨2, hB hn⟩) hb (Nat.le_refl _) (Nat.le_refl _)
  obtain ⟨s, p1, h2, g1, g2, e2, r2⟩ := tree_ok' (F := 20000) (g := 20) (n := 5) r1 (by omega) (by omega) (by omega)
  obtain ⟨t, p2, h3, k1, k2, e3, r3⟩ := tree_ok' (F := 20000) (g := 20) (n := 5) r2 (by omega) (by omega) (by omega)
  refine ⟨s, t, ⟨g1.1, fun ht => by have := g1.2 ht; omega⟩, ⟨k1.1, fun ht => by have := k1.2 ht; omega⟩, quietC_ok (h' := h3) ?_ rfl r3.lo⟩
  delta c_raw_spec_DrawCodeJoin
  rw [show (hCode B).mark = hCode B from rfl, e1, bindR_some', show AV.int 3 (Int.ofNat 5) = nI 5 from rfl, e2, bindR_some', e3, bindR_some']
end
end Go.AI.T
