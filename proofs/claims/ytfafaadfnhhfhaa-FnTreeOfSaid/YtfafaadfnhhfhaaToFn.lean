/- The functions that the law FnTreeOf reaches, as the evaluator reads them. -/
import Derived.Test.YtfafaadfnhhfhaaDf
import Derived.Test.YtfafaadfnhhfhaaGiv
import Derived.Test.YtfafaadfnhhfhaaProg
import Derived.KernelRfl
namespace Go.AI.V
open Go Go.RowKit Go.AI
set_option linter.unusedVariables false
set_option linter.unusedSimpArgs false
set_option maxRecDepth 100000
noncomputable section
-- "(*loop.example/treenumbers/impl.node).nodes"
noncomputable def c_impl_node_nodes_l1 (F g : Nat) (self : AV → H → Option R) : List AV → H → (List AV → H → Option R) → Option R := fun vs h kc6 => (fun x7 x8 x9 x10 => aCmpI ilt x10 x9 h fun x11 h => withBool x11 fun t12 => bc t12 (aIdxAddr 1 x8 x10 h fun x13 h => aLoad x13 h fun x14 h => bindR (self x14 h) fun x15 h => aAppend 1 8 x7 x15 h fun x16 h => aArith iadd x10 (AV.int 3 (Int.ofNat 1)) h fun x17 h => kc6 [x16, x8, x9, x17] h) (some (x7, h))) (hd vs) (hd (tl vs)) (hd (tl (tl vs))) (hd (tl (tl (tl vs))))
noncomputable def c_impl_node_nodes (F g : Nat) : AV → H → Option R := Nat.rec (motive := fun _ => AV → H → Option R) (fun _ _ => none) (fun g self a0 h => aBuildSlice 1 1 [(0, 1, a0)] h fun x1 h => aNilCheck a0 h fun x2 h => aField 2 x2 h fun x3 h => aLoad x3 h fun x4 h => aLenK 1 x4 h fun x5 h => loopD F (c_impl_node_nodes_l1 F g self) [x1, x4, x5, (AV.int 3 (Int.ofNat 0))] h) g
noncomputable def A_impl_node_nodes : An := (.two .o (.two .o (.two (.two .o (.two (.at_ [3, 11, 12, 13] (.two .o (.two (.two .o .o) (.two (.two (.two .o .o) .o) .o))) .o) .o)) (.two .o .o))))
noncomputable def b_impl_node_nodes : Code := bodyOf Go.Proofs.Try.f95
theorem k_impl_node_nodes (F g : Nat) (a0 : AV) (h : H) : callD Go.Proofs.Try.prog (Env.add (fun _ _ _ => none : Env) 95 (u1 (c_impl_node_nodes F g))) 23 F b_impl_node_nodes [2] A_impl_node_nodes [a0] h = c_impl_node_nodes F (g + 1) a0 h := by kernel_rfl
theorem s_impl_node_nodes (F g : Nat) : ∀ args h r, u1 (c_impl_node_nodes F g) args h = some r → Tri Go.Proofs.Try.prog 95 args h r := by
  induction g with
  | zero => intro args h r e; obtain ⟨a0, rfl, e⟩ := u1_some e; cases e
  | succ g ih => intro args h r e; obtain ⟨a0, rfl, e1⟩ := u1_some e; exact fn_sound Go.Proofs.Try.func95 rfl rfl rfl Go.Proofs.Try.ntmps95 (Sound.add (Sound.none _) ih) ((k_impl_node_nodes F g a0 h).trans e1)

-- "loop.example/treenumbers/impl.TreeNodes"
noncomputable def c_impl_TreeNodes (F g : Nat) (a0 : AV) (h : H) : Option R := bindR (Go.AI.T.c_impl_readTree F g a0 h) fun x1 h => aExtract x1 0 h fun x2 h => aExtract x1 1 h fun x3 h => aNot x3 h fun x4 h => withBool x4 fun t5 => bc t5 (some (AV.one .tup (AV.cons (AV.int 3 (Int.ofNat 0)) (AV.cons (AV.bool false) (AV.leaf .nil))), h)) (bindR (c_impl_node_nodes F g x2 h) fun x6 h => aLenK 1 x6 h fun x7 h => some (AV.one .tup (AV.cons x7 (AV.cons (AV.bool true) (AV.leaf .nil))), h))
noncomputable def A_impl_TreeNodes : An := (.two .o (.two .o (.two (.two .o (.two (.two .o .o) .o)) (.two .o .o))))
noncomputable def b_impl_TreeNodes : Code := bodyOf Go.Proofs.Try.f29
theorem k_impl_TreeNodes (F g : Nat) (a0 : AV) (h : H) : callD Go.Proofs.Try.prog (Env.add (Env.add (fun _ _ _ => none : Env) 91 (u1 (Go.AI.T.c_impl_readTree F g))) 95 (u1 (c_impl_node_nodes F g))) 16 F b_impl_TreeNodes [2, 3] A_impl_TreeNodes [a0] h = c_impl_TreeNodes F g a0 h := by kernel_rfl
theorem s_impl_TreeNodes (F g : Nat) : ∀ args h r, u1 (c_impl_TreeNodes F g) args h = some r → Tri Go.Proofs.Try.prog 29 args h r := by
  intro args h r e; obtain ⟨a0, rfl, e1⟩ := u1_some e; exact fn_sound Go.Proofs.Try.func29 rfl rfl rfl Go.Proofs.Try.ntmps29 (Sound.add (Sound.add (Sound.none _) (Go.AI.T.s_impl_readTree F g)) (s_impl_node_nodes F g)) ((k_impl_TreeNodes F g a0 h).trans e1)

end
end Go.AI.V
namespace Go.AI.T
open Go Go.RowKit Go.AI
set_option linter.unusedVariables false
set_option linter.unusedSimpArgs false
set_option maxRecDepth 100000
noncomputable section
-- "loop.example/treenumbers/spec.DrawTreeOf"
noncomputable def c_raw_spec_DrawTreeOf_l1 (F g : Nat) : List AV → H → (List AV → H → Option R) → Option R := fun vs h kc4 => (fun x5 x6 x7 x8 => aCmpI ilt x8 x7 h fun x9 h => withBool x9 fun t10 => bc t10 (bindR (Go.AI.c_spec_l91Tree F g x5 (AV.int 3 (Int.ofNat 3)) h) fun x11 h => aBuildSlice 1 1 [(0, 1, x11)] h fun x12 h => aAppend 1 16 x6 x12 h fun x13 h => aArith iadd x8 (AV.int 3 (Int.ofNat 1)) h fun x14 h => kc4 [x5, x13, x7, x14] h) (some (x6, h))) (hd vs) (hd (tl vs)) (hd (tl (tl vs))) (hd (tl (tl (tl vs))))
noncomputable def c_raw_spec_DrawTreeOf (F g : Nat) (a0 : AV) (h : H) : Option R := bindR (Go.AI.c_spec_l6Open F g a0 h) fun x1 h => aBuildSlice 0 1 [] h fun x2 h => bindR (Go.AI.c_spec_l6Rd_pick F g x1 (AV.int 3 (Int.ofNat 4)) h) fun x3 h => loopD F (c_raw_spec_DrawTreeOf_l1 F g) [x1, x2, x3, (AV.int 3 (Int.ofNat 0))] h
noncomputable def A_raw_spec_DrawTreeOf : An := (.two .o (.two .o (.two .o (.two .o (.two (.two .o (.two (.at_ [3, 4, 5, 6] (.two (.two .o (.two .o .o)) (.two (.two .o .o) .o)) .o) .o)) (.two .o .o))))))
noncomputable def b_raw_spec_DrawTreeOf : Code := bodyOf Go.Proofs.Try.f43
theorem k_raw_spec_DrawTreeOf (F g : Nat) (a0 : AV) (h : H) : callD Go.Proofs.Try.prog (Env.add (Env.add (Env.add (fun _ _ _ => none : Env) 103 (u1 (Go.AI.c_spec_l6Open F g))) 104 (u2 (Go.AI.c_spec_l6Rd_pick F g))) 105 (u2 (Go.AI.c_spec_l91Tree F g))) 23 F b_raw_spec_DrawTreeOf [2] A_raw_spec_DrawTreeOf [a0] h = c_raw_spec_DrawTreeOf F g a0 h := by kernel_rfl
theorem s_raw_spec_DrawTreeOf (F g : Nat) : ∀ args h r, u1 (c_raw_spec_DrawTreeOf F g) args h = some r → Tri Go.Proofs.Try.prog 43 args h r := by
  intro args h r e; obtain ⟨a0, rfl, e1⟩ := u1_some e; exact fn_sound Go.Proofs.Try.func43 rfl rfl rfl Go.Proofs.Try.ntmps43 (Sound.add (Sound.add (Sound.add (Sound.none _) (Go.AI.s_spec_l6Open F g)) (Go.AI.s_spec_l6Rd_pick F g)) (Go.AI.s_spec_l91Tree F g)) ((k_raw_spec_DrawTreeOf F g a0 h).trans e1)

end
end Go.AI.T
namespace Go.AI.T
open Go Go.RowKit Go.AI
set_option linter.unusedVariables false
set_option linter.unusedSimpArgs false
set_option maxRecDepth 100000
noncomputable section
def c_impl_TreeNodes (F g : Nat) (a0 : AV) (h : H) : Option R := fgC (Go.AI.V.c_impl_TreeNodes 20000 20) a0 h
theorem s_impl_TreeNodes (F g : Nat) : ∀ args h r, u1 (c_impl_TreeNodes F g) args h = some r → Tri Go.Proofs.Try.prog id_impl_TreeNodes args h r := fgC_sound (Go.AI.V.s_impl_TreeNodes 20000 20)
def c_spec_DrawTreeOf (F g : Nat) (a0 : AV) (h : H) : Option R := quietRowC (c_raw_spec_DrawTreeOf 20000 20) a0 h
theorem s_spec_DrawTreeOf (F g : Nat) : ∀ args h r, u1 (c_spec_DrawTreeOf F g) args h = some r → Tri Go.Proofs.Try.prog id_spec_DrawTreeOf args h r := quietRowC_sound (s_raw_spec_DrawTreeOf 20000 20)
end
end Go.AI.T
namespace Go.AI.T
open Go Go.RowKit Go.AI
set_option linter.unusedVariables false
set_option linter.unusedSimpArgs false
set_option maxRecDepth 100000
noncomputable section
-- "loop.example/treenumbers/impl.TreeOf"
noncomputable def c_impl_TreeOf_j1 (F g : Nat) (kc2 : List AV → H → Option R) (vs : List AV) (h : H) : Option R := (fun x17 x18 x19 x20 x21 x22 x23 => aPick x22 (AV.bool true) x23 h fun x24 h => withBool x24 fun t25 => bc t25 (some (AV.one .tup (AV.cons (AV.str [] 0) (AV.cons (AV.bool false) (AV.leaf .nil))), h)) (aArith iadd x21 (AV.int 3 (Int.ofNat 1)) h fun x26 h => kc2 [x17, x18, x19, x20, x26] h)) (hd vs) (hd (tl vs)) (hd (tl (tl vs))) (hd (tl (tl (tl vs)))) (hd (tl (tl (tl (tl vs))))) (hd (tl (tl (tl (tl (tl vs)))))) (hd (tl (tl (tl (tl (tl (tl vs)))))))
noncomputable def c_impl_TreeOf_l2 (F g : Nat) : List AV → H → (List AV → H → Option R) → Option R := fun vs h kc2 => (fun x3 x4 x5 x6 x7 => aCmpI ilt x7 x6 h fun x8 h => withBool x8 fun t9 => bc t9 (aIdxAddr 1 x5 x7 h fun x10 h => aLoad x10 h fun x11 h => bindR (c_impl_TreeNodes F g x11 h) fun x12 h => aExtract x12 0 h fun x13 h => aExtract x12 1 h fun x14 h => aArith iadd x4 x13 h fun x15 h => aNot x14 h fun x16 h => guardB false x16 (aCmpI (fun a b => ilt b a) x15 (AV.int 3 (Int.ofNat 9)) h fun x27 h => (c_impl_TreeOf_j1 F g kc2) [x3, x15, x5, x6, x7, x16, x27] h) ((c_impl_TreeOf_j1 F g kc2) [x3, x15, x5, x6, x7, x16, (AV.one .tup (AV.leaf .nil))] h)) (bindR (c_strings_Join F g x3 (AV.str [] 0) h) fun x28 h => aSAdd (AV.str [40] 1) x28 h fun x29 h => aSAdd x29 (AV.str [41] 1) h fun x30 h => some (AV.one .tup (AV.cons x30 (AV.cons (AV.bool true) (AV.leaf .nil))), h))) (hd vs) (hd (tl vs)) (hd (tl (tl vs))) (hd (tl (tl (tl vs)))) (hd (tl (tl (tl (tl vs)))))
noncomputable def c_impl_TreeOf (F g : Nat) (a0 : AV) (h : H) : Option R := aLenK 1 a0 h fun x1 h => loopD F (c_impl_TreeOf_l2 F g) [a0, (AV.int 3 (Int.ofNat 1)), a0, x1, (AV.int 3 (Int.ofNat 0))] h
noncomputable def A_impl_TreeOf : An := (.two .o (.two .o (.two (.two .o (.two (.at_ [0, 4, 9, 10, 11] (.two .o (.two (.two .o .o) (.two (.two (.two .o (.two .o (.two .o (.two (.at_ [0, 4, 9, 10, 11, 25, 27] .o .o) (.two (.two .o .o) .o))))) .o) .o))) .o) .o)) (.two .o .o))))
noncomputable def b_impl_TreeOf : Code := bodyOf Go.Proofs.Try.f27
theorem k_impl_TreeOf (F g : Nat) (a0 : AV) (h : H) : callD Go.Proofs.Try.prog (Env.add (Env.add (fun _ _ _ => none : Env) 29 (u1 (c_impl_TreeNodes F g))) 94 (u2 (c_strings_Join F g))) 34 F b_impl_TreeOf [2, 3] A_impl_TreeOf [a0] h = c_impl_TreeOf F g a0 h := by kernel_rfl
theorem s_impl_TreeOf (F g : Nat) : ∀ args h r, u1 (c_impl_TreeOf F g) args h = some r → Tri Go.Proofs.Try.prog 27 args h r := by
  intro args h r e; obtain ⟨a0, rfl, e1⟩ := u1_some e; exact fn_sound Go.Proofs.Try.func27 rfl rfl rfl Go.Proofs.Try.ntmps27 (Sound.add (Sound.add (Sound.none _) (s_impl_TreeNodes F g)) (s_strings_Join F g)) ((k_impl_TreeOf F g a0 h).trans e1)

-- "loop.example/treenumbers/spec.l1Of"
noncomputable def c_spec_l1Of_l1 (F g : Nat) : List AV → H → (List AV → H → Option R) → Option R := fun vs h kc1 => (fun x2 x3 x4 => aLenK 1 x2 h fun x5 h => aCmpI ilt x4 x5 h fun x6 h => withBool x6 fun t7 => bc t7 (aIdxAddr 1 x2 x4 h fun x8 h => aLoad x8 h fun x9 h => aSAdd x3 x9 h fun x10 h => aArith iadd x4 (AV.int 3 (Int.ofNat 1)) h fun x11 h => kc1 [x2, x10, x11] h) (aSAdd x3 (AV.str [41] 1) h fun x12 h => some (x12, h))) (hd vs) (hd (tl vs)) (hd (tl (tl vs)))
noncomputable def c_spec_l1Of (F g : Nat) (a0 : AV) (h : H) : Option R := loopD F (c_spec_l1Of_l1 F g) [a0, (AV.str [40] 1), (AV.int 3 (Int.ofNat 0))] h
noncomputable def A_spec_l1Of : An := (.two .o (.two .o (.two (.two .o (.two (.at_ [0, 3, 4] (.two (.two .o (.two .o .o)) (.two (.two .o .o) .o)) .o) .o)) (.two .o .o))))
noncomputable def b_spec_l1Of : Code := bodyOf Go.Proofs.Try.f107
theorem k_spec_l1Of (F g : Nat) (a0 : AV) (h : H) : callD Go.Proofs.Try.prog (fun _ _ _ => none : Env) 19 F b_spec_l1Of [2] A_spec_l1Of [a0] h = c_spec_l1Of F g a0 h := by kernel_rfl
theorem s_spec_l1Of (F g : Nat) : ∀ args h r, u1 (c_spec_l1Of F g) args h = some r → Tri Go.Proofs.Try.prog 107 args h r := by
  intro args h r e; obtain ⟨a0, rfl, e1⟩ := u1_some e; exact fn_sound Go.Proofs.Try.func107 rfl rfl rfl Go.Proofs.Try.ntmps107 (Sound.none _) ((k_spec_l1Of F g a0 h).trans e1)

-- "loop.example/treenumbers/spec.l1Done"
noncomputable def c_spec_l1Done (F g : Nat) (a0 : AV) (h : H) : Option R := bindR (c_spec_TreeIn F g a0 h) fun x1 h => aNot x1 h fun x2 h => withBool x2 fun t3 => bc t3 (some (AV.one .tup (AV.cons (AV.str [] 0) (AV.cons (AV.bool false) (AV.leaf .nil))), h)) (some (AV.one .tup (AV.cons a0 (AV.cons (AV.bool true) (AV.leaf .nil))), h))
noncomputable def A_spec_l1Done : An := (.two .o (.two (.two .o (.two (.two .o .o) .o)) (.two .o .o)))
noncomputable def b_spec_l1Done : Code := bodyOf Go.Proofs.Try.f106
theorem k_spec_l1Done (F g : Nat) (a0 : AV) (h : H) : callD Go.Proofs.Try.prog (Env.add (fun _ _ _ => none : Env) 25 (u1 (c_spec_TreeIn F g))) 8 F b_spec_l1Done [2, 3] A_spec_l1Done [a0] h = c_spec_l1Done F g a0 h := by kernel_rfl
theorem s_spec_l1Done (F g : Nat) : ∀ args h r, u1 (c_spec_l1Done F g) args h = some r → Tri Go.Proofs.Try.prog 106 args h r := by
  intro args h r e; obtain ⟨a0, rfl, e1⟩ := u1_some e; exact fn_sound Go.Proofs.Try.func106 rfl rfl rfl Go.Proofs.Try.ntmps106 (Sound.add (Sound.none _) (s_spec_TreeIn F g)) ((k_spec_l1Done F g a0 h).trans e1)

-- "loop.example/treenumbers/spec.TreeOf"
noncomputable def c_spec_TreeOf_l1 (F g : Nat) : List AV → H → (List AV → H → Option R) → Option R := fun vs h kc1 => (fun x2 x3 => aLenK 1 x2 h fun x4 h => aCmpI ilt x3 x4 h fun x5 h => withBool x5 fun t6 => bc t6 (aIdxAddr 1 x2 x3 h fun x7 h => aLoad x7 h fun x8 h => bindR (c_spec_TreeIn F g x8 h) fun x9 h => aNot x9 h fun x10 h => withBool x10 fun t11 => bc t11 (some (AV.one .tup (AV.cons (AV.str [] 0) (AV.cons (AV.bool false) (AV.leaf .nil))), h)) (aArith iadd x3 (AV.int 3 (Int.ofNat 1)) h fun x12 h => kc1 [x2, x12] h)) (bindR (c_spec_l1Of F g x2 h) fun x13 h => bindR (c_spec_l1Done F g x13 h) fun x14 h => aExtract x14 0 h fun x15 h => aExtract x14 1 h fun x16 h => some (AV.one .tup (AV.cons x15 (AV.cons x16 (AV.leaf .nil))), h))) (hd vs) (hd (tl vs))
noncomputable def c_spec_TreeOf (F g : Nat) (a0 : AV) (h : H) : Option R := loopD F (c_spec_TreeOf_l1 F g) [a0, (AV.int 3 (Int.ofNat 0))] h
noncomputable def A_spec_TreeOf : An := (.two .o (.two (.two .o (.two (.at_ [0, 4] (.two (.two .o (.two .o .o)) (.two (.two (.two .o (.two (.two .o .o) .o)) .o) .o)) .o) .o)) (.two .o .o)))
noncomputable def b_spec_TreeOf : Code := bodyOf Go.Proofs.Try.f44
theorem k_spec_TreeOf (F g : Nat) (a0 : AV) (h : H) : callD Go.Proofs.Try.prog (Env.add (Env.add (Env.add (fun _ _ _ => none : Env) 25 (u1 (c_spec_TreeIn F g))) 107 (u1 (c_spec_l1Of F g))) 106 (u1 (c_spec_l1Done F g))) 22 F b_spec_TreeOf [2, 3] A_spec_TreeOf [a0] h = c_spec_TreeOf F g a0 h := by kernel_rfl
theorem s_spec_TreeOf (F g : Nat) : ∀ args h r, u1 (c_spec_TreeOf F g) args h = some r → Tri Go.Proofs.Try.prog 44 args h r := by
  intro args h r e; obtain ⟨a0, rfl, e1⟩ := u1_some e; exact fn_sound Go.Proofs.Try.func44 rfl rfl rfl Go.Proofs.Try.ntmps44 (Sound.add (Sound.add (Sound.add (Sound.none _) (s_spec_TreeIn F g)) (s_spec_l1Of F g)) (s_spec_l1Done F g)) ((k_spec_TreeOf F g a0 h).trans e1)

-- "(*loop.example/treenumbers/impl.node).text"
noncomputable def c_impl_node_text_l1 (F g : Nat) (self : AV → H → Option R) : List AV → H → (List AV → H → Option R) → Option R := fun vs h kc5 => (fun x6 x7 x8 x9 => aCmpI ilt x9 x8 h fun x10 h => withBool x10 fun t11 => bc t11 (aIdxAddr 1 x7 x9 h fun x12 h => aLoad x12 h fun x13 h => bindR (self x13 h) fun x14 h => aSAdd x6 x14 h fun x15 h => aArith iadd x9 (AV.int 3 (Int.ofNat 1)) h fun x16 h => kc5 [x15, x7, x8, x16] h) (aSAdd x6 (AV.str [41] 1) h fun x17 h => some (x17, h))) (hd vs) (hd (tl vs)) (hd (tl (tl vs))) (hd (tl (tl (tl vs))))
noncomputable def c_impl_node_text (F g : Nat) : AV → H → Option R := Nat.rec (motive := fun _ => AV → H → Option R) (fun _ _ => none) (fun g self a0 h => aNilCheck a0 h fun x1 h => aField 2 x1 h fun x2 h => aLoad x2 h fun x3 h => aLenK 1 x3 h fun x4 h => loopD F (c_impl_node_text_l1 F g self) [(AV.str [40] 1), x3, x4, (AV.int 3 (Int.ofNat 0))] h) g
noncomputable def A_impl_node_text : An := (.two .o (.two .o (.two (.two .o (.two (.at_ [3, 9, 10, 11] (.two .o (.two (.two .o .o) (.two (.two (.two .o .o) .o) .o))) .o) .o)) (.two .o .o))))
noncomputable def b_impl_node_text : Code := bodyOf Go.Proofs.Try.f93
theorem k_impl_node_text (F g : Nat) (a0 : AV) (h : H) : callD Go.Proofs.Try.prog (Env.add (fun _ _ _ => none : Env) 93 (u1 (c_impl_node_text F g))) 22 F b_impl_node_text [2] A_impl_node_text [a0] h = c_impl_node_text F (g + 1) a0 h := by kernel_rfl
theorem s_impl_node_text (F g : Nat) : ∀ args h r, u1 (c_impl_node_text F g) args h = some r → Tri Go.Proofs.Try.prog 93 args h r := by
  induction g with
  | zero => intro args h r e; obtain ⟨a0, rfl, e⟩ := u1_some e; cases e
  | succ g ih => intro args h r e; obtain ⟨a0, rfl, e1⟩ := u1_some e; exact fn_sound Go.Proofs.Try.func93 rfl rfl rfl Go.Proofs.Try.ntmps93 (Sound.add (Sound.none _) ih) ((k_impl_node_text F g a0 h).trans e1)

-- "loop.example/treenumbers/impl.TreeChildren"
noncomputable def c_impl_TreeChildren_l1 (F g : Nat) : List AV → H → (List AV → H → Option R) → Option R := fun vs h kc11 => (fun x12 x13 x14 x15 => aCmpI ilt x15 x14 h fun x16 h => withBool x16 fun t17 => bc t17 (aIdxAddr 1 x13 x15 h fun x18 h => aLoad x18 h fun x19 h => bindR (c_impl_node_text F g x19 h) fun x20 h => aBuildSlice 1 1 [(0, 1, x20)] h fun x21 h => aAppend 1 16 x12 x21 h fun x22 h => aArith iadd x15 (AV.int 3 (Int.ofNat 1)) h fun x23 h => kc11 [x22, x13, x14, x23] h) (some (AV.one .tup (AV.cons x12 (AV.cons (AV.bool true) (AV.leaf .nil))), h))) (hd vs) (hd (tl vs)) (hd (tl (tl vs))) (hd (tl (tl (tl vs))))
noncomputable def c_impl_TreeChildren (F g : Nat) (a0 : AV) (h : H) : Option R := bindR (c_impl_readTree F g a0 h) fun x1 h => aExtract x1 0 h fun x2 h => aExtract x1 1 h fun x3 h => aNot x3 h fun x4 h => withBool x4 fun t5 => bc t5 (some (AV.one .tup (AV.cons (AV.leaf .nils) (AV.cons (AV.bool false) (AV.leaf .nil))), h)) (aBuildSlice 0 1 [] h fun x6 h => aNilCheck x2 h fun x7 h => aField 2 x7 h fun x8 h => aLoad x8 h fun x9 h => aLenK 1 x9 h fun x10 h => loopD F (c_impl_TreeChildren_l1 F g) [x6, x9, x10, (AV.int 3 (Int.ofNat 0))] h)
noncomputable def A_impl_TreeChildren : An := (.two .o (.two .o (.two (.two .o (.two (.two .o .o) .o)) (.two .o (.two (.two .o (.two (.at_ [6, 20, 21, 22] (.two .o (.two (.two .o .o) (.two (.two (.two .o .o) .o) .o))) .o) .o)) (.two .o .o))))))
noncomputable def b_impl_TreeChildren : Code := bodyOf Go.Proofs.Try.f26
theorem k_impl_TreeChildren (F g : Nat) (a0 : AV) (h : H) : callD Go.Proofs.Try.prog (Env.add (Env.add (fun _ _ _ => none : Env) 91 (u1 (c_impl_readTree F g))) 93 (u1 (c_impl_node_text F g))) 33 F b_impl_TreeChildren [2, 3] A_impl_TreeChildren [a0] h = c_impl_TreeChildren F g a0 h := by kernel_rfl
theorem s_impl_TreeChildren (F g : Nat) : ∀ args h r, u1 (c_impl_TreeChildren F g) args h = some r → Tri Go.Proofs.Try.prog 26 args h r := by
  intro args h r e; obtain ⟨a0, rfl, e1⟩ := u1_some e; exact fn_sound Go.Proofs.Try.func26 rfl rfl rfl Go.Proofs.Try.ntmps26 (Sound.add (Sound.add (Sound.none _) (s_impl_readTree F g)) (s_impl_node_text F g)) ((k_impl_TreeChildren F g a0 h).trans e1)

-- "loop.example/treenumbers/laws.sameTexts"
noncomputable def c_laws_sameTexts_l1 (F g : Nat) : List AV → H → (List AV → H → Option R) → Option R := fun vs h kc5 => (fun x6 x7 x8 => aLenK 1 x6 h fun x9 h => aCmpI ilt x8 x9 h fun x10 h => withBool x10 fun t11 => bc t11 (aIdxAddr 1 x6 x8 h fun x12 _ => aLoad x12 h fun x13 _ => aIdxAddr 1 x7 x8 h fun x14 _ => aLoad x14 h fun x15 _ => aCmpS (fun a b => bnot (eqL a b)) x13 x15 h fun x16 _ => withBool x16 fun t17 => bc t17 (some ((AV.bool false), h)) (aArith iadd x8 (AV.int 3 (Int.ofNat 1)) h fun x18 h => kc5 [x6, x7, x18] h)) (some ((AV.bool true), h))) (hd vs) (hd (tl vs)) (hd (tl (tl vs)))
noncomputable def c_laws_sameTexts (F g : Nat) (a0 a1 : AV) (h : H) : Option R := aLenK 1 a0 h fun x1 h => aLenK 1 a1 h fun x2 h => aCmpI (fun a b => bnot (ieq a b)) x1 x2 h fun x3 h => withBool x3 fun t4 => bc t4 (some ((AV.bool false), h)) (loopD F (c_laws_sameTexts_l1 F g) [a0, a1, (AV.int 3 (Int.ofNat 0))] h)
noncomputable def A_laws_sameTexts : An := (.two .o (.two (.two .o (.two (.two .o .o) .o)) (.two (.two .o (.two (.at_ [0, 1, 5] (.two (.two .o (.two .o .o)) (.two (.two (.two .o (.two (.two .o .o) .o)) .o) .o)) .o) .o)) (.two .o .o))))
noncomputable def b_laws_sameTexts : Code := bodyOf Go.Proofs.Try.f41
theorem k_laws_sameTexts (F g : Nat) (a0 a1 : AV) (h : H) : callD Go.Proofs.Try.prog (fun _ _ _ => none : Env) 26 F b_laws_sameTexts [4] A_laws_sameTexts [a0, a1] h = c_laws_sameTexts F g a0 a1 h := by kernel_rfl
theorem s_laws_sameTexts (F g : Nat) : ∀ args h r, u2 (c_laws_sameTexts F g) args h = some r → Tri Go.Proofs.Try.prog 41 args h r := by
  intro args h r e; obtain ⟨a0, a1, rfl, e1⟩ := u2_some e; exact fn_sound Go.Proofs.Try.func41 rfl rfl rfl Go.Proofs.Try.ntmps41 (Sound.none _) ((k_laws_sameTexts F g a0 a1 h).trans e1)

-- "loop.example/treenumbers/laws.FnTreeOf"
noncomputable def c_laws_FnTreeOf_j1 (F g : Nat) (vs : List AV) (h : H) : Option R := (fun x30 x31 => aPick x30 x31 (AV.bool false) h fun x32 h => some (x32, h)) (hd vs) (hd (tl vs))
noncomputable def c_laws_FnTreeOf_j2 (F g : Nat) (vs : List AV) (h : H) : Option R := (fun x37 x38 => aPick x37 x38 (AV.bool false) h fun x39 h => some (x39, h)) (hd vs) (hd (tl vs))
noncomputable def c_laws_FnTreeOf_j3 (F g : Nat) (vs : List AV) (h : H) : Option R := (fun x20 x21 x22 x23 x24 x25 x26 => aPick x25 (AV.bool true) x26 h fun x27 h => withBool x27 fun t28 => bc t28 (aEq false 0 x22 x24 h fun x29 h => guardB true x29 (aCmpS eqL x21 x23 h fun x33 h => (c_laws_FnTreeOf_j1 F g) [x29, x33] h) ((c_laws_FnTreeOf_j1 F g) [x29, (AV.one .tup (AV.leaf .nil))] h)) (bindR (c_impl_TreeChildren F g x21 h) fun x34 h => aExtract x34 0 h fun x35 h => aExtract x34 1 h fun x36 h => guardB true x36 (bindR (c_laws_sameTexts F g x35 x20 h) fun x40 h => (c_laws_FnTreeOf_j2 F g) [x36, x40] h) ((c_laws_FnTreeOf_j2 F g) [x36, (AV.one .tup (AV.leaf .nil))] h))) (hd vs) (hd (tl vs)) (hd (tl (tl vs))) (hd (tl (tl (tl vs)))) (hd (tl (tl (tl (tl vs))))) (hd (tl (tl (tl (tl (tl vs)))))) (hd (tl (tl (tl (tl (tl (tl vs)))))))
noncomputable def c_laws_FnTreeOf_j4 (F g : Nat) (vs : List AV) (h : H) : Option R := (fun x12 x13 x14 x15 x16 x17 x18 => aPick x17 (AV.bool true) x18 h fun x19 h => guardB false x19 (aNot x14 h fun x41 h => (c_laws_FnTreeOf_j3 F g) [x12, x13, x14, x15, x16, x19, x41] h) ((c_laws_FnTreeOf_j3 F g) [x12, x13, x14, x15, x16, x19, (AV.one .tup (AV.leaf .nil))] h)) (hd vs) (hd (tl vs)) (hd (tl (tl vs))) (hd (tl (tl (tl vs)))) (hd (tl (tl (tl (tl vs))))) (hd (tl (tl (tl (tl (tl vs)))))) (hd (tl (tl (tl (tl (tl (tl vs)))))))
noncomputable def c_laws_FnTreeOf_r5 (F g : Nat) (x4 : AV) (h : H) : Option R := bindR (c_impl_TreeOf F g x4 h) fun x5 h => aExtract x5 0 h fun x6 h => aExtract x5 1 h fun x7 h => bindR (c_spec_TreeOf F g x4 h) fun x8 h => aExtract x8 0 h fun x9 h => aExtract x8 1 h fun x10 h => aEq true 0 x7 x10 h fun x11 h => guardB false x11 (aCmpS (fun a b => bnot (eqL a b)) x6 x9 h fun x42 h => (c_laws_FnTreeOf_j4 F g) [x4, x6, x7, x9, x10, x11, x42] h) ((c_laws_FnTreeOf_j4 F g) [x4, x6, x7, x9, x10, x11, (AV.one .tup (AV.leaf .nil))] h)
noncomputable def c_laws_FnTreeOf (F g : Nat) (a0 : AV) (h : H) : Option R := aLenK 1 a0 h fun x1 h => aCmpI (fun a b => ilt b a) x1 (AV.int 3 (Int.ofNat 1048576)) h fun x2 h => withBool x2 fun t3 => bc t3 (some ((AV.bool true), h)) (bindR (c_spec_DrawTreeOf F g a0 h) fun x4 h => c_laws_FnTreeOf_r5 F g x4 h)
noncomputable def A_laws_FnTreeOf : An := (.two .o (.two (.two .o (.two (.two .o .o) .o)) (.two .o (.two .o (.two .o (.two (.two (.at_ [3, 4, 5, 6, 7, 28, 31] .o (.at_ [3, 4, 5, 6, 7, 33, 35] .o .o)) (.two (.two (.at_ [40, 43] .o .o) .o) .o)) (.two .o (.two (.at_ [51, 54] .o .o) .o))))))))
noncomputable def b_laws_FnTreeOf : Code := bodyOf Go.Proofs.Try.f8
theorem k_laws_FnTreeOf (F g : Nat) (a0 : AV) (h : H) : callD Go.Proofs.Try.prog (Env.add (Env.add (Env.add (Env.add (Env.add (fun _ _ _ => none : Env) 43 (u1 (c_spec_DrawTreeOf F g))) 27 (u1 (c_impl_TreeOf F g))) 44 (u1 (c_spec_TreeOf F g))) 26 (u1 (c_impl_TreeChildren F g))) 41 (u2 (c_laws_sameTexts F g))) 56 F b_laws_FnTreeOf [2] A_laws_FnTreeOf [a0] h = c_laws_FnTreeOf F g a0 h := by kernel_rfl
theorem s_laws_FnTreeOf (F g : Nat) : ∀ args h r, u1 (c_laws_FnTreeOf F g) args h = some r → Tri Go.Proofs.Try.prog 8 args h r := by
  intro args h r e; obtain ⟨a0, rfl, e1⟩ := u1_some e; exact fn_sound Go.Proofs.Try.func8 rfl rfl rfl Go.Proofs.Try.ntmps8 (Sound.add (Sound.add (Sound.add (Sound.add (Sound.add (Sound.none _) (s_spec_DrawTreeOf F g)) (s_impl_TreeOf F g)) (s_spec_TreeOf F g)) (s_impl_TreeChildren F g)) (s_laws_sameTexts F g)) ((k_laws_FnTreeOf F g a0 h).trans e1)

end
end Go.AI.T
