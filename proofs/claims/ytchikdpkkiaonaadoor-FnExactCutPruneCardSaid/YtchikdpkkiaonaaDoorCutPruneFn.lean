/- The functions that the law FnExactCutPrune reaches, as the evaluator reads them. -/
import Derived.KernelRfl
import Derived.Test.YtchikdpkkiaonaaDoorRaw
import Derived.Test.YtchikdpkkiaonaaDoorLd
import Derived.Test.YtchikdpkkiaonaaDoorProg
namespace Go.AI.T
open Go Go.RowKit Go.AI
set_option linter.unusedVariables false
set_option linter.unusedSimpArgs false
set_option maxRecDepth 100000
noncomputable section
-- "loop.example/treenumbers/spec.l6In"
noncomputable def c_spec_l6In_j1 (F g : Nat) (vs : List AV) (h : H) : Option R := (fun x2 x3 => aPick x2 x3 (AV.bool false) h fun x4 h => some (x4, h)) (hd vs) (hd (tl vs))
noncomputable def c_spec_l6In (F g : Nat) (a0 a1 a2 : AV) (h : H) : Option R := aCmpI (fun a b => ile b a) a0 a1 h fun x1 h => guardB true x1 (aCmpI ile a0 a2 h fun x5 h => (c_spec_l6In_j1 F g) [x1, x5] h) ((c_spec_l6In_j1 F g) [x1, (AV.one .tup (AV.leaf .nil))] h)
noncomputable def A_spec_l6In : An := (.two .o (.two (.at_ [10, 13] .o .o) .o))
noncomputable def b_spec_l6In : Code := bodyOf Go.Proofs.Tryd.f67
theorem k_spec_l6In (F g : Nat) (a0 a1 a2 : AV) (h : H) : callD Go.Proofs.Tryd.prog (fun _ _ _ => none : Env) 15 F b_spec_l6In [6] A_spec_l6In [a0, a1, a2] h = c_spec_l6In F g a0 a1 a2 h := by kernel_rfl
theorem s_spec_l6In (F g : Nat) : ∀ args h r, u3 (c_spec_l6In F g) args h = some r → Tri Go.Proofs.Tryd.prog 67 args h r := by
  intro args h r e; obtain ⟨a0, a1, a2, rfl, e1⟩ := u3_some e; exact fn_sound Go.Proofs.Tryd.func67 rfl rfl rfl Go.Proofs.Tryd.ntmps67 (Sound.none _) ((k_spec_l6In F g a0 a1 a2 h).trans e1)

-- "loop.example/treenumbers/spec.l1Node"
noncomputable def c_spec_l1Node_j1 (F g : Nat) (vs : List AV) (h : H) : Option R := (fun x2 x3 => aPick x2 x3 (AV.bool false) h fun x4 h => some (x4, h)) (hd vs) (hd (tl vs))
noncomputable def c_spec_l1Node (F g : Nat) (a0 a1 : AV) (h : H) : Option R := bindR (c_spec_TreeIn F g a0 h) fun x1 h => guardB true x1 (aLenK 0 a0 h fun x5 h => aQuo x5 (AV.int 3 (Int.ofNat 2)) h fun x6 h => aArith isub x6 (AV.int 3 (Int.ofNat 1)) h fun x7 h => bindR (c_spec_l6In F g a1 (AV.int 3 (Int.ofNat 0)) x7 h) fun x8 h => (c_spec_l1Node_j1 F g) [x1, x8] h) ((c_spec_l1Node_j1 F g) [x1, (AV.one .tup (AV.leaf .nil))] h)
noncomputable def A_spec_l1Node : An := (.two .o (.two (.at_ [7, 13] .o .o) .o))
noncomputable def b_spec_l1Node : Code := bodyOf Go.Proofs.Tryd.f42
theorem k_spec_l1Node (F g : Nat) (a0 a1 : AV) (h : H) : callD Go.Proofs.Tryd.prog (Env.add (Env.add (fun _ _ _ => none : Env) 49 (u1 (c_spec_TreeIn F g))) 67 (u3 (c_spec_l6In F g))) 15 F b_spec_l1Node [4] A_spec_l1Node [a0, a1] h = c_spec_l1Node F g a0 a1 h := by kernel_rfl
theorem s_spec_l1Node (F g : Nat) : ∀ args h r, u2 (c_spec_l1Node F g) args h = some r → Tri Go.Proofs.Tryd.prog 42 args h r := by
  intro args h r e; obtain ⟨a0, a1, rfl, e1⟩ := u2_some e; exact fn_sound Go.Proofs.Tryd.func42 rfl rfl rfl Go.Proofs.Tryd.ntmps42 (Sound.add (Sound.add (Sound.none _) (s_spec_TreeIn F g)) (s_spec_l6In F g)) ((k_spec_l1Node F g a0 a1 h).trans e1)

-- "loop.example/treenumbers/spec.l1Opens"
noncomputable def c_spec_l1Opens_j1 (F g : Nat) (kc2 : List AV → H → Option R) (vs : List AV) (h : H) : Option R := (fun x9 x10 x11 => aArith iadd x11 (AV.int 3 (Int.ofNat 1)) h fun x12 h => kc2 [x9, x10, x12] h) (hd vs) (hd (tl vs)) (hd (tl (tl vs)))
noncomputable def c_spec_l1Opens_l2 (F g : Nat) : List AV → H → (List AV → H → Option R) → Option R := fun vs h kc2 => (fun x3 x4 x5 => aLenK 0 x3 h fun x6 h => aCmpI ilt x5 x6 h fun x7 h => withBool x7 fun t8 => bc t8 (aIdxStr x3 x5 h fun x13 h => aCmpI ieq x13 (AV.int 4 (Int.ofNat 40)) h fun x14 h => withBool x14 fun t15 => bc t15 (aBuildSlice 1 1 [(0, 1, x5)] h fun x16 h => aAppend 1 8 x4 x16 h fun x17 h => (c_spec_l1Opens_j1 F g kc2) [x3, x17, x5] h) ((c_spec_l1Opens_j1 F g kc2) [x3, x4, x5] h)) (some (x4, h))) (hd vs) (hd (tl vs)) (hd (tl (tl vs)))
noncomputable def c_spec_l1Opens (F g : Nat) (a0 : AV) (h : H) : Option R := aBuildSlice 0 1 [] h fun x1 h => loopD F (c_spec_l1Opens_l2 F g) [a0, x1, (AV.int 3 (Int.ofNat 0))] h
noncomputable def A_spec_l1Opens : An := (.two .o (.two .o (.two (.two .o (.two (.at_ [0, 3, 4] (.two (.two .o (.two .o .o)) (.at_ [0, 3, 4] (.two (.two .o (.two .o .o)) .o) .o)) .o) .o)) (.two .o .o))))
noncomputable def b_spec_l1Opens : Code := bodyOf Go.Proofs.Tryd.f57
theorem k_spec_l1Opens (F g : Nat) (a0 : AV) (h : H) : callD Go.Proofs.Tryd.prog (fun _ _ _ => none : Env) 21 F b_spec_l1Opens [2] A_spec_l1Opens [a0] h = c_spec_l1Opens F g a0 h := by kernel_rfl
theorem s_spec_l1Opens (F g : Nat) : ∀ args h r, u1 (c_spec_l1Opens F g) args h = some r → Tri Go.Proofs.Tryd.prog 57 args h r := by
  intro args h r e; obtain ⟨a0, rfl, e1⟩ := u1_some e; exact fn_sound Go.Proofs.Tryd.func57 rfl rfl rfl Go.Proofs.Tryd.ntmps57 (Sound.none _) ((k_spec_l1Opens F g a0 h).trans e1)

-- "loop.example/treenumbers/spec.l1End"
noncomputable def c_spec_l1End_j1 (F g : Nat) (kc1 : List AV → H → Option R) (vs : List AV) (h : H) : Option R := (fun x8 x9 x10 => aCmpI ieq x9 (AV.int 3 (Int.ofNat 0)) h fun x11 h => withBool x11 fun t12 => bc t12 (aArith iadd x10 (AV.int 3 (Int.ofNat 1)) h fun x13 h => some (x13, h)) (aCmpI ilt x9 (AV.int 3 (Int.ofNat 0)) h fun x14 h => withBool x14 fun t15 => bc t15 (some ((AV.int 3 (Int.negSucc 0)), h)) (aArith iadd x10 (AV.int 3 (Int.ofNat 1)) h fun x16 h => kc1 [x8, x9, x16] h))) (hd vs) (hd (tl vs)) (hd (tl (tl vs)))
noncomputable def c_spec_l1End_l2 (F g : Nat) : List AV → H → (List AV → H → Option R) → Option R := fun vs h kc1 => (fun x2 x3 x4 => aLenK 0 x2 h fun x5 h => aCmpI ilt x4 x5 h fun x6 h => withBool x6 fun t7 => bc t7 (aIdxStr x2 x4 h fun x17 h => aCmpI ieq x17 (AV.int 4 (Int.ofNat 40)) h fun x18 h => withBool x18 fun t19 => bc t19 (aArith iadd x3 (AV.int 3 (Int.ofNat 1)) h fun x20 h => (c_spec_l1End_j1 F g kc1) [x2, x20, x4] h) (aCmpI ieq x17 (AV.int 4 (Int.ofNat 41)) h fun x21 h => withBool x21 fun t22 => bc t22 (aArith isub x3 (AV.int 3 (Int.ofNat 1)) h fun x23 h => (c_spec_l1End_j1 F g kc1) [x2, x23, x4] h) (some ((AV.int 3 (Int.negSucc 0)), h)))) (some ((AV.int 3 (Int.negSucc 0)), h))) (hd vs) (hd (tl vs)) (hd (tl (tl vs)))
noncomputable def c_spec_l1End (F g : Nat) (a0 a1 : AV) (h : H) : Option R := loopD F (c_spec_l1End_l2 F g) [a0, (AV.int 3 (Int.ofNat 0)), a1] h
noncomputable def A_spec_l1End : An := (.two .o (.two .o (.two (.two .o (.two (.at_ [0, 5, 6] (.two (.two .o (.two .o .o)) (.two (.two (.at_ [0, 5, 6] (.two .o (.two (.two .o (.two .o (.two .o (.two .o (.two .o .o))))) .o)) (.two (.two .o (.two (.two .o .o) .o)) (.two .o (.two (.two .o .o) .o)))) .o) .o)) .o) .o)) (.two .o .o))))
noncomputable def b_spec_l1End : Code := bodyOf Go.Proofs.Tryd.f58
theorem k_spec_l1End (F g : Nat) (a0 a1 : AV) (h : H) : callD Go.Proofs.Tryd.prog (fun _ _ _ => none : Env) 31 F b_spec_l1End [4] A_spec_l1End [a0, a1] h = c_spec_l1End F g a0 a1 h := by kernel_rfl
theorem s_spec_l1End (F g : Nat) : ∀ args h r, u2 (c_spec_l1End F g) args h = some r → Tri Go.Proofs.Tryd.prog 58 args h r := by
  intro args h r e; obtain ⟨a0, a1, rfl, e1⟩ := u2_some e; exact fn_sound Go.Proofs.Tryd.func58 rfl rfl rfl Go.Proofs.Tryd.ntmps58 (Sound.none _) ((k_spec_l1End F g a0 a1 h).trans e1)

-- "loop.example/treenumbers/spec.CutPrune"
noncomputable def c_spec_CutPrune_j1 (F g : Nat) (vs : List AV) (h : H) : Option R := (fun x3 x4 x5 x6 => aPick x5 (AV.bool true) x6 h fun x7 h => withBool x7 fun t8 => bc t8 (some (AV.one .tup (AV.cons (AV.str [] 0) (AV.cons (AV.bool false) (AV.leaf .nil))), h)) (bindR (c_spec_l1Opens F g x3 h) fun x9 h => aIdxAddr 1 x9 x4 h fun x10 h => aLoad x10 h fun x11 h => aSliceS x3 none (some x11) none h fun x12 _ => bindR (c_spec_l1End F g x3 x11 h) fun x13 h => aSliceS x3 (some x13) none none h fun x14 _ => aSAdd x12 x14 h fun x15 _ => some (AV.one .tup (AV.cons x15 (AV.cons (AV.bool true) (AV.leaf .nil))), h))) (hd vs) (hd (tl vs)) (hd (tl (tl vs))) (hd (tl (tl (tl vs))))
noncomputable def c_spec_CutPrune (F g : Nat) (a0 a1 : AV) (h : H) : Option R := bindR (c_spec_l1Node F g a0 a1 h) fun x1 h => aNot x1 h fun x2 h => guardB false x2 (aCmpI ieq a1 (AV.int 3 (Int.ofNat 0)) h fun x16 h => (c_spec_CutPrune_j1 F g) [a0, a1, x2, x16] h) ((c_spec_CutPrune_j1 F g) [a0, a1, x2, (AV.one .tup (AV.leaf .nil))] h)
noncomputable def A_spec_CutPrune : An := (.two .o (.two (.two (.at_ [0, 1, 11, 13] .o .o) (.two (.two .o .o) .o)) (.two .o (.two .o .o))))
noncomputable def b_spec_CutPrune : Code := bodyOf Go.Proofs.Tryd.f24
theorem k_spec_CutPrune (F g : Nat) (a0 a1 : AV) (h : H) : callD Go.Proofs.Tryd.prog (Env.add (Env.add (Env.add (fun _ _ _ => none : Env) 42 (u2 (c_spec_l1Node F g))) 57 (u1 (c_spec_l1Opens F g))) 58 (u2 (c_spec_l1End F g))) 29 F b_spec_CutPrune [4, 5] A_spec_CutPrune [a0, a1] h = c_spec_CutPrune F g a0 a1 h := by kernel_rfl
theorem s_spec_CutPrune (F g : Nat) : ∀ args h r, u2 (c_spec_CutPrune F g) args h = some r → Tri Go.Proofs.Tryd.prog 24 args h r := by
  intro args h r e; obtain ⟨a0, a1, rfl, e1⟩ := u2_some e; exact fn_sound Go.Proofs.Tryd.func24 rfl rfl rfl Go.Proofs.Tryd.ntmps24 (Sound.add (Sound.add (Sound.add (Sound.none _) (s_spec_l1Node F g)) (s_spec_l1Opens F g)) (s_spec_l1End F g)) ((k_spec_CutPrune F g a0 a1 h).trans e1)

-- "(*loop.example/treenumbers/impl.node).nodes"
noncomputable def c_impl_node_nodes_l1 (F g : Nat) (self : AV → H → Option R) : List AV → H → (List AV → H → Option R) → Option R := fun vs h kc6 => (fun x7 x8 x9 x10 => aCmpI ilt x10 x9 h fun x11 h => withBool x11 fun t12 => bc t12 (aIdxAddr 1 x8 x10 h fun x13 h => aLoad x13 h fun x14 h => bindR (self x14 h) fun x15 h => aAppend 1 8 x7 x15 h fun x16 h => aArith iadd x10 (AV.int 3 (Int.ofNat 1)) h fun x17 h => kc6 [x16, x8, x9, x17] h) (some (x7, h))) (hd vs) (hd (tl vs)) (hd (tl (tl vs))) (hd (tl (tl (tl vs))))
noncomputable def c_impl_node_nodes (F g : Nat) : AV → H → Option R := Nat.rec (motive := fun _ => AV → H → Option R) (fun _ _ => none) (fun g self a0 h => aBuildSlice 1 1 [(0, 1, a0)] h fun x1 h => aNilCheck a0 h fun x2 h => aField 2 x2 h fun x3 h => aLoad x3 h fun x4 h => aLenK 1 x4 h fun x5 h => loopD F (c_impl_node_nodes_l1 F g self) [x1, x4, x5, (AV.int 3 (Int.ofNat 0))] h) g
noncomputable def A_impl_node_nodes : An := (.two .o (.two .o (.two (.two .o (.two (.at_ [3, 11, 12, 13] (.two .o (.two (.two .o .o) (.two (.two (.two .o .o) .o) .o))) .o) .o)) (.two .o .o))))
noncomputable def b_impl_node_nodes : Code := bodyOf Go.Proofs.Tryd.f45
theorem k_impl_node_nodes (F g : Nat) (a0 : AV) (h : H) : callD Go.Proofs.Tryd.prog (Env.add (fun _ _ _ => none : Env) 45 (u1 (c_impl_node_nodes F g))) 23 F b_impl_node_nodes [2] A_impl_node_nodes [a0] h = c_impl_node_nodes F (g + 1) a0 h := by kernel_rfl
theorem s_impl_node_nodes (F g : Nat) : ∀ args h r, u1 (c_impl_node_nodes F g) args h = some r → Tri Go.Proofs.Tryd.prog 45 args h r := by
  induction g with
  | zero => intro args h r e; obtain ⟨a0, rfl, e⟩ := u1_some e; cases e
  | succ g ih => intro args h r e; obtain ⟨a0, rfl, e1⟩ := u1_some e; exact fn_sound Go.Proofs.Tryd.func45 rfl rfl rfl Go.Proofs.Tryd.ntmps45 (Sound.add (Sound.none _) ih) ((k_impl_node_nodes F g a0 h).trans e1)

-- "loop.example/treenumbers/impl.nodeIn"
noncomputable def c_impl_nodeIn_j1 (F g : Nat) (vs : List AV) (h : H) : Option R := (fun x10 x11 x12 x13 => aPick x12 (AV.bool true) x13 h fun x14 h => withBool x14 fun t15 => bc t15 (aBuild [(AV.int 3 (Int.ofNat 0))] [(0, 1, x10)] h fun x16 h => aMkIface 77 x16 h fun x17 h => some (AV.one .tup (AV.cons (AV.leaf .nilp) (AV.cons x17 (AV.leaf .nil))), h)) (aIdxAddr 1 x11 x10 h fun x18 h => aLoad x18 h fun x19 h => some (AV.one .tup (AV.cons x19 (AV.cons (AV.leaf .nili) (AV.leaf .nil))), h))) (hd vs) (hd (tl vs)) (hd (tl (tl vs))) (hd (tl (tl (tl vs))))
noncomputable def c_impl_nodeIn (F g : Nat) (a0 a1 : AV) (h : H) : Option R := bindR (c_impl_readTree F g a0 h) fun x1 h => aExtract x1 0 h fun x2 h => aExtract x1 1 h fun x3 h => aNot x3 h fun x4 h => withBool x4 fun t5 => bc t5 (aBuild [(AV.int 3 (Int.ofNat 0))] [(0, 1, a1)] h fun x6 h => aMkIface 77 x6 h fun x7 h => some (AV.one .tup (AV.cons (AV.leaf .nilp) (AV.cons x7 (AV.leaf .nil))), h)) (bindR (c_impl_node_nodes F g x2 h) fun x8 h => aCmpI ilt a1 (AV.int 3 (Int.ofNat 0)) h fun x9 h => guardB false x9 (aLenK 1 x8 h fun x20 h => aCmpI (fun a b => ile b a) a1 x20 h fun x21 h => (c_impl_nodeIn_j1 F g) [a1, x8, x9, x21] h) ((c_impl_nodeIn_j1 F g) [a1, x8, x9, (AV.one .tup (AV.leaf .nil))] h))
noncomputable def A_impl_nodeIn : An := (.two .o (.two .o (.two (.two .o (.two (.two .o .o) .o)) (.two .o (.two (.two (.at_ [1, 8, 23, 27] .o .o) (.two (.two .o .o) .o)) (.two .o .o))))))
noncomputable def b_impl_nodeIn : Code := bodyOf Go.Proofs.Tryd.f36
theorem k_impl_nodeIn (F g : Nat) (a0 a1 : AV) (h : H) : callD Go.Proofs.Tryd.prog (Env.add (Env.add (fun _ _ _ => none : Env) 44 (u1 (c_impl_readTree F g))) 45 (u1 (c_impl_node_nodes F g))) 36 F b_impl_nodeIn [4, 5] A_impl_nodeIn [a0, a1] h = c_impl_nodeIn F g a0 a1 h := by kernel_rfl
theorem s_impl_nodeIn (F g : Nat) : ∀ args h r, u2 (c_impl_nodeIn F g) args h = some r → Tri Go.Proofs.Tryd.prog 36 args h r := by
  intro args h r e; obtain ⟨a0, a1, rfl, e1⟩ := u2_some e; exact fn_sound Go.Proofs.Tryd.func36 rfl rfl rfl Go.Proofs.Tryd.ntmps36 (Sound.add (Sound.add (Sound.none _) (s_impl_readTree F g)) (s_impl_node_nodes F g)) ((k_impl_nodeIn F g a0 a1 h).trans e1)

-- "slices.IndexFunc[[]*loop.example/treenumbers/impl.node,*loop.example/treenumbers/impl.node]"
noncomputable def D_slices_IndexFunc_4168 (F g : Nat) (E : Env) : Env := E
noncomputable def G_slices_IndexFunc_4168 (F g : Nat) (E : Env) : Env := (D_slices_IndexFunc_4168 F g E)
noncomputable def c_slices_IndexFunc_4168_l1 (F g : Nat) (E : Env) : List AV → H → (List AV → H → Option R) → Option R := fun vs h kc2 => (fun x3 x4 x5 x6 => aCmpI ilt x6 x5 h fun x7 h => withBool x7 fun t8 => bc t8 (aIdxAddr 1 x3 x6 h fun x9 h => aLoad x9 h fun x10 h => dCall (G_slices_IndexFunc_4168 F g E) x4 [x10] h fun x11 h => withBool x11 fun t12 => bc t12 (some (x6, h)) (aArith iadd x6 (AV.int 3 (Int.ofNat 1)) h fun x13 h => kc2 [x3, x4, x5, x13] h)) (some ((AV.int 3 (Int.negSucc 0)), h))) (hd vs) (hd (tl vs)) (hd (tl (tl vs))) (hd (tl (tl (tl vs))))
noncomputable def c_slices_IndexFunc_4168 (F g : Nat) (E : Env) (a0 a1 : AV) (h : H) : Option R := aLenK 1 a0 h fun x1 h => loopD F (c_slices_IndexFunc_4168_l1 F g E) [a0, a1, x1, (AV.int 3 (Int.ofNat 0))] h
noncomputable def A_slices_IndexFunc_4168 : An := (.two .o (.two (.two .o (.two (.at_ [0, 1, 7, 8] (.two .o (.two (.two .o .o) (.two (.two (.two .o (.two .o (.two (.two .o .o) .o))) .o) .o))) .o) .o)) (.two .o .o)))
noncomputable def b_slices_IndexFunc_4168 : Code := bodyOf Go.Proofs.Tryd.f74
theorem k_slices_IndexFunc_4168 (F g : Nat) (E : Env) (a0 a1 : AV) (h : H) : callD Go.Proofs.Tryd.prog (G_slices_IndexFunc_4168 F g E) 19 F b_slices_IndexFunc_4168 [4] A_slices_IndexFunc_4168 [a0, a1] h = c_slices_IndexFunc_4168 F g E a0 a1 h := by kernel_rfl
theorem s_slices_IndexFunc_4168 (F g : Nat) (E : Env) (hE : Sound Go.Proofs.Tryd.prog E) : ∀ args h r, u2 (c_slices_IndexFunc_4168 F g E) args h = some r → Tri Go.Proofs.Tryd.prog 74 args h r := by
  intro args h r e; obtain ⟨a0, a1, rfl, e1⟩ := u2_some e; exact fn_sound Go.Proofs.Tryd.func74 rfl rfl rfl Go.Proofs.Tryd.ntmps74 hE ((k_slices_IndexFunc_4168 F g E a0 a1 h).trans e1)

-- "slices.DeleteFunc[[]*loop.example/treenumbers/impl.node,*loop.example/treenumbers/impl.node]"
noncomputable def D_slices_DeleteFunc_4168 (F g : Nat) (E : Env) : Env := E
noncomputable def G_slices_DeleteFunc_4168 (F g : Nat) (E : Env) : Env := (Env.add (D_slices_DeleteFunc_4168 F g E) 74 (u2 (c_slices_IndexFunc_4168 F g (D_slices_DeleteFunc_4168 F g E))))
noncomputable def c_slices_DeleteFunc_4168_j1 (F g : Nat) (kc5 : List AV → H → Option R) (vs : List AV) (h : H) : Option R := (fun x13 x14 x15 x16 => aArith iadd x16 (AV.int 3 (Int.ofNat 1)) h fun x17 h => kc5 [x13, x14, x15, x17] h) (hd vs) (hd (tl vs)) (hd (tl (tl vs))) (hd (tl (tl (tl vs))))
noncomputable def c_slices_DeleteFunc_4168_l2 (F g : Nat) (E : Env) : List AV → H → (List AV → H → Option R) → Option R := fun vs h kc5 => (fun x6 x7 x8 x9 => aLenK 1 x6 h fun x10 h => aCmpI ilt x9 x10 h fun x11 h => withBool x11 fun t12 => bc t12 (aIdxAddr 1 x6 x9 h fun x18 h => aLoad x18 h fun x19 h => dCall (G_slices_DeleteFunc_4168 F g E) x7 [x19] h fun x20 h => aNot x20 h fun x21 h => withBool x21 fun t22 => bc t22 (aIdxAddr 1 x6 x8 h fun x23 h => aStore x23 x19 h fun x24 h => aArith iadd x8 (AV.int 3 (Int.ofNat 1)) h fun x25 h => (c_slices_DeleteFunc_4168_j1 F g kc5) [x6, x7, x25, x9] h) ((c_slices_DeleteFunc_4168_j1 F g kc5) [x6, x7, x8, x9] h)) (aSliceV 1 x6 (some x8) none none h fun x26 h => aClearS 1 [(AV.leaf .nilp)] x26 h fun x27 h => aSliceV 1 x6 none (some x8) none h fun x28 h => some (x28, h))) (hd vs) (hd (tl vs)) (hd (tl (tl vs))) (hd (tl (tl (tl vs))))
noncomputable def c_slices_DeleteFunc_4168 (F g : Nat) (E : Env) (a0 a1 : AV) (h : H) : Option R := bindR (c_slices_IndexFunc_4168 F g (D_slices_DeleteFunc_4168 F g E) a0 a1 h) fun x1 h => aCmpI ieq x1 (AV.int 3 (Int.negSucc 0)) h fun x2 h => withBool x2 fun t3 => bc t3 (some (a0, h)) (aArith iadd x1 (AV.int 3 (Int.ofNat 1)) h fun x4 h => loopD F (c_slices_DeleteFunc_4168_l2 F g E) [a0, a1, x1, x4] h)
noncomputable def A_slices_DeleteFunc_4168 : An := (.two .o (.two .o (.two (.two .o (.two (.two .o .o) .o)) (.two (.two .o (.two (.at_ [0, 1, 5, 6] (.two (.two .o (.two .o .o)) (.at_ [0, 1, 5, 6] (.two (.two .o (.two .o (.two (.two .o .o) .o))) .o) .o)) .o) .o)) (.two .o (.two .o .o))))))
noncomputable def b_slices_DeleteFunc_4168 : Code := bodyOf Go.Proofs.Tryd.f54
theorem k_slices_DeleteFunc_4168 (F g : Nat) (E : Env) (a0 a1 : AV) (h : H) : callD Go.Proofs.Tryd.prog (G_slices_DeleteFunc_4168 F g E) 42 F b_slices_DeleteFunc_4168 [4] A_slices_DeleteFunc_4168 [a0, a1] h = c_slices_DeleteFunc_4168 F g E a0 a1 h := by kernel_rfl
theorem s_slices_DeleteFunc_4168 (F g : Nat) (E : Env) (hE : Sound Go.Proofs.Tryd.prog E) : ∀ args h r, u2 (c_slices_DeleteFunc_4168 F g E) args h = some r → Tri Go.Proofs.Tryd.prog 54 args h r := by
  intro args h r e; obtain ⟨a0, a1, rfl, e1⟩ := u2_some e; exact fn_sound Go.Proofs.Tryd.func54 rfl rfl rfl Go.Proofs.Tryd.ntmps54 (Sound.add hE (s_slices_IndexFunc_4168 F g (D_slices_DeleteFunc_4168 F g E) hE)) ((k_slices_DeleteFunc_4168 F g E a0 a1 h).trans e1)

-- "(*loop.example/treenumbers/impl.node).root"
noncomputable def c_impl_node_root_l1 (F g : Nat) : List AV → H → (List AV → H → Option R) → Option R := fun vs h kc1 => (fun x2 => aNilCheck x2 h fun x3 h => aField 1 x3 h fun x4 h => aLoad x4 h fun x5 h => aEq true 1 x5 (AV.leaf .nilp) h fun x6 h => withBool x6 fun t7 => bc t7 (aNilCheck x2 h fun x8 h => aField 1 x8 h fun x9 h => aLoad x9 h fun x10 h => kc1 [x10] h) (some (x2, h))) (hd vs)
noncomputable def c_impl_node_root (F g : Nat) (a0 : AV) (h : H) : Option R := loopD F (c_impl_node_root_l1 F g) [a0] h
noncomputable def A_impl_node_root : An := (.two .o (.two .o (.two (.two (.at_ [3] (.two (.two .o (.two .o .o)) (.two .o .o)) .o) .o) (.two .o .o))))
noncomputable def b_impl_node_root : Code := bodyOf Go.Proofs.Tryd.f40
theorem k_impl_node_root (F g : Nat) (a0 : AV) (h : H) : callD Go.Proofs.Tryd.prog (fun _ _ _ => none : Env) 15 F b_impl_node_root [2] A_impl_node_root [a0] h = c_impl_node_root F g a0 h := by kernel_rfl
theorem s_impl_node_root (F g : Nat) : ∀ args h r, u1 (c_impl_node_root F g) args h = some r → Tri Go.Proofs.Tryd.prog 40 args h r := by
  intro args h r e; obtain ⟨a0, rfl, e1⟩ := u1_some e; exact fn_sound Go.Proofs.Tryd.func40 rfl rfl rfl Go.Proofs.Tryd.ntmps40 (Sound.none _) ((k_impl_node_root F g a0 h).trans e1)

-- "(*loop.example/treenumbers/impl.node).text"
noncomputable def c_impl_node_text_l1 (F g : Nat) (self : AV → H → Option R) : List AV → H → (List AV → H → Option R) → Option R := fun vs h kc5 => (fun x6 x7 x8 x9 => aCmpI ilt x9 x8 h fun x10 h => withBool x10 fun t11 => bc t11 (aIdxAddr 1 x7 x9 h fun x12 h => aLoad x12 h fun x13 h => bindR (self x13 h) fun x14 h => aSAdd x6 x14 h fun x15 h => aArith iadd x9 (AV.int 3 (Int.ofNat 1)) h fun x16 h => kc5 [x15, x7, x8, x16] h) (aSAdd x6 (AV.str [41] 1) h fun x17 h => some (x17, h))) (hd vs) (hd (tl vs)) (hd (tl (tl vs))) (hd (tl (tl (tl vs))))
noncomputable def c_impl_node_text (F g : Nat) : AV → H → Option R := Nat.rec (motive := fun _ => AV → H → Option R) (fun _ _ => none) (fun g self a0 h => aNilCheck a0 h fun x1 h => aField 2 x1 h fun x2 h => aLoad x2 h fun x3 h => aLenK 1 x3 h fun x4 h => loopD F (c_impl_node_text_l1 F g self) [(AV.str [40] 1), x3, x4, (AV.int 3 (Int.ofNat 0))] h) g
noncomputable def A_impl_node_text : An := (.two .o (.two .o (.two (.two .o (.two (.at_ [3, 9, 10, 11] (.two .o (.two (.two .o .o) (.two (.two (.two .o .o) .o) .o))) .o) .o)) (.two .o .o))))
noncomputable def b_impl_node_text : Code := bodyOf Go.Proofs.Tryd.f56
theorem k_impl_node_text (F g : Nat) (a0 : AV) (h : H) : callD Go.Proofs.Tryd.prog (Env.add (fun _ _ _ => none : Env) 56 (u1 (c_impl_node_text F g))) 22 F b_impl_node_text [2] A_impl_node_text [a0] h = c_impl_node_text F (g + 1) a0 h := by kernel_rfl
theorem s_impl_node_text (F g : Nat) : ∀ args h r, u1 (c_impl_node_text F g) args h = some r → Tri Go.Proofs.Tryd.prog 56 args h r := by
  induction g with
  | zero => intro args h r e; obtain ⟨a0, rfl, e⟩ := u1_some e; cases e
  | succ g ih => intro args h r e; obtain ⟨a0, rfl, e1⟩ := u1_some e; exact fn_sound Go.Proofs.Tryd.func56 rfl rfl rfl Go.Proofs.Tryd.ntmps56 (Sound.add (Sound.none _) ih) ((k_impl_node_text F g a0 h).trans e1)

-- "loop.example/treenumbers/impl.CutPrune$1"
noncomputable def c_impl_CutPrune_d1 (F g : Nat) (a0 a1 : AV) (h : H) : Option R := aLoad a1 h fun x1 h => aEq false 1 a0 x1 h fun x2 h => some (x2, h)
noncomputable def A_impl_CutPrune_d1 : An := (.two .o (.two .o .o))
noncomputable def b_impl_CutPrune_d1 : Code := bodyOf Go.Proofs.Tryd.f55
theorem k_impl_CutPrune_d1 (F g : Nat) (a0 a1 : AV) (h : H) : callD Go.Proofs.Tryd.prog (fun _ _ _ => none : Env) 7 F b_impl_CutPrune_d1 [3] A_impl_CutPrune_d1 [a0, a1] h = c_impl_CutPrune_d1 F g a0 a1 h := by kernel_rfl
theorem s_impl_CutPrune_d1 (F g : Nat) : ∀ args h r, u2 (c_impl_CutPrune_d1 F g) args h = some r → Tri Go.Proofs.Tryd.prog 55 args h r := by
  intro args h r e; obtain ⟨a0, a1, rfl, e1⟩ := u2_some e; exact fn_sound Go.Proofs.Tryd.func55 rfl rfl rfl Go.Proofs.Tryd.ntmps55 (Sound.none _) ((k_impl_CutPrune_d1 F g a0 a1 h).trans e1)

-- "loop.example/treenumbers/impl.CutPrune"
noncomputable def D_impl_CutPrune (F g : Nat) (E : Env) : Env := (Env.add E 55 (u2 (c_impl_CutPrune_d1 F g)))
noncomputable def G_impl_CutPrune (F g : Nat) (E : Env) : Env := (Env.add (Env.add (Env.add (Env.add (Env.add (D_impl_CutPrune F g E) 36 (u2 (c_impl_nodeIn F g))) 37 (u1 (c_impl_isNoNode F g))) 54 (u2 (c_slices_DeleteFunc_4168 F g (D_impl_CutPrune F g E)))) 40 (u1 (c_impl_node_root F g))) 56 (u1 (c_impl_node_text F g)))
noncomputable def c_impl_CutPrune_j1 (F g : Nat) (E : Env) (vs : List AV) (h : H) : Option R := (fun x7 x8 x9 => aPick x8 (AV.bool true) x9 h fun x10 h => withBool x10 fun t11 => bc t11 (some (AV.one .tup (AV.cons (AV.str [] 0) (AV.cons (AV.bool false) (AV.leaf .nil))), h)) ((fun W12 => aLoadW W12 x7 h fun x13 h => aNilCheck x13 h fun x14 _ => bc (okW W12 h) (aField 1 x14 h fun x15 _ => bc (okW W12 h) (aLoadW W12 x15 h fun x16 h => aLoadW W12 x7 h fun x17 h => aNilCheck x17 h fun x18 _ => bc (okW W12 h) (aField 1 x18 h fun x19 _ => bc (okW W12 h) (aLoadW W12 x19 h fun x20 h => aNilCheck x20 h fun x21 _ => bc (okW W12 h) (aField 2 x21 h fun x22 _ => bc (okW W12 h) (aLoad x22 h fun x23 _ => bc (okW W12 h) (aMakeF (.func 55) [] [x7] h fun x24 _ => bc (okW W12 h) (bindR (c_slices_DeleteFunc_4168 F g (D_impl_CutPrune F g E) x23 x24 h) fun x25 h => bc (okW W12 h) (aNilCheck x16 h fun x26 _ => bc (okW W12 h) (aField 2 x26 h fun x27 _ => bc (okW W12 h) (aStore x27 x25 h fun x28 h => bc (okW W12 h) (aLoad x7 h fun x29 h => bindR (c_impl_node_root F g x29 h) fun x30 h => bindR (c_impl_node_text F g x30 h) fun x31 h => some (AV.one .tup (AV.cons x31 (AV.cons (AV.bool true) (AV.leaf .nil))), h)) none) none) none) none) none) none) none) none) none) none) none) none) (watchN h 2 [x7, (AV.leaf .undef), (AV.leaf .undef), x7, (AV.leaf .undef), (AV.leaf .undef), (AV.leaf .undef), (AV.leaf .undef), (AV.leaf .undef)]))) (hd vs) (hd (tl vs)) (hd (tl (tl vs)))
noncomputable def c_impl_CutPrune (F g : Nat) (E : Env) (a0 a1 : AV) (h : H) : Option R := bindR (c_impl_nodeIn F g a0 a1 h) fun x1 h => aExtract x1 0 h fun x2 h => aExtract x1 1 h fun x3 h => aAlloc [(AV.leaf .nilp)] h fun x4 h => aStore x4 x2 h fun x5 h => bindR (c_impl_isNoNode F g x3 h) fun x6 h => guardB false x6 (aLoad x4 h fun x32 h => aNilCheck x32 h fun x33 h => aField 1 x33 h fun x34 h => aLoad x34 h fun x35 h => aEq false 1 x35 (AV.leaf .nilp) h fun x36 h => (c_impl_CutPrune_j1 F g E) [x4, x6, x36] h) ((c_impl_CutPrune_j1 F g E) [x4, x6, (AV.one .tup (AV.leaf .nil))] h)
noncomputable def A_impl_CutPrune : An := (.two .o (.two .o (.two (.two (.at_ [6, 16, 21] .o .o) (.two (.two .o .o) .o)) (.two .o (.two .o .o)))))
noncomputable def b_impl_CutPrune : Code := bodyOf Go.Proofs.Tryd.f23
theorem k_impl_CutPrune (F g : Nat) (E : Env) (a0 a1 : AV) (h : H) : callD Go.Proofs.Tryd.prog (G_impl_CutPrune F g E) 41 F b_impl_CutPrune [4, 5] A_impl_CutPrune [a0, a1] h = c_impl_CutPrune F g E a0 a1 h := by kernel_rfl
theorem s_impl_CutPrune (F g : Nat) (E : Env) (hE : Sound Go.Proofs.Tryd.prog E) : ∀ args h r, u2 (c_impl_CutPrune F g E) args h = some r → Tri Go.Proofs.Tryd.prog 23 args h r := by
  intro args h r e; obtain ⟨a0, a1, rfl, e1⟩ := u2_some e; exact fn_sound Go.Proofs.Tryd.func23 rfl rfl rfl Go.Proofs.Tryd.ntmps23 (Sound.add (Sound.add (Sound.add (Sound.add (Sound.add (Sound.add hE (s_impl_CutPrune_d1 F g)) (s_impl_nodeIn F g)) (s_impl_isNoNode F g)) (s_slices_DeleteFunc_4168 F g (D_impl_CutPrune F g E) (Sound.add hE (s_impl_CutPrune_d1 F g)))) (s_impl_node_root F g)) (s_impl_node_text F g)) ((k_impl_CutPrune F g E a0 a1 h).trans e1)

-- "loop.example/treenumbers/laws.FnExactCutPrune"
noncomputable def D_laws_FnExactCutPrune (F g : Nat) : Env := (fun _ _ _ => none : Env)
noncomputable def c_laws_FnExactCutPrune_j1 (F g : Nat) (vs : List AV) (h : H) : Option R := (fun x11 x12 => aPick x11 (AV.bool true) x12 h fun x13 h => withBool x13 fun t14 => bc t14 (some ((AV.bool false), h)) (some ((AV.bool true), h))) (hd vs) (hd (tl vs))
noncomputable def c_laws_FnExactCutPrune (F g : Nat) (a0 a1 : AV) (h : H) : Option R := aLenK 0 a0 h fun x1 h => aCmpI (fun a b => ilt b a) x1 (AV.int 3 (Int.ofNat 1048576)) h fun x2 h => withBool x2 fun t3 => bc t3 (some ((AV.bool true), h)) (bindR (c_spec_CutPrune F g a0 a1 h) fun x4 h => aExtract x4 0 h fun x5 h => aExtract x4 1 h fun x6 h => bindR (c_impl_CutPrune F g (D_laws_FnExactCutPrune F g) a0 a1 h) fun x7 h => aExtract x7 0 h fun x8 h => aExtract x7 1 h fun x9 h => aCmpS (fun a b => bnot (eqL a b)) x8 x5 h fun x10 h => guardB false x10 (aEq true 0 x9 x6 h fun x15 h => (c_laws_FnExactCutPrune_j1 F g) [x10, x15] h) ((c_laws_FnExactCutPrune_j1 F g) [x10, (AV.one .tup (AV.leaf .nil))] h))
noncomputable def A_laws_FnExactCutPrune : An := (.two .o (.two (.two .o (.two (.two .o .o) .o)) (.two .o (.two .o (.two (.two (.at_ [27, 30] .o .o) (.two (.two .o .o) .o)) (.two .o .o))))))
noncomputable def b_laws_FnExactCutPrune : Code := bodyOf Go.Proofs.Tryd.f8
theorem k_laws_FnExactCutPrune (F g : Nat) (a0 a1 : AV) (h : H) : callD Go.Proofs.Tryd.prog (Env.add (Env.add (fun _ _ _ => none : Env) 24 (u2 (c_spec_CutPrune F g))) 23 (u2 (c_impl_CutPrune F g (D_laws_FnExactCutPrune F g)))) 32 F b_laws_FnExactCutPrune [4] A_laws_FnExactCutPrune [a0, a1] h = c_laws_FnExactCutPrune F g a0 a1 h := by kernel_rfl
theorem s_laws_FnExactCutPrune (F g : Nat) : ∀ args h r, u2 (c_laws_FnExactCutPrune F g) args h = some r → Tri Go.Proofs.Tryd.prog 8 args h r := by
  intro args h r e; obtain ⟨a0, a1, rfl, e1⟩ := u2_some e; exact fn_sound Go.Proofs.Tryd.func8 rfl rfl rfl Go.Proofs.Tryd.ntmps8 (Sound.add (Sound.add (Sound.none _) (s_spec_CutPrune F g)) (s_impl_CutPrune F g (D_laws_FnExactCutPrune F g) (Sound.none _))) ((k_laws_FnExactCutPrune F g a0 a1 h).trans e1)

end
end Go.AI.T
