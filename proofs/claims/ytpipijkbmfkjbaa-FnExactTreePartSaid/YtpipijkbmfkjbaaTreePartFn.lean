/- The functions that the law FnExactTreePart reaches, as the evaluator reads them. -/
import Derived.KernelRfl
import Derived.Test.YtpipijkbmfkjbaaRaw
import Derived.Test.YtpipijkbmfkjbaaProg
namespace Go.AI.T
open Go Go.RowKit Go.AI
set_option linter.unusedVariables false
set_option linter.unusedSimpArgs false
set_option maxRecDepth 100000
noncomputable section
-- "loop.example/treenumbers/spec.l6In"
noncomputable def c_spec_l6In_j1 (F g : Nat) (vs : List AV) (h : H) : Option R := (fun x2 x3 => aPick x2 x3 (AV.bool false) h fun x4 h => some (x4, h)) (hd vs) (hd (tl vs))
noncomputable def c_spec_l6In (F g : Nat) (a0 a1 a2 : AV) (h : H) : Option R := aCmpI (fun a b => ile b a) a0 a1 h fun x1 h => guardB true x1 (aCmpI ile a0 a2 h fun x5 h => (c_spec_l6In_j1 F g) [x1, x5] h) ((c_spec_l6In_j1 F g) [x1, (AV.one .tup (AV.leaf .nil))] h)
noncomputable def A_spec_l6In : An := (.two .o (.two (.at_ [10, 13] .o .o) .o))
noncomputable def b_spec_l6In : Code := bodyOf Go.Proofs.Try.f12
theorem k_spec_l6In (F g : Nat) (a0 a1 a2 : AV) (h : H) : callD Go.Proofs.Try.prog (fun _ _ _ => none : Env) 15 F b_spec_l6In [6] A_spec_l6In [a0, a1, a2] h = c_spec_l6In F g a0 a1 a2 h := by kernel_rfl
theorem s_spec_l6In (F g : Nat) : ∀ args h r, u3 (c_spec_l6In F g) args h = some r → Tri Go.Proofs.Try.prog 12 args h r := by
  intro args h r e; obtain ⟨a0, a1, a2, rfl, e1⟩ := u3_some e; exact fn_sound Go.Proofs.Try.func12 rfl rfl rfl Go.Proofs.Try.ntmps12 (Sound.none _) ((k_spec_l6In F g a0 a1 a2 h).trans e1)

-- "loop.example/treenumbers/spec.l1Node"
noncomputable def c_spec_l1Node_j1 (F g : Nat) (vs : List AV) (h : H) : Option R := (fun x2 x3 => aPick x2 x3 (AV.bool false) h fun x4 h => some (x4, h)) (hd vs) (hd (tl vs))
noncomputable def c_spec_l1Node (F g : Nat) (a0 a1 : AV) (h : H) : Option R := bindR (c_spec_TreeIn F g a0 h) fun x1 h => guardB true x1 (aLenK 0 a0 h fun x5 h => aQuo x5 (AV.int 3 (Int.ofNat 2)) h fun x6 h => aArith isub x6 (AV.int 3 (Int.ofNat 1)) h fun x7 h => bindR (c_spec_l6In F g a1 (AV.int 3 (Int.ofNat 0)) x7 h) fun x8 h => (c_spec_l1Node_j1 F g) [x1, x8] h) ((c_spec_l1Node_j1 F g) [x1, (AV.one .tup (AV.leaf .nil))] h)
noncomputable def A_spec_l1Node : An := (.two .o (.two (.at_ [7, 13] .o .o) .o))
noncomputable def b_spec_l1Node : Code := bodyOf Go.Proofs.Try.f6
theorem k_spec_l1Node (F g : Nat) (a0 a1 : AV) (h : H) : callD Go.Proofs.Try.prog (Env.add (Env.add (fun _ _ _ => none : Env) 11 (u1 (c_spec_TreeIn F g))) 12 (u3 (c_spec_l6In F g))) 15 F b_spec_l1Node [4] A_spec_l1Node [a0, a1] h = c_spec_l1Node F g a0 a1 h := by kernel_rfl
theorem s_spec_l1Node (F g : Nat) : ∀ args h r, u2 (c_spec_l1Node F g) args h = some r → Tri Go.Proofs.Try.prog 6 args h r := by
  intro args h r e; obtain ⟨a0, a1, rfl, e1⟩ := u2_some e; exact fn_sound Go.Proofs.Try.func6 rfl rfl rfl Go.Proofs.Try.ntmps6 (Sound.add (Sound.add (Sound.none _) (s_spec_TreeIn F g)) (s_spec_l6In F g)) ((k_spec_l1Node F g a0 a1 h).trans e1)

-- "loop.example/treenumbers/spec.l1Opens"
noncomputable def c_spec_l1Opens_j1 (F g : Nat) (kc2 : List AV → H → Option R) (vs : List AV) (h : H) : Option R := (fun x9 x10 x11 => aArith iadd x11 (AV.int 3 (Int.ofNat 1)) h fun x12 h => kc2 [x9, x10, x12] h) (hd vs) (hd (tl vs)) (hd (tl (tl vs)))
noncomputable def c_spec_l1Opens_l2 (F g : Nat) : List AV → H → (List AV → H → Option R) → Option R := fun vs h kc2 => (fun x3 x4 x5 => aLenK 0 x3 h fun x6 h => aCmpI ilt x5 x6 h fun x7 h => withBool x7 fun t8 => bc t8 (aIdxStr x3 x5 h fun x13 h => aCmpI ieq x13 (AV.int 4 (Int.ofNat 40)) h fun x14 h => withBool x14 fun t15 => bc t15 (aBuildSlice 1 1 [(0, 1, x5)] h fun x16 h => aAppend 1 8 x4 x16 h fun x17 h => (c_spec_l1Opens_j1 F g kc2) [x3, x17, x5] h) ((c_spec_l1Opens_j1 F g kc2) [x3, x4, x5] h)) (some (x4, h))) (hd vs) (hd (tl vs)) (hd (tl (tl vs)))
noncomputable def c_spec_l1Opens (F g : Nat) (a0 : AV) (h : H) : Option R := aBuildSlice 0 1 [] h fun x1 h => loopD F (c_spec_l1Opens_l2 F g) [a0, x1, (AV.int 3 (Int.ofNat 0))] h
noncomputable def A_spec_l1Opens : An := (.two .o (.two .o (.two (.two .o (.two (.at_ [0, 3, 4] (.two (.two .o (.two .o .o)) (.at_ [0, 3, 4] (.two (.two .o (.two .o .o)) .o) .o)) .o) .o)) (.two .o .o))))
noncomputable def b_spec_l1Opens : Code := bodyOf Go.Proofs.Try.f13
theorem k_spec_l1Opens (F g : Nat) (a0 : AV) (h : H) : callD Go.Proofs.Try.prog (fun _ _ _ => none : Env) 21 F b_spec_l1Opens [2] A_spec_l1Opens [a0] h = c_spec_l1Opens F g a0 h := by kernel_rfl
theorem s_spec_l1Opens (F g : Nat) : ∀ args h r, u1 (c_spec_l1Opens F g) args h = some r → Tri Go.Proofs.Try.prog 13 args h r := by
  intro args h r e; obtain ⟨a0, rfl, e1⟩ := u1_some e; exact fn_sound Go.Proofs.Try.func13 rfl rfl rfl Go.Proofs.Try.ntmps13 (Sound.none _) ((k_spec_l1Opens F g a0 h).trans e1)

-- "loop.example/treenumbers/spec.l1End"
noncomputable def c_spec_l1End_j1 (F g : Nat) (kc1 : List AV → H → Option R) (vs : List AV) (h : H) : Option R := (fun x8 x9 x10 => aCmpI ieq x9 (AV.int 3 (Int.ofNat 0)) h fun x11 h => withBool x11 fun t12 => bc t12 (aArith iadd x10 (AV.int 3 (Int.ofNat 1)) h fun x13 h => some (x13, h)) (aCmpI ilt x9 (AV.int 3 (Int.ofNat 0)) h fun x14 h => withBool x14 fun t15 => bc t15 (some ((AV.int 3 (Int.negSucc 0)), h)) (aArith iadd x10 (AV.int 3 (Int.ofNat 1)) h fun x16 h => kc1 [x8, x9, x16] h))) (hd vs) (hd (tl vs)) (hd (tl (tl vs)))
noncomputable def c_spec_l1End_l2 (F g : Nat) : List AV → H → (List AV → H → Option R) → Option R := fun vs h kc1 => (fun x2 x3 x4 => aLenK 0 x2 h fun x5 h => aCmpI ilt x4 x5 h fun x6 h => withBool x6 fun t7 => bc t7 (aIdxStr x2 x4 h fun x17 h => aCmpI ieq x17 (AV.int 4 (Int.ofNat 40)) h fun x18 h => withBool x18 fun t19 => bc t19 (aArith iadd x3 (AV.int 3 (Int.ofNat 1)) h fun x20 h => (c_spec_l1End_j1 F g kc1) [x2, x20, x4] h) (aCmpI ieq x17 (AV.int 4 (Int.ofNat 41)) h fun x21 h => withBool x21 fun t22 => bc t22 (aArith isub x3 (AV.int 3 (Int.ofNat 1)) h fun x23 h => (c_spec_l1End_j1 F g kc1) [x2, x23, x4] h) (some ((AV.int 3 (Int.negSucc 0)), h)))) (some ((AV.int 3 (Int.negSucc 0)), h))) (hd vs) (hd (tl vs)) (hd (tl (tl vs)))
noncomputable def c_spec_l1End (F g : Nat) (a0 a1 : AV) (h : H) : Option R := loopD F (c_spec_l1End_l2 F g) [a0, (AV.int 3 (Int.ofNat 0)), a1] h
noncomputable def A_spec_l1End : An := (.two .o (.two .o (.two (.two .o (.two (.at_ [0, 5, 6] (.two (.two .o (.two .o .o)) (.two (.two (.at_ [0, 5, 6] (.two .o (.two (.two .o (.two .o (.two .o (.two .o (.two .o .o))))) .o)) (.two (.two .o (.two (.two .o .o) .o)) (.two .o (.two (.two .o .o) .o)))) .o) .o)) .o) .o)) (.two .o .o))))
noncomputable def b_spec_l1End : Code := bodyOf Go.Proofs.Try.f14
theorem k_spec_l1End (F g : Nat) (a0 a1 : AV) (h : H) : callD Go.Proofs.Try.prog (fun _ _ _ => none : Env) 31 F b_spec_l1End [4] A_spec_l1End [a0, a1] h = c_spec_l1End F g a0 a1 h := by kernel_rfl
theorem s_spec_l1End (F g : Nat) : ∀ args h r, u2 (c_spec_l1End F g) args h = some r → Tri Go.Proofs.Try.prog 14 args h r := by
  intro args h r e; obtain ⟨a0, a1, rfl, e1⟩ := u2_some e; exact fn_sound Go.Proofs.Try.func14 rfl rfl rfl Go.Proofs.Try.ntmps14 (Sound.none _) ((k_spec_l1End F g a0 a1 h).trans e1)

-- "loop.example/treenumbers/spec.l1Part"
noncomputable def c_spec_l1Part (F g : Nat) (a0 a1 : AV) (h : H) : Option R := bindR (c_spec_l1Opens F g a0 h) fun x1 h => aIdxAddr 1 x1 a1 h fun x2 h => aLoad x2 h fun x3 h => bindR (c_spec_l1End F g a0 x3 h) fun x4 h => aSliceS a0 (some x3) (some x4) none h fun x5 h => some (x5, h)
noncomputable def A_spec_l1Part : An := (.two .o (.two .o (.two .o .o)))
noncomputable def b_spec_l1Part : Code := bodyOf Go.Proofs.Try.f7
theorem k_spec_l1Part (F g : Nat) (a0 a1 : AV) (h : H) : callD Go.Proofs.Try.prog (Env.add (Env.add (fun _ _ _ => none : Env) 13 (u1 (c_spec_l1Opens F g))) 14 (u2 (c_spec_l1End F g))) 17 F b_spec_l1Part [4] A_spec_l1Part [a0, a1] h = c_spec_l1Part F g a0 a1 h := by kernel_rfl
theorem s_spec_l1Part (F g : Nat) : ∀ args h r, u2 (c_spec_l1Part F g) args h = some r → Tri Go.Proofs.Try.prog 7 args h r := by
  intro args h r e; obtain ⟨a0, a1, rfl, e1⟩ := u2_some e; exact fn_sound Go.Proofs.Try.func7 rfl rfl rfl Go.Proofs.Try.ntmps7 (Sound.add (Sound.add (Sound.none _) (s_spec_l1Opens F g)) (s_spec_l1End F g)) ((k_spec_l1Part F g a0 a1 h).trans e1)

-- "loop.example/treenumbers/spec.TreePart"
noncomputable def c_spec_TreePart (F g : Nat) (a0 a1 : AV) (h : H) : Option R := bindR (c_spec_l1Node F g a0 a1 h) fun x1 h => aNot x1 h fun x2 h => withBool x2 fun t3 => bc t3 (some (AV.one .tup (AV.cons (AV.str [] 0) (AV.cons (AV.bool false) (AV.leaf .nil))), h)) (bindR (c_spec_l1Part F g a0 a1 h) fun x4 h => some (AV.one .tup (AV.cons x4 (AV.cons (AV.bool true) (AV.leaf .nil))), h))
noncomputable def A_spec_TreePart : An := (.two .o (.two (.two .o (.two (.two .o .o) .o)) (.two .o .o)))
noncomputable def b_spec_TreePart : Code := bodyOf Go.Proofs.Try.f4
theorem k_spec_TreePart (F g : Nat) (a0 a1 : AV) (h : H) : callD Go.Proofs.Try.prog (Env.add (Env.add (fun _ _ _ => none : Env) 6 (u2 (c_spec_l1Node F g))) 7 (u2 (c_spec_l1Part F g))) 13 F b_spec_TreePart [4, 5] A_spec_TreePart [a0, a1] h = c_spec_TreePart F g a0 a1 h := by kernel_rfl
theorem s_spec_TreePart (F g : Nat) : ∀ args h r, u2 (c_spec_TreePart F g) args h = some r → Tri Go.Proofs.Try.prog 4 args h r := by
  intro args h r e; obtain ⟨a0, a1, rfl, e1⟩ := u2_some e; exact fn_sound Go.Proofs.Try.func4 rfl rfl rfl Go.Proofs.Try.ntmps4 (Sound.add (Sound.add (Sound.none _) (s_spec_l1Node F g)) (s_spec_l1Part F g)) ((k_spec_TreePart F g a0 a1 h).trans e1)

-- "(*loop.example/treenumbers/impl.node).nodes"
noncomputable def c_impl_node_nodes_l1 (F g : Nat) (self : AV → H → Option R) : List AV → H → (List AV → H → Option R) → Option R := fun vs h kc6 => (fun x7 x8 x9 x10 => aCmpI ilt x10 x9 h fun x11 h => withBool x11 fun t12 => bc t12 (aIdxAddr 1 x8 x10 h fun x13 h => aLoad x13 h fun x14 h => bindR (self x14 h) fun x15 h => aAppend 1 8 x7 x15 h fun x16 h => aArith iadd x10 (AV.int 3 (Int.ofNat 1)) h fun x17 h => kc6 [x16, x8, x9, x17] h) (some (x7, h))) (hd vs) (hd (tl vs)) (hd (tl (tl vs))) (hd (tl (tl (tl vs))))
noncomputable def c_impl_node_nodes (F g : Nat) : AV → H → Option R := Nat.rec (motive := fun _ => AV → H → Option R) (fun _ _ => none) (fun g self a0 h => aBuildSlice 1 1 [(0, 1, a0)] h fun x1 h => aNilCheck a0 h fun x2 h => aField 2 x2 h fun x3 h => aLoad x3 h fun x4 h => aLenK 1 x4 h fun x5 h => loopD F (c_impl_node_nodes_l1 F g self) [x1, x4, x5, (AV.int 3 (Int.ofNat 0))] h) g
noncomputable def A_impl_node_nodes : An := (.two .o (.two .o (.two (.two .o (.two (.at_ [3, 11, 12, 13] (.two .o (.two (.two .o .o) (.two (.two (.two .o .o) .o) .o))) .o) .o)) (.two .o .o))))
noncomputable def b_impl_node_nodes : Code := bodyOf Go.Proofs.Try.f9
theorem k_impl_node_nodes (F g : Nat) (a0 : AV) (h : H) : callD Go.Proofs.Try.prog (Env.add (fun _ _ _ => none : Env) 9 (u1 (c_impl_node_nodes F g))) 23 F b_impl_node_nodes [2] A_impl_node_nodes [a0] h = c_impl_node_nodes F (g + 1) a0 h := by kernel_rfl
theorem s_impl_node_nodes (F g : Nat) : ∀ args h r, u1 (c_impl_node_nodes F g) args h = some r → Tri Go.Proofs.Try.prog 9 args h r := by
  induction g with
  | zero => intro args h r e; obtain ⟨a0, rfl, e⟩ := u1_some e; cases e
  | succ g ih => intro args h r e; obtain ⟨a0, rfl, e1⟩ := u1_some e; exact fn_sound Go.Proofs.Try.func9 rfl rfl rfl Go.Proofs.Try.ntmps9 (Sound.add (Sound.none _) ih) ((k_impl_node_nodes F g a0 h).trans e1)

-- "(*loop.example/treenumbers/impl.node).text"
noncomputable def c_impl_node_text_l1 (F g : Nat) (self : AV → H → Option R) : List AV → H → (List AV → H → Option R) → Option R := fun vs h kc5 => (fun x6 x7 x8 x9 => aCmpI ilt x9 x8 h fun x10 h => withBool x10 fun t11 => bc t11 (aIdxAddr 1 x7 x9 h fun x12 h => aLoad x12 h fun x13 h => bindR (self x13 h) fun x14 h => aSAdd x6 x14 h fun x15 h => aArith iadd x9 (AV.int 3 (Int.ofNat 1)) h fun x16 h => kc5 [x15, x7, x8, x16] h) (aSAdd x6 (AV.str [41] 1) h fun x17 h => some (x17, h))) (hd vs) (hd (tl vs)) (hd (tl (tl vs))) (hd (tl (tl (tl vs))))
noncomputable def c_impl_node_text (F g : Nat) : AV → H → Option R := Nat.rec (motive := fun _ => AV → H → Option R) (fun _ _ => none) (fun g self a0 h => aNilCheck a0 h fun x1 h => aField 2 x1 h fun x2 h => aLoad x2 h fun x3 h => aLenK 1 x3 h fun x4 h => loopD F (c_impl_node_text_l1 F g self) [(AV.str [40] 1), x3, x4, (AV.int 3 (Int.ofNat 0))] h) g
noncomputable def A_impl_node_text : An := (.two .o (.two .o (.two (.two .o (.two (.at_ [3, 9, 10, 11] (.two .o (.two (.two .o .o) (.two (.two (.two .o .o) .o) .o))) .o) .o)) (.two .o .o))))
noncomputable def b_impl_node_text : Code := bodyOf Go.Proofs.Try.f10
theorem k_impl_node_text (F g : Nat) (a0 : AV) (h : H) : callD Go.Proofs.Try.prog (Env.add (fun _ _ _ => none : Env) 10 (u1 (c_impl_node_text F g))) 22 F b_impl_node_text [2] A_impl_node_text [a0] h = c_impl_node_text F (g + 1) a0 h := by kernel_rfl
theorem s_impl_node_text (F g : Nat) : ∀ args h r, u1 (c_impl_node_text F g) args h = some r → Tri Go.Proofs.Try.prog 10 args h r := by
  induction g with
  | zero => intro args h r e; obtain ⟨a0, rfl, e⟩ := u1_some e; cases e
  | succ g ih => intro args h r e; obtain ⟨a0, rfl, e1⟩ := u1_some e; exact fn_sound Go.Proofs.Try.func10 rfl rfl rfl Go.Proofs.Try.ntmps10 (Sound.add (Sound.none _) ih) ((k_impl_node_text F g a0 h).trans e1)

-- "loop.example/treenumbers/impl.TreePart"
noncomputable def c_impl_TreePart_j1 (F g : Nat) (vs : List AV) (h : H) : Option R := (fun x8 x9 x10 x11 => aPick x10 (AV.bool true) x11 h fun x12 h => withBool x12 fun t13 => bc t13 (some (AV.one .tup (AV.cons (AV.str [] 0) (AV.cons (AV.bool false) (AV.leaf .nil))), h)) (aIdxAddr 1 x9 x8 h fun x14 h => aLoad x14 h fun x15 h => bindR (c_impl_node_text F g x15 h) fun x16 h => some (AV.one .tup (AV.cons x16 (AV.cons (AV.bool true) (AV.leaf .nil))), h))) (hd vs) (hd (tl vs)) (hd (tl (tl vs))) (hd (tl (tl (tl vs))))
noncomputable def c_impl_TreePart (F g : Nat) (a0 a1 : AV) (h : H) : Option R := bindR (c_impl_readTree F g a0 h) fun x1 h => aExtract x1 0 h fun x2 h => aExtract x1 1 h fun x3 h => aNot x3 h fun x4 h => withBool x4 fun t5 => bc t5 (some (AV.one .tup (AV.cons (AV.str [] 0) (AV.cons (AV.bool false) (AV.leaf .nil))), h)) (bindR (c_impl_node_nodes F g x2 h) fun x6 h => aCmpI ilt a1 (AV.int 3 (Int.ofNat 0)) h fun x7 h => guardB false x7 (aLenK 1 x6 h fun x17 h => aCmpI (fun a b => ile b a) a1 x17 h fun x18 h => (c_impl_TreePart_j1 F g) [a1, x6, x7, x18] h) ((c_impl_TreePart_j1 F g) [a1, x6, x7, (AV.one .tup (AV.leaf .nil))] h))
noncomputable def A_impl_TreePart : An := (.two .o (.two .o (.two (.two .o (.two (.two .o .o) .o)) (.two .o (.two (.two (.at_ [1, 8, 20, 24] .o .o) (.two (.two .o .o) .o)) (.two .o .o))))))
noncomputable def b_impl_TreePart : Code := bodyOf Go.Proofs.Try.f5
theorem k_impl_TreePart (F g : Nat) (a0 a1 : AV) (h : H) : callD Go.Proofs.Try.prog (Env.add (Env.add (Env.add (fun _ _ _ => none : Env) 8 (u1 (c_impl_readTree F g))) 9 (u1 (c_impl_node_nodes F g))) 10 (u1 (c_impl_node_text F g))) 31 F b_impl_TreePart [4, 5] A_impl_TreePart [a0, a1] h = c_impl_TreePart F g a0 a1 h := by kernel_rfl
theorem s_impl_TreePart (F g : Nat) : ∀ args h r, u2 (c_impl_TreePart F g) args h = some r → Tri Go.Proofs.Try.prog 5 args h r := by
  intro args h r e; obtain ⟨a0, a1, rfl, e1⟩ := u2_some e; exact fn_sound Go.Proofs.Try.func5 rfl rfl rfl Go.Proofs.Try.ntmps5 (Sound.add (Sound.add (Sound.add (Sound.none _) (s_impl_readTree F g)) (s_impl_node_nodes F g)) (s_impl_node_text F g)) ((k_impl_TreePart F g a0 a1 h).trans e1)

-- "loop.example/treenumbers/laws.FnExactTreePart"
noncomputable def c_laws_FnExactTreePart_j1 (F g : Nat) (vs : List AV) (h : H) : Option R := (fun x11 x12 => aPick x11 (AV.bool true) x12 h fun x13 h => withBool x13 fun t14 => bc t14 (some ((AV.bool false), h)) (some ((AV.bool true), h))) (hd vs) (hd (tl vs))
noncomputable def c_laws_FnExactTreePart (F g : Nat) (a0 a1 : AV) (h : H) : Option R := aLenK 0 a0 h fun x1 h => aCmpI (fun a b => ilt b a) x1 (AV.int 3 (Int.ofNat 1048576)) h fun x2 h => withBool x2 fun t3 => bc t3 (some ((AV.bool true), h)) (bindR (c_spec_TreePart F g a0 a1 h) fun x4 h => aExtract x4 0 h fun x5 h => aExtract x4 1 h fun x6 h => bindR (c_impl_TreePart F g a0 a1 h) fun x7 h => aExtract x7 0 h fun x8 h => aExtract x7 1 h fun x9 h => aCmpS (fun a b => bnot (eqL a b)) x8 x5 h fun x10 h => guardB false x10 (aEq true 0 x9 x6 h fun x15 h => (c_laws_FnExactTreePart_j1 F g) [x10, x15] h) ((c_laws_FnExactTreePart_j1 F g) [x10, (AV.one .tup (AV.leaf .nil))] h))
noncomputable def A_laws_FnExactTreePart : An := (.two .o (.two (.two .o (.two (.two .o .o) .o)) (.two .o (.two .o (.two (.two (.at_ [27, 30] .o .o) (.two (.two .o .o) .o)) (.two .o .o))))))
noncomputable def b_laws_FnExactTreePart : Code := bodyOf Go.Proofs.Try.f3
theorem k_laws_FnExactTreePart (F g : Nat) (a0 a1 : AV) (h : H) : callD Go.Proofs.Try.prog (Env.add (Env.add (fun _ _ _ => none : Env) 4 (u2 (c_spec_TreePart F g))) 5 (u2 (c_impl_TreePart F g))) 32 F b_laws_FnExactTreePart [4] A_laws_FnExactTreePart [a0, a1] h = c_laws_FnExactTreePart F g a0 a1 h := by kernel_rfl
theorem s_laws_FnExactTreePart (F g : Nat) : ∀ args h r, u2 (c_laws_FnExactTreePart F g) args h = some r → Tri Go.Proofs.Try.prog 3 args h r := by
  intro args h r e; obtain ⟨a0, a1, rfl, e1⟩ := u2_some e; exact fn_sound Go.Proofs.Try.func3 rfl rfl rfl Go.Proofs.Try.ntmps3 (Sound.add (Sound.add (Sound.none _) (s_spec_TreePart F g)) (s_impl_TreePart F g)) ((k_laws_FnExactTreePart F g a0 a1 h).trans e1)

end
end Go.AI.T
