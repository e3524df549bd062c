/- Grafting: what a read tree is in memory, how a tree is hung in, what the specification finds; two trees of together more than nine nodes. -/
import Derived.Test.YtecliakkmgoglaaDoorRaw
import Derived.Test.YtecliakkmgoglaaDoorLdg
import Derived.KernelRfl
set_option linter.unusedVariables false
set_option linter.unusedSimpArgs false
set_option maxRecDepth 100000
namespace Go.AI.T
open Go Go.RowKit Go.AI
noncomputable section
noncomputable def c_spec_l6In_j1 (F g : Nat) (vs : List AV) (h : H) : Option R := (fun x2 x3 => aPick x2 x3 (AV.bool false) h fun x4 h => some (x4, h)) (hd vs) (hd (tl vs))
noncomputable def c_spec_l6In (F g : Nat) (a0 a1 a2 : AV) (h : H) : Option R := aCmpI (fun a b => ile b a) a0 a1 h fun x1 h => guardB true x1 (aCmpI ile a0 a2 h fun x5 h => (c_spec_l6In_j1 F g) [x1, x5] h) ((c_spec_l6In_j1 F g) [x1, (AV.one .tup (AV.leaf .nil))] h)
noncomputable def A_spec_l6In : An := (.two .o (.two (.at_ [10, 13] .o .o) .o))
noncomputable def b_spec_l6In : Code := bodyOf Go.Proofs.Tryd.f39
theorem k_spec_l6In (F g : Nat) (a0 a1 a2 : AV) (h : H) : callD Go.Proofs.Tryd.prog (fun _ _ _ => none : Env) 15 F b_spec_l6In [6] A_spec_l6In [a0, a1, a2] h = c_spec_l6In F g a0 a1 a2 h := by kernel_rfl
theorem s_spec_l6In (F g : Nat) : ∀ args h r, u3 (c_spec_l6In F g) args h = some r → Tri Go.Proofs.Tryd.prog 39 args h r := by
  intro args h r e; obtain ⟨a0, a1, a2, rfl, e1⟩ := u3_some e; exact fn_sound Go.Proofs.Tryd.func39 rfl rfl rfl Go.Proofs.Tryd.ntmps39 (Sound.none _) ((k_spec_l6In F g a0 a1 a2 h).trans e1)

noncomputable def c_spec_l1Node_j1 (F g : Nat) (vs : List AV) (h : H) : Option R := (fun x2 x3 => aPick x2 x3 (AV.bool false) h fun x4 h => some (x4, h)) (hd vs) (hd (tl vs))
noncomputable def c_spec_l1Node (F g : Nat) (a0 a1 : AV) (h : H) : Option R := bindR (c_spec_TreeIn F g a0 h) fun x1 h => guardB true x1 (aLenK 0 a0 h fun x5 h => aQuo x5 (AV.int 3 (Int.ofNat 2)) h fun x6 h => aArith isub x6 (AV.int 3 (Int.ofNat 1)) h fun x7 h => bindR (c_spec_l6In F g a1 (AV.int 3 (Int.ofNat 0)) x7 h) fun x8 h => (c_spec_l1Node_j1 F g) [x1, x8] h) ((c_spec_l1Node_j1 F g) [x1, (AV.one .tup (AV.leaf .nil))] h)
noncomputable def A_spec_l1Node : An := (.two .o (.two (.at_ [7, 13] .o .o) .o))
noncomputable def b_spec_l1Node : Code := bodyOf Go.Proofs.Tryd.f25
theorem k_spec_l1Node (F g : Nat) (a0 a1 : AV) (h : H) : callD Go.Proofs.Tryd.prog (Env.add (Env.add (fun _ _ _ => none : Env) 16 (u1 (c_spec_TreeIn F g))) 39 (u3 (c_spec_l6In F g))) 15 F b_spec_l1Node [4] A_spec_l1Node [a0, a1] h = c_spec_l1Node F g a0 a1 h := by kernel_rfl
theorem s_spec_l1Node (F g : Nat) : ∀ args h r, u2 (c_spec_l1Node F g) args h = some r → Tri Go.Proofs.Tryd.prog 25 args h r := by
  intro args h r e; obtain ⟨a0, a1, rfl, e1⟩ := u2_some e; exact fn_sound Go.Proofs.Tryd.func25 rfl rfl rfl Go.Proofs.Tryd.ntmps25 (Sound.add (Sound.add (Sound.none _) (s_spec_TreeIn F g)) (s_spec_l6In F g)) ((k_spec_l1Node F g a0 a1 h).trans e1)

noncomputable def c_spec_l1Opens_j1 (F g : Nat) (kc2 : List AV → H → Option R) (vs : List AV) (h : H) : Option R := (fun x9 x10 x11 => aArith iadd x11 (AV.int 3 (Int.ofNat 1)) h fun x12 h => kc2 [x9, x10, x12] h) (hd vs) (hd (tl vs)) (hd (tl (tl vs)))
noncomputable def c_spec_l1Opens_l2 (F g : Nat) : List AV → H → (List AV → H → Option R) → Option R := fun vs h kc2 => (fun x3 x4 x5 => aLenK 0 x3 h fun x6 h => aCmpI ilt x5 x6 h fun x7 h => withBool x7 fun t8 => bc t8 (aIdxStr x3 x5 h fun x13 h => aCmpI ieq x13 (AV.int 4 (Int.ofNat 40)) h fun x14 h => withBool x14 fun t15 => bc t15 (aBuildSlice 1 1 [(0, 1, x5)] h fun x16 h => aAppend 1 8 x4 x16 h fun x17 h => (c_spec_l1Opens_j1 F g kc2) [x3, x17, x5] h) ((c_spec_l1Opens_j1 F g kc2) [x3, x4, x5] h)) (some (x4, h))) (hd vs) (hd (tl vs)) (hd (tl (tl vs)))
noncomputable def c_spec_l1Opens (F g : Nat) (a0 : AV) (h : H) : Option R := aBuildSlice 0 1 [] h fun x1 h => loopD F (c_spec_l1Opens_l2 F g) [a0, x1, (AV.int 3 (Int.ofNat 0))] h
noncomputable def A_spec_l1Opens : An := (.two .o (.two .o (.two (.two .o (.two (.at_ [0, 3, 4] (.two (.two .o (.two .o .o)) (.at_ [0, 3, 4] (.two (.two .o (.two .o .o)) .o) .o)) .o) .o)) (.two .o .o))))
noncomputable def b_spec_l1Opens : Code := bodyOf Go.Proofs.Tryd.f27
theorem k_spec_l1Opens (F g : Nat) (a0 : AV) (h : H) : callD Go.Proofs.Tryd.prog (fun _ _ _ => none : Env) 21 F b_spec_l1Opens [2] A_spec_l1Opens [a0] h = c_spec_l1Opens F g a0 h := by kernel_rfl
theorem s_spec_l1Opens (F g : Nat) : ∀ args h r, u1 (c_spec_l1Opens F g) args h = some r → Tri Go.Proofs.Tryd.prog 27 args h r := by
  intro args h r e; obtain ⟨a0, rfl, e1⟩ := u1_some e; exact fn_sound Go.Proofs.Tryd.func27 rfl rfl rfl Go.Proofs.Tryd.ntmps27 (Sound.none _) ((k_spec_l1Opens F g a0 h).trans e1)

noncomputable def c_spec_l1End_j1 (F g : Nat) (kc1 : List AV → H → Option R) (vs : List AV) (h : H) : Option R := (fun x8 x9 x10 => aCmpI ieq x9 (AV.int 3 (Int.ofNat 0)) h fun x11 h => withBool x11 fun t12 => bc t12 (aArith iadd x10 (AV.int 3 (Int.ofNat 1)) h fun x13 h => some (x13, h)) (aCmpI ilt x9 (AV.int 3 (Int.ofNat 0)) h fun x14 h => withBool x14 fun t15 => bc t15 (some ((AV.int 3 (Int.negSucc 0)), h)) (aArith iadd x10 (AV.int 3 (Int.ofNat 1)) h fun x16 h => kc1 [x8, x9, x16] h))) (hd vs) (hd (tl vs)) (hd (tl (tl vs)))
noncomputable def c_spec_l1End_l2 (F g : Nat) : List AV → H → (List AV → H → Option R) → Option R := fun vs h kc1 => (fun x2 x3 x4 => aLenK 0 x2 h fun x5 h => aCmpI ilt x4 x5 h fun x6 h => withBool x6 fun t7 => bc t7 (aIdxStr x2 x4 h fun x17 h => aCmpI ieq x17 (AV.int 4 (Int.ofNat 40)) h fun x18 h => withBool x18 fun t19 => bc t19 (aArith iadd x3 (AV.int 3 (Int.ofNat 1)) h fun x20 h => (c_spec_l1End_j1 F g kc1) [x2, x20, x4] h) (aCmpI ieq x17 (AV.int 4 (Int.ofNat 41)) h fun x21 h => withBool x21 fun t22 => bc t22 (aArith isub x3 (AV.int 3 (Int.ofNat 1)) h fun x23 h => (c_spec_l1End_j1 F g kc1) [x2, x23, x4] h) (some ((AV.int 3 (Int.negSucc 0)), h)))) (some ((AV.int 3 (Int.negSucc 0)), h))) (hd vs) (hd (tl vs)) (hd (tl (tl vs)))
noncomputable def c_spec_l1End (F g : Nat) (a0 a1 : AV) (h : H) : Option R := loopD F (c_spec_l1End_l2 F g) [a0, (AV.int 3 (Int.ofNat 0)), a1] h
noncomputable def A_spec_l1End : An := (.two .o (.two .o (.two (.two .o (.two (.at_ [0, 5, 6] (.two (.two .o (.two .o .o)) (.two (.two (.at_ [0, 5, 6] (.two .o (.two (.two .o (.two .o (.two .o (.two .o (.two .o .o))))) .o)) (.two (.two .o (.two (.two .o .o) .o)) (.two .o (.two (.two .o .o) .o)))) .o) .o)) .o) .o)) (.two .o .o))))
noncomputable def b_spec_l1End : Code := bodyOf Go.Proofs.Tryd.f26
theorem k_spec_l1End (F g : Nat) (a0 a1 : AV) (h : H) : callD Go.Proofs.Tryd.prog (fun _ _ _ => none : Env) 31 F b_spec_l1End [4] A_spec_l1End [a0, a1] h = c_spec_l1End F g a0 a1 h := by kernel_rfl
theorem s_spec_l1End (F g : Nat) : ∀ args h r, u2 (c_spec_l1End F g) args h = some r → Tri Go.Proofs.Tryd.prog 26 args h r := by
  intro args h r e; obtain ⟨a0, a1, rfl, e1⟩ := u2_some e; exact fn_sound Go.Proofs.Tryd.func26 rfl rfl rfl Go.Proofs.Tryd.ntmps26 (Sound.none _) ((k_spec_l1End F g a0 a1 h).trans e1)

noncomputable def c_spec_l1Done (F g : Nat) (a0 : AV) (h : H) : Option R := bindR (c_spec_TreeIn F g a0 h) fun x1 h => aNot x1 h fun x2 h => withBool x2 fun t3 => bc t3 (some (AV.one .tup (AV.cons (AV.str [] 0) (AV.cons (AV.bool false) (AV.leaf .nil))), h)) (some (AV.one .tup (AV.cons a0 (AV.cons (AV.bool true) (AV.leaf .nil))), h))
noncomputable def A_spec_l1Done : An := (.two .o (.two (.two .o (.two (.two .o .o) .o)) (.two .o .o)))
noncomputable def b_spec_l1Done : Code := bodyOf Go.Proofs.Tryd.f28
theorem k_spec_l1Done (F g : Nat) (a0 : AV) (h : H) : callD Go.Proofs.Tryd.prog (Env.add (fun _ _ _ => none : Env) 16 (u1 (c_spec_TreeIn F g))) 8 F b_spec_l1Done [2, 3] A_spec_l1Done [a0] h = c_spec_l1Done F g a0 h := by kernel_rfl
theorem s_spec_l1Done (F g : Nat) : ∀ args h r, u1 (c_spec_l1Done F g) args h = some r → Tri Go.Proofs.Tryd.prog 28 args h r := by
  intro args h r e; obtain ⟨a0, rfl, e1⟩ := u1_some e; exact fn_sound Go.Proofs.Tryd.func28 rfl rfl rfl Go.Proofs.Tryd.ntmps28 (Sound.add (Sound.none _) (s_spec_TreeIn F g)) ((k_spec_l1Done F g a0 h).trans e1)

noncomputable def c_spec_CutGraft_j1 (F g : Nat) (vs : List AV) (h : H) : Option R := (fun x3 x4 x5 x6 x7 => aPick x6 (AV.bool true) x7 h fun x8 h => withBool x8 fun t9 => bc t9 (some (AV.one .tup (AV.cons (AV.str [] 0) (AV.cons (AV.bool false) (AV.leaf .nil))), h)) (bindR (c_spec_l1Opens F g x3 h) fun x10 h => aIdxAddr 1 x10 x4 h fun x11 h => aLoad x11 h fun x12 h => bindR (c_spec_l1End F g x3 x12 h) fun x13 h => aArith isub x13 (AV.int 3 (Int.ofNat 1)) h fun x14 h => aSliceS x3 none (some x14) none h fun x15 _ => aSAdd x15 x5 h fun x16 _ => aSliceS x3 (some x14) none none h fun x17 _ => aSAdd x16 x17 h fun x18 _ => bindR (c_spec_l1Done F g x18 h) fun x19 h => aExtract x19 0 h fun x20 _ => aExtract x19 1 h fun x21 _ => some (AV.one .tup (AV.cons x20 (AV.cons x21 (AV.leaf .nil))), h))) (hd vs) (hd (tl vs)) (hd (tl (tl vs))) (hd (tl (tl (tl vs)))) (hd (tl (tl (tl (tl vs)))))
noncomputable def c_spec_CutGraft (F g : Nat) (a0 a1 a2 : AV) (h : H) : Option R := bindR (c_spec_l1Node F g a0 a1 h) fun x1 h => aNot x1 h fun x2 h => guardB false x2 (bindR (c_spec_TreeIn F g a2 h) fun x22 h => aNot x22 h fun x23 h => (c_spec_CutGraft_j1 F g) [a0, a1, a2, x2, x23] h) ((c_spec_CutGraft_j1 F g) [a0, a1, a2, x2, (AV.one .tup (AV.leaf .nil))] h)
noncomputable def A_spec_CutGraft : An := (.two .o (.two (.two (.at_ [0, 1, 2, 13, 16] .o .o) (.two (.two .o .o) .o)) (.two .o (.two .o .o))))
noncomputable def b_spec_CutGraft : Code := bodyOf Go.Proofs.Tryd.f11
theorem k_spec_CutGraft (F g : Nat) (a0 a1 a2 : AV) (h : H) : callD Go.Proofs.Tryd.prog (Env.add (Env.add (Env.add (Env.add (Env.add (fun _ _ _ => none : Env) 25 (u2 (c_spec_l1Node F g))) 27 (u1 (c_spec_l1Opens F g))) 26 (u2 (c_spec_l1End F g))) 28 (u1 (c_spec_l1Done F g))) 16 (u1 (c_spec_TreeIn F g))) 38 F b_spec_CutGraft [6, 7] A_spec_CutGraft [a0, a1, a2] h = c_spec_CutGraft F g a0 a1 a2 h := by kernel_rfl
theorem s_spec_CutGraft (F g : Nat) : ∀ args h r, u3 (c_spec_CutGraft F g) args h = some r → Tri Go.Proofs.Tryd.prog 11 args h r := by
  intro args h r e; obtain ⟨a0, a1, a2, rfl, e1⟩ := u3_some e; exact fn_sound Go.Proofs.Tryd.func11 rfl rfl rfl Go.Proofs.Tryd.ntmps11 (Sound.add (Sound.add (Sound.add (Sound.add (Sound.add (Sound.none _) (s_spec_l1Node F g)) (s_spec_l1Opens F g)) (s_spec_l1End F g)) (s_spec_l1Done F g)) (s_spec_TreeIn F g)) ((k_spec_CutGraft F g a0 a1 a2 h).trans e1)

noncomputable def c_impl_node_nodes_l1 (F g : Nat) (self : AV → H → Option R) : List AV → H → (List AV → H → Option R) → Option R := fun vs h kc6 => (fun x7 x8 x9 x10 => aCmpI ilt x10 x9 h fun x11 h => withBool x11 fun t12 => bc t12 (aIdxAddr 1 x8 x10 h fun x13 h => aLoad x13 h fun x14 h => bindR (self x14 h) fun x15 h => aAppend 1 8 x7 x15 h fun x16 h => aArith iadd x10 (AV.int 3 (Int.ofNat 1)) h fun x17 h => kc6 [x16, x8, x9, x17] h) (some (x7, h))) (hd vs) (hd (tl vs)) (hd (tl (tl vs))) (hd (tl (tl (tl vs))))
noncomputable def c_impl_node_nodes (F g : Nat) : AV → H → Option R := Nat.rec (motive := fun _ => AV → H → Option R) (fun _ _ => none) (fun g self a0 h => aBuildSlice 1 1 [(0, 1, a0)] h fun x1 h => aNilCheck a0 h fun x2 h => aField 2 x2 h fun x3 h => aLoad x3 h fun x4 h => aLenK 1 x4 h fun x5 h => loopD F (c_impl_node_nodes_l1 F g self) [x1, x4, x5, (AV.int 3 (Int.ofNat 0))] h) g
noncomputable def A_impl_node_nodes : An := (.two .o (.two .o (.two (.two .o (.two (.at_ [3, 11, 12, 13] (.two .o (.two (.two .o .o) (.two (.two (.two .o .o) .o) .o))) .o) .o)) (.two .o .o))))
noncomputable def b_impl_node_nodes : Code := bodyOf Go.Proofs.Tryd.f20
theorem k_impl_node_nodes (F g : Nat) (a0 : AV) (h : H) : callD Go.Proofs.Tryd.prog (Env.add (fun _ _ _ => none : Env) 20 (u1 (c_impl_node_nodes F g))) 23 F b_impl_node_nodes [2] A_impl_node_nodes [a0] h = c_impl_node_nodes F (g + 1) a0 h := by kernel_rfl
theorem s_impl_node_nodes (F g : Nat) : ∀ args h r, u1 (c_impl_node_nodes F g) args h = some r → Tri Go.Proofs.Tryd.prog 20 args h r := by
  induction g with
  | zero => intro args h r e; obtain ⟨a0, rfl, e⟩ := u1_some e; cases e
  | succ g ih => intro args h r e; obtain ⟨a0, rfl, e1⟩ := u1_some e; exact fn_sound Go.Proofs.Tryd.func20 rfl rfl rfl Go.Proofs.Tryd.ntmps20 (Sound.add (Sound.none _) ih) ((k_impl_node_nodes F g a0 h).trans e1)

noncomputable def c_impl_nodeIn_j1 (F g : Nat) (vs : List AV) (h : H) : Option R := (fun x10 x11 x12 x13 => aPick x12 (AV.bool true) x13 h fun x14 h => withBool x14 fun t15 => bc t15 (aBuild [(AV.int 3 (Int.ofNat 0))] [(0, 1, x10)] h fun x16 h => aMkIface 64 x16 h fun x17 h => some (AV.one .tup (AV.cons (AV.leaf .nilp) (AV.cons x17 (AV.leaf .nil))), h)) (aIdxAddr 1 x11 x10 h fun x18 h => aLoad x18 h fun x19 h => some (AV.one .tup (AV.cons x19 (AV.cons (AV.leaf .nili) (AV.leaf .nil))), h))) (hd vs) (hd (tl vs)) (hd (tl (tl vs))) (hd (tl (tl (tl vs))))
noncomputable def c_impl_nodeIn (F g : Nat) (a0 a1 : AV) (h : H) : Option R := bindR (c_impl_readTree F g a0 h) fun x1 h => aExtract x1 0 h fun x2 h => aExtract x1 1 h fun x3 h => aNot x3 h fun x4 h => withBool x4 fun t5 => bc t5 (aBuild [(AV.int 3 (Int.ofNat 0))] [(0, 1, a1)] h fun x6 h => aMkIface 64 x6 h fun x7 h => some (AV.one .tup (AV.cons (AV.leaf .nilp) (AV.cons x7 (AV.leaf .nil))), h)) (bindR (c_impl_node_nodes F g x2 h) fun x8 h => aCmpI ilt a1 (AV.int 3 (Int.ofNat 0)) h fun x9 h => guardB false x9 (aLenK 1 x8 h fun x20 h => aCmpI (fun a b => ile b a) a1 x20 h fun x21 h => (c_impl_nodeIn_j1 F g) [a1, x8, x9, x21] h) ((c_impl_nodeIn_j1 F g) [a1, x8, x9, (AV.one .tup (AV.leaf .nil))] h))
noncomputable def A_impl_nodeIn : An := (.two .o (.two .o (.two (.two .o (.two (.two .o .o) .o)) (.two .o (.two (.two (.at_ [1, 8, 23, 27] .o .o) (.two (.two .o .o) .o)) (.two .o .o))))))
noncomputable def b_impl_nodeIn : Code := bodyOf Go.Proofs.Tryd.f21
theorem k_impl_nodeIn (F g : Nat) (a0 a1 : AV) (h : H) : callD Go.Proofs.Tryd.prog (Env.add (Env.add (fun _ _ _ => none : Env) 19 (u1 (c_impl_readTree F g))) 20 (u1 (c_impl_node_nodes F g))) 36 F b_impl_nodeIn [4, 5] A_impl_nodeIn [a0, a1] h = c_impl_nodeIn F g a0 a1 h := by kernel_rfl
theorem s_impl_nodeIn (F g : Nat) : ∀ args h r, u2 (c_impl_nodeIn F g) args h = some r → Tri Go.Proofs.Tryd.prog 21 args h r := by
  intro args h r e; obtain ⟨a0, a1, rfl, e1⟩ := u2_some e; exact fn_sound Go.Proofs.Tryd.func21 rfl rfl rfl Go.Proofs.Tryd.ntmps21 (Sound.add (Sound.add (Sound.none _) (s_impl_readTree F g)) (s_impl_node_nodes F g)) ((k_impl_nodeIn F g a0 a1 h).trans e1)

noncomputable def c_impl_node_root_l1 (F g : Nat) : List AV → H → (List AV → H → Option R) → Option R := fun vs h kc1 => (fun x2 => aNilCheck x2 h fun x3 h => aField 1 x3 h fun x4 h => aLoad x4 h fun x5 h => aEq true 1 x5 (AV.leaf .nilp) h fun x6 h => withBool x6 fun t7 => bc t7 (aNilCheck x2 h fun x8 h => aField 1 x8 h fun x9 h => aLoad x9 h fun x10 h => kc1 [x10] h) (some (x2, h))) (hd vs)
noncomputable def c_impl_node_root (F g : Nat) (a0 : AV) (h : H) : Option R := loopD F (c_impl_node_root_l1 F g) [a0] h
noncomputable def A_impl_node_root : An := (.two .o (.two .o (.two (.two (.at_ [3] (.two (.two .o (.two .o .o)) (.two .o .o)) .o) .o) (.two .o .o))))
noncomputable def b_impl_node_root : Code := bodyOf Go.Proofs.Tryd.f29
theorem k_impl_node_root (F g : Nat) (a0 : AV) (h : H) : callD Go.Proofs.Tryd.prog (fun _ _ _ => none : Env) 15 F b_impl_node_root [2] A_impl_node_root [a0] h = c_impl_node_root F g a0 h := by kernel_rfl
theorem s_impl_node_root (F g : Nat) : ∀ args h r, u1 (c_impl_node_root F g) args h = some r → Tri Go.Proofs.Tryd.prog 29 args h r := by
  intro args h r e; obtain ⟨a0, rfl, e1⟩ := u1_some e; exact fn_sound Go.Proofs.Tryd.func29 rfl rfl rfl Go.Proofs.Tryd.ntmps29 (Sound.none _) ((k_impl_node_root F g a0 h).trans e1)

noncomputable def c_impl_node_size (F g : Nat) (a0 : AV) (h : H) : Option R := bindR (c_impl_node_nodes F g a0 h) fun x1 h => aLenK 1 x1 h fun x2 h => some (x2, h)
noncomputable def A_impl_node_size : An := (.two .o (.two .o .o))
noncomputable def b_impl_node_size : Code := bodyOf Go.Proofs.Tryd.f30
theorem k_impl_node_size (F g : Nat) (a0 : AV) (h : H) : callD Go.Proofs.Tryd.prog (Env.add (fun _ _ _ => none : Env) 20 (u1 (c_impl_node_nodes F g))) 6 F b_impl_node_size [2] A_impl_node_size [a0] h = c_impl_node_size F g a0 h := by kernel_rfl
theorem s_impl_node_size (F g : Nat) : ∀ args h r, u1 (c_impl_node_size F g) args h = some r → Tri Go.Proofs.Tryd.prog 30 args h r := by
  intro args h r e; obtain ⟨a0, rfl, e1⟩ := u1_some e; exact fn_sound Go.Proofs.Tryd.func30 rfl rfl rfl Go.Proofs.Tryd.ntmps30 (Sound.add (Sound.none _) (s_impl_node_nodes F g)) ((k_impl_node_size F g a0 h).trans e1)

noncomputable def c_impl_node_text_l1 (F g : Nat) (self : AV → H → Option R) : List AV → H → (List AV → H → Option R) → Option R := fun vs h kc5 => (fun x6 x7 x8 x9 => aCmpI ilt x9 x8 h fun x10 h => withBool x10 fun t11 => bc t11 (aIdxAddr 1 x7 x9 h fun x12 h => aLoad x12 h fun x13 h => bindR (self x13 h) fun x14 h => aSAdd x6 x14 h fun x15 h => aArith iadd x9 (AV.int 3 (Int.ofNat 1)) h fun x16 h => kc5 [x15, x7, x8, x16] h) (aSAdd x6 (AV.str [41] 1) h fun x17 h => some (x17, h))) (hd vs) (hd (tl vs)) (hd (tl (tl vs))) (hd (tl (tl (tl vs))))
noncomputable def c_impl_node_text (F g : Nat) : AV → H → Option R := Nat.rec (motive := fun _ => AV → H → Option R) (fun _ _ => none) (fun g self a0 h => aNilCheck a0 h fun x1 h => aField 2 x1 h fun x2 h => aLoad x2 h fun x3 h => aLenK 1 x3 h fun x4 h => loopD F (c_impl_node_text_l1 F g self) [(AV.str [40] 1), x3, x4, (AV.int 3 (Int.ofNat 0))] h) g
noncomputable def A_impl_node_text : An := (.two .o (.two .o (.two (.two .o (.two (.at_ [3, 9, 10, 11] (.two .o (.two (.two .o .o) (.two (.two (.two .o .o) .o) .o))) .o) .o)) (.two .o .o))))
noncomputable def b_impl_node_text : Code := bodyOf Go.Proofs.Tryd.f31
theorem k_impl_node_text (F g : Nat) (a0 : AV) (h : H) : callD Go.Proofs.Tryd.prog (Env.add (fun _ _ _ => none : Env) 31 (u1 (c_impl_node_text F g))) 22 F b_impl_node_text [2] A_impl_node_text [a0] h = c_impl_node_text F (g + 1) a0 h := by kernel_rfl
theorem s_impl_node_text (F g : Nat) : ∀ args h r, u1 (c_impl_node_text F g) args h = some r → Tri Go.Proofs.Tryd.prog 31 args h r := by
  induction g with
  | zero => intro args h r e; obtain ⟨a0, rfl, e⟩ := u1_some e; cases e
  | succ g ih => intro args h r e; obtain ⟨a0, rfl, e1⟩ := u1_some e; exact fn_sound Go.Proofs.Tryd.func31 rfl rfl rfl Go.Proofs.Tryd.ntmps31 (Sound.add (Sound.none _) ih) ((k_impl_node_text F g a0 h).trans e1)

noncomputable def c_impl_CutGraft_j1 (F g : Nat) (vs : List AV) (h : H) : Option R := (fun x8 x9 x10 x11 => aPick x10 (AV.bool true) x11 h fun x12 h => withBool x12 fun t13 => bc t13 (some (AV.one .tup (AV.cons (AV.str [] 0) (AV.cons (AV.bool false) (AV.leaf .nil))), h)) (aNilCheck x8 h fun x14 h => aField 2 x14 h fun x15 h => aLoad x15 h fun x16 h => aBuildSlice 1 1 [(0, 1, x9)] h fun x17 h => aAppend 1 8 x16 x17 h fun x18 h => aNilCheck x8 h fun x19 h => aField 2 x19 h fun x20 h => aStore x20 x18 h fun x21 h => bindR (c_impl_node_root F g x8 h) fun x22 h => bindR (c_impl_node_size F g x22 h) fun x23 h => aCmpI (fun a b => ilt b a) x23 (AV.int 3 (Int.ofNat 9)) h fun x24 h => withBool x24 fun t25 => bc t25 (some (AV.one .tup (AV.cons (AV.str [] 0) (AV.cons (AV.bool false) (AV.leaf .nil))), h)) (bindR (c_impl_node_text F g x22 h) fun x26 h => some (AV.one .tup (AV.cons x26 (AV.cons (AV.bool true) (AV.leaf .nil))), h)))) (hd vs) (hd (tl vs)) (hd (tl (tl vs))) (hd (tl (tl (tl vs))))
noncomputable def c_impl_CutGraft (F g : Nat) (a0 a1 a2 : AV) (h : H) : Option R := bindR (c_impl_nodeIn F g a0 a1 h) fun x1 h => aExtract x1 0 h fun x2 h => aExtract x1 1 h fun x3 h => bindR (c_impl_readTree F g a2 h) fun x4 h => aExtract x4 0 h fun x5 h => aExtract x4 1 h fun x6 h => bindR (c_impl_isNoNode F g x3 h) fun x7 h => guardB false x7 (aNot x6 h fun x27 h => (c_impl_CutGraft_j1 F g) [x2, x5, x7, x27] h) ((c_impl_CutGraft_j1 F g) [x2, x5, x7, (AV.one .tup (AV.leaf .nil))] h)
noncomputable def A_impl_CutGraft : An := (.two .o (.two .o (.two .o (.two (.two (.at_ [8, 10, 26, 28] .o .o) (.two (.two .o .o) .o)) (.two .o (.two .o (.two (.two .o (.two (.two .o .o) .o)) (.two .o .o))))))))
noncomputable def b_impl_CutGraft : Code := bodyOf Go.Proofs.Tryd.f12
theorem k_impl_CutGraft (F g : Nat) (a0 a1 a2 : AV) (h : H) : callD Go.Proofs.Tryd.prog (Env.add (Env.add (Env.add (Env.add (Env.add (Env.add (fun _ _ _ => none : Env) 21 (u2 (c_impl_nodeIn F g))) 19 (u1 (c_impl_readTree F g))) 22 (u1 (c_impl_isNoNode F g))) 29 (u1 (c_impl_node_root F g))) 30 (u1 (c_impl_node_size F g))) 31 (u1 (c_impl_node_text F g))) 47 F b_impl_CutGraft [6, 7] A_impl_CutGraft [a0, a1, a2] h = c_impl_CutGraft F g a0 a1 a2 h := by kernel_rfl
theorem s_impl_CutGraft (F g : Nat) : ∀ args h r, u3 (c_impl_CutGraft F g) args h = some r → Tri Go.Proofs.Tryd.prog 12 args h r := by
  intro args h r e; obtain ⟨a0, a1, a2, rfl, e1⟩ := u3_some e; exact fn_sound Go.Proofs.Tryd.func12 rfl rfl rfl Go.Proofs.Tryd.ntmps12 (Sound.add (Sound.add (Sound.add (Sound.add (Sound.add (Sound.add (Sound.none _) (s_impl_nodeIn F g)) (s_impl_readTree F g)) (s_impl_isNoNode F g)) (s_impl_node_root F g)) (s_impl_node_size F g)) (s_impl_node_text F g)) ((k_impl_CutGraft F g a0 a1 a2 h).trans e1)

noncomputable def c_laws_FnExactCutGraft_j1 (F g : Nat) (vs : List AV) (h : H) : Option R := (fun x14 x15 => aPick x14 (AV.bool true) x15 h fun x16 h => withBool x16 fun t17 => bc t17 (some ((AV.bool false), h)) (some ((AV.bool true), h))) (hd vs) (hd (tl vs))
noncomputable def c_laws_FnExactCutGraft (F g : Nat) (a0 a1 a2 : AV) (h : H) : Option R := aLenK 0 a0 h fun x1 h => aCmpI (fun a b => ilt b a) x1 (AV.int 3 (Int.ofNat 1048576)) h fun x2 h => withBool x2 fun t3 => bc t3 (some ((AV.bool true), h)) (aLenK 0 a2 h fun x4 h => aCmpI (fun a b => ilt b a) x4 (AV.int 3 (Int.ofNat 1048576)) h fun x5 h => withBool x5 fun t6 => bc t6 (some ((AV.bool true), h)) (bindR (c_spec_CutGraft F g a0 a1 a2 h) fun x7 h => aExtract x7 0 h fun x8 h => aExtract x7 1 h fun x9 h => bindR (c_impl_CutGraft F g a0 a1 a2 h) fun x10 h => aExtract x10 0 h fun x11 h => aExtract x10 1 h fun x12 h => aCmpS (fun a b => bnot (eqL a b)) x11 x8 h fun x13 h => guardB false x13 (aEq true 0 x12 x9 h fun x18 h => (c_laws_FnExactCutGraft_j1 F g) [x13, x18] h) ((c_laws_FnExactCutGraft_j1 F g) [x13, (AV.one .tup (AV.leaf .nil))] h)))
noncomputable def A_laws_FnExactCutGraft : An := (.two .o (.two (.two .o (.two (.two .o .o) .o)) (.two (.two .o (.two (.two .o .o) .o)) (.two .o (.two .o (.two (.two (.at_ [34, 37] .o .o) (.two (.two .o .o) .o)) (.two .o .o)))))))
noncomputable def b_laws_FnExactCutGraft : Code := bodyOf Go.Proofs.Tryd.f4
theorem k_laws_FnExactCutGraft (F g : Nat) (a0 a1 a2 : AV) (h : H) : callD Go.Proofs.Tryd.prog (Env.add (Env.add (fun _ _ _ => none : Env) 11 (u3 (c_spec_CutGraft F g))) 12 (u3 (c_impl_CutGraft F g))) 39 F b_laws_FnExactCutGraft [6] A_laws_FnExactCutGraft [a0, a1, a2] h = c_laws_FnExactCutGraft F g a0 a1 a2 h := by kernel_rfl
theorem s_laws_FnExactCutGraft (F g : Nat) : ∀ args h r, u3 (c_laws_FnExactCutGraft F g) args h = some r → Tri Go.Proofs.Tryd.prog 4 args h r := by
  intro args h r e; obtain ⟨a0, a1, a2, rfl, e1⟩ := u3_some e; exact fn_sound Go.Proofs.Tryd.func4 rfl rfl rfl Go.Proofs.Tryd.ntmps4 (Sound.add (Sound.add (Sound.none _) (s_spec_CutGraft F g)) (s_impl_CutGraft F g)) ((k_laws_FnExactCutGraft F g a0 a1 a2 h).trans e1)

end
end Go.AI.T
namespace Go.AI.T
open Go Go.RowKit Go.AI
noncomputable section
/-- The shape of a row of trees in memory: each node's block, its kids' block, its kids, the trees behind it. -/
inductive Fo
  | nil
  | cons (b kb : Nat) (kids rest : Fo)
namespace Fo
def cnt : Fo → Nat
  | .nil => 0
  | .cons _ _ _ r => cnt r + 1
def size : Fo → Nat
  | .nil => 0
  | .cons _ _ k r => size k + 1 + size r
def deep : Fo → Nat
  | .nil => 0
  | .cons _ _ k r => max (deep k + 1) (deep r)
def ptrs : Fo → List AV
  | .nil => []
  | .cons b _ _ r => .ptr b 0 :: ptrs r
/-- The nodes, each ahead of those below it. -/
def pre : Fo → List AV
  | .nil => []
  | .cons b _ k r => .ptr b 0 :: (pre k ++ pre r)
/-- So it lies below lo. -/
def At (lo : Nat) (h : H) : Fo → Prop
  | .nil => True
  | .cons b kb k r => (∃ z up, b < lo ∧ ((k.cnt = 0 ∧ h.get b = node3 z up (.leaf .nils)) ∨ (kb < lo ∧ h.get b = node3 z up (.osl kb 0 k.cnt 1) ∧ h.get kb = .cells 0 k.ptrs))) ∧ At lo h k ∧ At lo h r
theorem At.frame {lo lo' : Nat} {h h' : H} (hl : lo ≤ lo') (hs : ∀ c, c < lo → h'.get c = h.get c) : ∀ {f : Fo}, f.At lo h → f.At lo' h'
  | .nil, _ => trivial
  | .cons b kb k r, ⟨⟨z, up, hb, e⟩, a1, a2⟩ => by
    refine ⟨⟨z, up, by omega, ?_⟩, At.frame hl hs a1, At.frame hl hs a2⟩
    rcases e with ⟨e1, e2⟩ | ⟨e1, e2, e3⟩
    · exact .inl ⟨e1, by rw [hs b hb]; exact e2⟩
    · exact .inr ⟨by omega, by rw [hs b hb]; exact e2, by rw [hs kb e1]; exact e3⟩
theorem cnt_le : ∀ f : Fo, f.cnt ≤ f.size
  | .nil => Nat.le_refl _
  | .cons _ _ k r => by have := cnt_le r; show cnt r + 1 ≤ size k + 1 + size r; omega
theorem ptrs_len : ∀ f : Fo, f.ptrs.length = f.cnt
  | .nil => rfl
  | .cons _ _ _ r => by show (ptrs r).length + 1 = cnt r + 1; rw [ptrs_len r]
end Fo
/-- A row of m elements that may be lengthened. -/
def Row (h : H) (lo : Nat) (x : AV) (L : List AV) (m : Nat) : Prop := ∃ rb, lo ≤ rb ∧ rb < h.n ∧ h.get rb = .cells 0 L ∧ (L.length = m ∧ allOne L = true) ∧ (x = .osl rb 0 m 1 ∨ (x = .leaf (.sl rb 0 1 1) ∧ m = 1))
theorem allOne_app : ∀ {l q : List AV}, allOne l = true → allOne q = true → allOne (l ++ q) = true
  | [], q, _, h => h
  | a :: l, q, h1, h2 => by
    have h1 : bc a.one1 (allOne l) false = true := h1
    show bc a.one1 (allOne (l ++ q)) false = true
    cases e : a.one1 with
    | false => rw [e] at h1; cases h1
    | true => rw [e, bc_true] at h1; rw [bc_true]; exact allOne_app h1 h2
theorem cells_at {α : Type} {h : H} {b fl : Nat} {l : List AV} (f : Nat → List AV → Option α) (e : h.get b = .cells fl l) : withCells h b f = f fl l := by unfold withCells; rw [e]
theorem bc_of {α : Type} {c : Bool} (e : c = true) (x y : α) : bc c x y = x := by rw [e]; rfl
theorem take_all {l : List AV} {k : Nat} (e : l.length = k) : takeL (Nat.mul k 1) (dropL 0 l) = l := by
  rw [takeL_eq, dropL_eq, show Nat.mul k 1 = k from Nat.mul_one k, List.drop_zero]; exact List.take_of_length_le (by omega)
theorem len_all {l : List AV} {k : Nat} (e : l.length = k) : Nat.beq (lenL (takeL (Nat.mul k 1) (dropL 0 l))) (Nat.mul k 1) = true := by
  rw [take_all e, lenL_eq, e, show Nat.mul k 1 = k from Nat.mul_one k]; exact Nat.beq_refl k
theorem app_row {h : H} {lo m k : Nat} {x y : AV} {l q : List AV} (hx : Row h lo x l m) (hy : Row h lo y q k) (hk : 1 ≤ k) (hm : 1 ≤ m) (hb : m + k ≤ 1000) : ∃ h' x', (∀ kk : AV → H → Option R, aAppend 1 8 x y h kk = kk x' h') ∧ Row h' lo x' (l ++ q) (m + k) ∧ h.n ≤ h'.n ∧ ∀ c, c < lo → h'.get c = h.get c := by
  obtain ⟨rb, x1, x2, x3, ⟨x4, xo⟩, x5⟩ := hx
  obtain ⟨qb, y1, y2, y3, ⟨y4, yo⟩, y5⟩ := hy
  obtain ⟨k', rfl⟩ : ∃ k', k = k' + 1 := ⟨k - 1, by omega⟩
  have e1 : ∀ kk : AV → H → Option R, aAppend 1 8 x y h kk = aApp1 1 8 (k' + 1) q x h kk := fun kk => by
    rcases y5 with rfl | ⟨rfl, e⟩
    · show withCells h qb (fun _ l => bc (Nat.beq (lenL (takeL (Nat.mul (k' + 1) 1) (dropL 0 l))) (Nat.mul (k' + 1) 1)) (bc (Nat.ble 1 (k' + 1)) _ none) none) = _
      rw [cells_at _ y3, bc_of (len_all y4), take_all y4, bc_of (Nat.ble_eq_true_of_le (by omega))]
    · obtain rfl : k' = 0 := by omega
      show withCells h qb (fun _ l => bc (Nat.beq (lenL (takeL (Nat.mul 1 1) (dropL 0 l))) (Nat.mul 1 1)) _ none) = _
      rw [cells_at _ y3, bc_of (len_all y4), take_all y4]
      rfl
  have b1 : Nat.ble (Nat.mul (Nat.add m (k' + 1)) 8) 140737488355328 = true := Nat.ble_eq_true_of_le (show (m + (k' + 1)) * 8 ≤ 140737488355328 by omega)
  have b2 : Nat.ble (Nat.add m (k' + 1)) strMax = true := Nat.ble_eq_true_of_le (show m + (k' + 1) ≤ strMax by rw [strMax_eq]; omega)
  rcases x5 with rfl | ⟨rfl, rfl⟩
  · refine ⟨(h.set rb .dead).push (.cells 0 (appA l q)), .osl h.n 0 (m + (k' + 1)) 1, fun kk => ?_, ⟨h.n, by omega, ?_, ?_, ?_, .inl rfl⟩, ?_, ?_⟩
    · rw [e1]
      show withCells h rb _ = _
      rw [cells_at _ x3, bc_of (len_all x4), bc_of b1, bc_of b2, take_all x4]
      show bc (allOne q) _ none = _
      rw [yo, bc_true]
      rfl
    · show h.n < h.n + 1; omega
    · rw [← appA_eq]; exact get_push_eq rfl
    · rw [List.length_append]; exact ⟨by omega, allOne_app xo yo⟩
    · show h.n ≤ h.n + 1; omega
    · intro c hc
      rw [get_push_lt (by show c < h.n; omega), get_set_ne (by omega)]
  · refine ⟨h.push (.cells 0 (appA l q)), .osl h.n 0 (1 + (k' + 1)) 1, fun kk => ?_, ⟨h.n, by omega, ?_, ?_, ?_, .inl rfl⟩, ?_, ?_⟩
    · rw [e1]
      show bc (Nat.ble (Nat.add 1 (k' + 1)) 1) _ (withCells h rb _) = _
      rw [show Nat.ble (Nat.add 1 (k' + 1)) 1 = false from ble_false (show 1 < Nat.add 1 (k' + 1) by show 1 < 1 + (k' + 1); omega), bc_false, cells_at _ x3, bc_of (len_all x4), bc_of b1, bc_of b2, take_all x4]
      rfl
    · show h.n < h.n + 1; omega
    · rw [← appA_eq]; exact get_push_eq rfl
    · rw [List.length_append]; exact ⟨by omega, allOne_app xo yo⟩
    · show h.n ≤ h.n + 1; omega
    · intro c hc
      rw [get_push_lt (by omega)]
theorem nodes_loop {F : Nat} (hF : 1000 ≤ F) : ∀ (f : Fo) (g N i j kb lo m : Nat) (K x : AV) (kl L : List AV) (h : H), f.At lo h → f.deep ≤ g → (f.cnt = 0 ∨ (K = .osl kb 0 j 1 ∧ h.get kb = .cells 0 kl ∧ kb < lo)) → kl.drop i = f.ptrs → i + f.cnt = j → f.cnt < N → lo ≤ h.n → Row h lo x L m → 1 ≤ m → m + f.size ≤ 500 → j ≤ 500 →
    ∃ x' h', loopD N (c_impl_node_nodes_l1 F g (c_impl_node_nodes F g)) [x, K, .int 3 (.ofNat j), .int 3 (.ofNat i)] h = some (x', h') ∧ Row h' lo x' (L ++ f.pre) (m + f.size) ∧ h.n ≤ h'.n ∧ ∀ c, c < lo → h'.get c = h.get c := by
  intro f
  induction f with
  | nil =>
    intro g N i j kb lo m K x kl L h _ _ _ _ hij hN hlo hx _ _ _
    obtain ⟨N, rfl⟩ : ∃ N', N = N' + 1 := ⟨N - 1, by simp only [Fo.cnt] at hN; omega⟩
    obtain rfl : i = j := hij
    refine ⟨x, h, ?_, by simpa [Fo.pre, Fo.size] using hx, Nat.le_refl _, fun _ _ => rfl⟩
    rw [loopD_succ]
    simp only [c_impl_node_nodes_l1, hd_cons, tl_cons, aCmpI_int, kEq_self, bc_true, ilt_nat, ble_false (show i < Nat.succ i by omega), withBool_bool, bc_false]
  | cons b kb' kids rest ihk ihr =>
    intro g N i j kb lo m K x kl L h hA hg hK hd hij hN hlo hx hm hs hj
    obtain ⟨N, rfl⟩ : ∃ N', N = N' + 1 := ⟨N - 1, by simp only [Fo.cnt] at hN; omega⟩
    obtain ⟨g, rfl⟩ : ∃ g', g = g' + 1 := ⟨g - 1, by simp only [Fo.deep] at hg; omega⟩
    simp only [Fo.deep] at hg
    simp only [Fo.cnt] at hij hN hK
    simp only [Fo.size] at hs
    obtain ⟨rfl, hkb, hkl⟩ := hK.resolve_left (by omega)
    obtain ⟨⟨z, up, hb, hnode⟩, hAk, hAr⟩ := hA
    have hdr : kl.drop (i + 1) = rest.ptrs := by
      have := congrArg (List.drop 1) hd
      rw [List.drop_drop] at this
      simpa [Fo.ptrs, Nat.add_comm] using this
    have hnth : nthO kl i = some (.ptr b 0) := by
      rw [nthO_eq]
      have := congrArg (fun l => l[0]?) hd
      simpa [Fo.ptrs] using this
    -- the kid's own nodes
    obtain ⟨xk, h2, ek, rk, nk, fk⟩ : ∃ x' h2, c_impl_node_nodes F (g + 1) (.ptr b 0) h = some (x', h2) ∧ Row h2 h.n x' (.ptr b 0 :: kids.pre) (1 + kids.size) ∧ h.n ≤ h2.n ∧ ∀ c, c < h.n → h2.get c = h.get c := by
      generalize hh1 : h.push (.cells 0 [.ptr b 0]) = h1
      have n1 : h1.n = h.n + 1 := by rw [← hh1]; rfl
      have o1 : ∀ c, c < h.n → h1.get c = h.get c := fun c hc => by rw [← hh1, get_push_lt hc]
      have r1 : Row h1 h.n (.leaf (.sl h.n 0 1 1)) [.ptr b 0] 1 := ⟨h.n, Nat.le_refl _, by omega, by rw [← hh1]; exact get_push_eq rfl, ⟨rfl, rfl⟩, .inr ⟨rfl, rfl⟩⟩
      have hA1 : kids.At h.n h1 := Fo.At.frame hlo (fun c hc => o1 c (by omega)) hAk
      have hck := kids.cnt_le
      have e0 : c_impl_node_nodes F (g + 1) (.ptr b 0) h = aLoad (.ptr b 2) h1 fun x4 hh => aLenK 1 x4 hh fun x5 hh => loopD F (c_impl_node_nodes_l1 F g (c_impl_node_nodes F g)) [.leaf (.sl h.n 0 1 1), x4, x5, .int 3 (.ofNat 0)] hh := by subst hh1; rfl
      rcases hnode with ⟨hc0, hn⟩ | ⟨hkb1, hn, hkl1⟩
      · obtain ⟨x', h2, e, r, n, fr⟩ := ihk g F 0 0 0 h.n 1 (.leaf .nils) _ kids.ptrs _ h1 hA1 (by omega) (.inl hc0) rfl (by omega) (by omega) (by omega) r1 (Nat.le_refl _) (by omega) (by omega)
        refine ⟨x', h2, ?_, r, by omega, fun c hc => (fr c hc).trans (o1 c hc)⟩
        rw [e0, load_at (l := [.int 3 z, up, .leaf .nils]) (fl := 0) (by rw [o1 b (by omega)]; exact hn) rfl]
        exact e
      · obtain ⟨x', h2, e, r, n, fr⟩ := ihk g F 0 kids.cnt kb' h.n 1 (.osl kb' 0 kids.cnt 1) _ kids.ptrs _ h1 hA1 (by omega) (.inr ⟨rfl, by rw [o1 kb' (by omega)]; exact hkl1, by omega⟩) rfl (by omega) (by omega) (by omega) r1 (Nat.le_refl _) (by omega) (by omega)
        refine ⟨x', h2, ?_, r, by omega, fun c hc => (fr c hc).trans (o1 c hc)⟩
        rw [e0, load_at (l := [.int 3 z, up, .osl kb' 0 kids.cnt 1]) (fl := 0) (by rw [o1 b (by omega)]; exact hn) rfl]
        exact e
    have hx2 : Row h2 lo x L m := by
      obtain ⟨rb, x1, x2, x3, x4, x5⟩ := hx
      exact ⟨rb, x1, by omega, by rw [fk rb x2]; exact x3, x4, x5⟩
    have hy2 : Row h2 lo xk (.ptr b 0 :: kids.pre) (1 + kids.size) := by
      obtain ⟨rb, x1, x2, x3, x4, x5⟩ := rk
      exact ⟨rb, by omega, x2, x3, x4, x5⟩
    obtain ⟨h3, x3, ea, r3, n3, f3⟩ := app_row hx2 hy2 (by omega) hm (by omega)
    have fr3 : ∀ c, c < lo → h3.get c = h.get c := fun c hc => (f3 c hc).trans (fk c (by omega))
    obtain ⟨x', h', e, r, n, fr⟩ := ihr (g + 1) N (i + 1) j kb lo (m + (1 + kids.size)) (.osl kb 0 j 1) x3 kl _ h3 (Fo.At.frame (Nat.le_refl _) fr3 hAr) (by omega) (.inr ⟨rfl, by rw [fr3 kb hkl]; exact hkb, hkl⟩) hdr (by omega) (by omega) (by omega) r3 (by omega) (by omega) hj
    refine ⟨x', h', ?_, by rw [show m + (Fo.cons b kb' kids rest).size = m + (1 + kids.size) + rest.size by simp only [Fo.size]; omega, show L ++ (Fo.cons b kb' kids rest).pre = L ++ (.ptr b 0 :: kids.pre) ++ rest.pre by simp [Fo.pre]]; exact r, by omega, fun c hc => (fr c hc).trans (fr3 c hc)⟩
    rw [loopD_succ]
    have e1 : ∀ k : AV → H → Option R, aIdxAddr 1 (.osl kb 0 j 1) (.int 3 (.ofNat i)) h k = k (.ptr kb (Nat.add 0 (Nat.mul i 1))) h := fun k => by
      show bc (Nat.ble (Nat.succ i) j) _ none = _
      rw [ble_true (show Nat.succ i ≤ j by omega), bc_true]
    have e2 : ∀ k : AV → H → Option R, aLoad (.ptr kb (Nat.add 0 (Nat.mul i 1))) h k = k (.ptr b 0) h := fun k => load_at hkb (by rw [show Nat.add 0 (Nat.mul i 1) = i by show 0 + i * 1 = i; omega]; exact hnth)
    simp only [c_impl_node_nodes_l1, hd_cons, tl_cons, aCmpI_int, kEq_self, bc_true, ilt_nat, ble_true (show Nat.succ i ≤ j by omega), withBool_bool, e1, e2, ek, bindR_some', ea, aArith_int, fwrap_add i 1 (show i + 1 ≤ 9223372036854775807 by omega)]
    exact e
/-- The nodes of a tree, over any memory. -/
theorem nodes_of {F g : Nat} (hF : 1000 ≤ F) {b kb lo : Nat} {kids : Fo} {h : H} (hA : (Fo.cons b kb kids .nil).At lo h) (hlo : lo ≤ h.n) (hg : kids.deep ≤ g) (hs : kids.size ≤ 400) :
    ∃ x' h2, c_impl_node_nodes F (g + 1) (.ptr b 0) h = some (x', h2) ∧ Row h2 h.n x' (.ptr b 0 :: kids.pre) (1 + kids.size) ∧ h.n ≤ h2.n ∧ ∀ c, c < h.n → h2.get c = h.get c := by
  obtain ⟨⟨z, up, hb, hnode⟩, hAk, hAr⟩ := hA
  generalize hh1 : h.push (.cells 0 [.ptr b 0]) = h1
  have n1 : h1.n = h.n + 1 := by rw [← hh1]; rfl
  have o1 : ∀ c, c < h.n → h1.get c = h.get c := fun c hc => by rw [← hh1, get_push_lt hc]
  have r1 : Row h1 h.n (.leaf (.sl h.n 0 1 1)) [.ptr b 0] 1 := ⟨h.n, Nat.le_refl _, by omega, by rw [← hh1]; exact get_push_eq rfl, ⟨rfl, rfl⟩, .inr ⟨rfl, rfl⟩⟩
  have hA1 : kids.At h.n h1 := Fo.At.frame hlo (fun c hc => o1 c (by omega)) hAk
  have hck := kids.cnt_le
  have e0 : c_impl_node_nodes F (g + 1) (.ptr b 0) h = aLoad (.ptr b 2) h1 fun x4 hh => aLenK 1 x4 hh fun x5 hh => loopD F (c_impl_node_nodes_l1 F g (c_impl_node_nodes F g)) [.leaf (.sl h.n 0 1 1), x4, x5, .int 3 (.ofNat 0)] hh := by subst hh1; rfl
  rcases hnode with ⟨hc0, hn⟩ | ⟨hkb1, hn, hkl1⟩
  · obtain ⟨x', h2, e, r, n, fr⟩ := nodes_loop hF kids g F 0 0 0 h.n 1 (.leaf .nils) _ kids.ptrs _ h1 hA1 hg (.inl hc0) rfl (by omega) (by omega) (by omega) r1 (Nat.le_refl _) (by omega) (by omega)
    refine ⟨x', h2, ?_, r, by omega, fun c hc => (fr c hc).trans (o1 c hc)⟩
    rw [e0, load_at (l := [.int 3 z, up, .leaf .nils]) (fl := 0) (by rw [o1 b (by omega)]; exact hn) rfl]
    exact e
  · obtain ⟨x', h2, e, r, n, fr⟩ := nodes_loop hF kids g F 0 kids.cnt kb h.n 1 (.osl kb 0 kids.cnt 1) _ kids.ptrs _ h1 hA1 hg (.inr ⟨rfl, by rw [o1 kb (by omega)]; exact hkl1, by omega⟩) rfl (by omega) (by omega) (by omega) r1 (Nat.le_refl _) (by omega) (by omega)
    refine ⟨x', h2, ?_, r, by omega, fun c hc => (fr c hc).trans (o1 c hc)⟩
    rw [e0, load_at (l := [.int 3 z, up, .osl kb 0 kids.cnt 1]) (fl := 0) (by rw [o1 b (by omega)]; exact hn) rfl]
    exact e
/-- .. are counted. -/
theorem size_of {F g : Nat} (hF : 1000 ≤ F) {b kb lo : Nat} {kids : Fo} {h : H} (hA : (Fo.cons b kb kids .nil).At lo h) (hlo : lo ≤ h.n) (hg : kids.deep ≤ g) (hs : kids.size ≤ 400) :
    ∃ h2, c_impl_node_size F (g + 1) (.ptr b 0) h = some (.int 3 (.ofNat (1 + kids.size)), h2) := by
  obtain ⟨x', h2, e, ⟨rb, _, _, _, _, hx⟩, _, _⟩ := nodes_of (g := g) hF hA hlo hg hs
  refine ⟨h2, ?_⟩
  show bindR (c_impl_node_nodes F (g + 1) (.ptr b 0) h) _ = _
  rw [e, bindR_some']
  rcases hx with rfl | ⟨rfl, e1⟩
  · rfl
  · rw [e1]; rfl
end
end Go.AI.T
namespace Go.AI.T
open Go Go.RowKit Go.AI
noncomputable section
theorem addS_nil {F g : Nat} {h : H} {b : Nat} {m z : Int} {up : AV} (hb : h.get b = node3 z up (.leaf .nils)) (hbn : b < h.n) :
    ∃ h4, Go.AI.c_impl_node_add F g (.ptr b 0) (.int 3 m) h = some (.ptr h.n 0, h4) ∧ h4.n = h.n + 3 ∧ h4.get h.n = node3 m (.ptr b 0) (.leaf .nils) ∧
      h4.get b = node3 z up (.osl (h.n + 2) 0 1 1) ∧ h4.get (h.n + 2) = .cells 0 [.ptr h.n 0] ∧ h4.get (h.n + 1) = .cells 0 [.ptr h.n 0] ∧ ∀ c, c < h.n → c ≠ b → h4.get c = h.get c := by
  have e1 : Go.AI.c_impl_node_add F g (.ptr b 0) (.int 3 m) h = (aLoad (.ptr b 2) (h.push (node3 m (.ptr b 0) (.leaf .nils))) fun x5 h1 => aBuildSlice 1 1 [(0, 1, .ptr h.n 0)] h1 fun x6 h2 =>
      aAppend 1 8 x5 x6 h2 fun x7 h3 => aStore (.ptr b 2) x7 h3 fun x10 h4 => some (.ptr h.n 0, h4)) := rfl
  rw [e1, load_at (by rw [get_push_lt hbn]; exact hb) rfl]
  generalize hh1 : h.push (node3 m (.ptr b 0) (.leaf .nils)) = h1
  have n1 : h1.n = h.n + 1 := by rw [← hh1]; rfl
  have e2 : ∀ k : AV → H → Option R, aBuildSlice 1 1 [(0, 1, .ptr h.n 0)] h1 k = k (.leaf (.sl h1.n 0 1 1)) (h1.push (.cells 0 [.ptr h.n 0])) := fun k => rfl
  rw [e2]
  generalize hh2 : h1.push (.cells 0 [.ptr h.n 0]) = h2
  have n2 : h2.n = h.n + 2 := by rw [← hh2]; show h1.n + 1 = _; omega
  have g2 : h2.get h1.n = .cells 0 [.ptr h.n 0] := by rw [← hh2]; exact get_push_eq rfl
  rw [app1_nil g2]
  generalize hh3 : h2.push (.cells 0 [.ptr h.n 0]) = h3
  have old : ∀ c, c < h.n → h3.get c = h.get c := fun c hc => by
    rw [← hh3, get_push_lt (by omega), ← hh2, get_push_lt (by omega), ← hh1, get_push_lt hc]
  rw [store_at (l := [.int 3 z, up, .leaf .nils]) (fl := 0) (by rw [old b hbn]; exact hb) (by omega) (by simp) rfl, n2]
  refine ⟨_, rfl, ?_, ?_, ?_, ?_, ?_, ?_⟩
  · show h3.n = _; rw [← hh3]; show h2.n + 1 = _; omega
  · rw [get_set_ne (by omega), ← hh3, get_push_lt (by omega), ← hh2, get_push_lt (by omega), ← hh1, get_push_eq rfl]
  · rw [get_set_eq]; rfl
  · rw [get_set_ne (by omega), ← hh3, get_push_eq (by omega)]
  · rw [get_set_ne (by omega), ← hh3, get_push_lt (by omega), ← n1]; exact g2
  · intro c hc hcb; rw [get_set_ne hcb, old c hc]

theorem addS_osl {F g : Nat} {h : H} {b kb j : Nat} {m z : Int} {up : AV} {l : List AV} (hb : h.get b = node3 z up (.osl kb 0 j 1)) (hbn : b < h.n) (hk : h.get kb = .cells 0 l) (hkn : kb < h.n) (hkb : kb ≠ b) (hl : l.length = j) (hj : j < 1000) :
    ∃ h4, Go.AI.c_impl_node_add F g (.ptr b 0) (.int 3 m) h = some (.ptr h.n 0, h4) ∧ h4.n = h.n + 3 ∧ h4.get h.n = node3 m (.ptr b 0) (.leaf .nils) ∧
      h4.get b = node3 z up (.osl (h.n + 2) 0 (j + 1) 1) ∧ h4.get (h.n + 2) = .cells 0 (l ++ [.ptr h.n 0]) ∧ h4.get (h.n + 1) = .cells 0 [.ptr h.n 0] ∧ h4.get kb = .dead ∧ ∀ c, c < h.n → c ≠ b → c ≠ kb → h4.get c = h.get c := by
  have e1 : Go.AI.c_impl_node_add F g (.ptr b 0) (.int 3 m) h = (aLoad (.ptr b 2) (h.push (node3 m (.ptr b 0) (.leaf .nils))) fun x5 h1 => aBuildSlice 1 1 [(0, 1, .ptr h.n 0)] h1 fun x6 h2 =>
      aAppend 1 8 x5 x6 h2 fun x7 h3 => aStore (.ptr b 2) x7 h3 fun x10 h4 => some (.ptr h.n 0, h4)) := rfl
  rw [e1, load_at (by rw [get_push_lt hbn]; exact hb) rfl]
  generalize hh1 : h.push (node3 m (.ptr b 0) (.leaf .nils)) = h1
  have n1 : h1.n = h.n + 1 := by rw [← hh1]; rfl
  have e2 : ∀ k : AV → H → Option R, aBuildSlice 1 1 [(0, 1, .ptr h.n 0)] h1 k = k (.leaf (.sl h1.n 0 1 1)) (h1.push (.cells 0 [.ptr h.n 0])) := fun k => rfl
  rw [e2]
  generalize hh2 : h1.push (.cells 0 [.ptr h.n 0]) = h2
  have n2 : h2.n = h.n + 2 := by rw [← hh2]; show h1.n + 1 = _; omega
  have g2 : h2.get h1.n = .cells 0 [.ptr h.n 0] := by rw [← hh2]; exact get_push_eq rfl
  have g2k : h2.get kb = .cells 0 l := by rw [← hh2, get_push_lt (by omega), ← hh1, get_push_lt hkn]; exact hk
  rw [app1_osl g2 g2k hl hj (by omega) rfl]
  generalize hh3 : (h2.set kb .dead).push (.cells 0 (l ++ [.ptr h.n 0])) = h3
  have old : ∀ c, c < h.n → c ≠ kb → h3.get c = h.get c := fun c hc hck => by
    rw [← hh3, get_push_lt (by show c < h2.n; omega), get_set_ne hck, ← hh2, get_push_lt (by omega), ← hh1, get_push_lt hc]
  rw [store_at (l := [.int 3 z, up, .osl kb 0 j 1]) (fl := 0) (by rw [old b hbn (Ne.symm hkb)]; exact hb) (by omega) (by simp) rfl, n2]
  refine ⟨_, rfl, ?_, ?_, ?_, ?_, ?_, ?_, ?_⟩
  · show h3.n = _; rw [← hh3]; show h2.n + 1 = _; omega
  · rw [get_set_ne (by omega), ← hh3, get_push_lt (by show h.n < h2.n; omega), get_set_ne (by omega), ← hh2, get_push_lt (by omega), ← hh1, get_push_eq rfl]
  · rw [get_set_eq]; rfl
  · rw [get_set_ne (by omega), ← hh3, get_push_eq (by show _ = h2.n; omega)]
  · rw [get_set_ne (by omega), ← hh3, get_push_lt (by show h.n + 1 < h2.n; omega), get_set_ne (by omega), ← n1]; exact g2
  · rw [get_set_ne hkb, ← hh3, get_push_lt (by show kb < h2.n; omega), get_set_eq]
  · intro c hc hcb hck; rw [get_set_ne hcb, old c hc hck]


/-- A block that a reading makes: numbers from the reading's first block on. -/
inductive MB
  | node (z : Nat) (up : Option Nat) (K : Option (Nat × Nat))
  | row (l : List Nat)
  | dead
def pA (s b : Nat) : AV := .ptr (s + b) 0
def upA (s : Nat) : Option Nat → AV
  | none => .leaf .nilp
  | some b => pA s b
def kA (s : Nat) : Option (Nat × Nat) → AV
  | none => .leaf .nils
  | some (kb, j) => .osl (s + kb) 0 j 1
def MB.toB (s : Nat) : MB → Blk
  | .node z up K => node3 (.ofNat z) (upA s up) (kA s K)
  | .row l => .cells 0 (l.map (pA s))
  | .dead => .dead
def Lay (s : Nat) (M : List MB) (h : H) : Prop := h.n = s + M.length ∧ ∀ i B, M[i]? = some B → h.get (s + i) = B.toB s
def addM (M : List MB) (b m : Nat) : Option (List MB) := match M[b]? with
  | some (.node z up none) => some (M.set b (.node z up (some (M.length + 2, 1))) ++ [.node m (some b) none, .row [M.length], .row [M.length]])
  | some (.node z up (some (kb, j))) => match M[kb]? with
    | some (.row l) => if l.length = j ∧ j < 1000 then some ((M.set kb .dead).set b (.node z up (some (M.length + 2, j + 1))) ++ [.node m (some b) none, .row [M.length], .row (l ++ [M.length])]) else none
    | _ => none
  | _ => none
theorem Lay.add {F g s b m : Nat} {M M' : List MB} {h : H} (hL : Lay s M h) (e : addM M b m = some M') : ∃ h', Go.AI.c_impl_node_add F g (pA s b) (.int 3 (.ofNat m)) h = some (pA s M.length, h') ∧ Lay s M' h' ∧ ∀ c, c < s → h'.get c = h.get c := by
  obtain ⟨hn, hg⟩ := hL
  unfold addM at e
  split at e
  · rename_i z up hb
    cases e
    have hlt := (List.getElem?_eq_some_iff.1 hb).1
    obtain ⟨h4, e1, e2, e3, e4, e5, e6, e7⟩ := addS_nil (F := F) (g := g) (m := .ofNat m) (hg b _ hb) (by omega)
    rw [hn] at e3 e4 e5 e6 e1
    refine ⟨h4, e1, ⟨by simp; omega, fun i B hi => ?_⟩, fun c hc => e7 c (by omega) (by omega)⟩
    rcases Nat.lt_or_ge i M.length with h1 | h1
    · rw [List.getElem?_append_left (by simpa using h1)] at hi
      by_cases hib : b = i
      · subst hib
        rw [List.getElem?_set_self h1] at hi
        cases hi
        rw [e4]; rfl
      · rw [List.getElem?_set_ne hib] at hi
        rw [e7 _ (by omega) (by omega)]; exact hg i B hi
    · rw [List.getElem?_append_right (by simpa using h1)] at hi
      simp only [List.length_set] at hi
      obtain ⟨k, rfl⟩ : ∃ k, i = M.length + k := ⟨i - M.length, by omega⟩
      rw [Nat.add_sub_cancel_left] at hi
      match k, hi with
      | 0, hi => cases hi; exact e3
      | 1, hi => cases hi; exact e6
      | 2, hi => cases hi; exact e5
      | k + 3, hi => simp at hi
  · rename_i z up kb j hb
    split at e
    · rename_i l hk
      split at e
      · rename_i hj
        cases e
        have hlt := (List.getElem?_eq_some_iff.1 hb).1
        have hkt := (List.getElem?_eq_some_iff.1 hk).1
        have hne : kb ≠ b := fun he => by subst he; rw [hb] at hk; cases hk
        obtain ⟨h4, e1, e2, e3, e4, e5, e6, e8, e7⟩ := addS_osl (F := F) (g := g) (m := .ofNat m) (hg b _ hb) (by omega) (hg kb _ hk) (by omega) (by omega) (by simpa using hj.1) hj.2
        rw [hn] at e3 e4 e5 e6 e1
        refine ⟨h4, e1, ⟨by simp; omega, fun i B hi => ?_⟩, fun c hc => e7 c (by omega) (by omega) (by omega)⟩
        rcases Nat.lt_or_ge i M.length with h1 | h1
        · rw [List.getElem?_append_left (by simpa using h1)] at hi
          by_cases hib : b = i
          · subst hib
            rw [List.getElem?_set_self (by simpa using h1)] at hi
            cases hi
            rw [e4]; rfl
          · rw [List.getElem?_set_ne hib] at hi
            by_cases hik : kb = i
            · subst hik
              rw [List.getElem?_set_self h1] at hi
              cases hi
              exact e8
            · rw [List.getElem?_set_ne hik] at hi
              rw [e7 _ (by omega) (by omega) (by omega)]; exact hg i B hi
        · rw [List.getElem?_append_right (by simpa using h1)] at hi
          simp only [List.length_set] at hi
          obtain ⟨k, rfl⟩ : ∃ k, i = M.length + k := ⟨i - M.length, by omega⟩
          rw [Nat.add_sub_cancel_left] at hi
          match k, hi with
          | 0, hi => cases hi; exact e3
          | 1, hi => cases hi; exact e6
          | 2, hi => cases hi; rw [show s + (M.length + 2) = s + M.length + 2 by omega, e5]; simp [MB.toB, pA]
          | k + 3, hi => simp at hi
      · cases e
    · cases e
  · cases e
/-- The reading of the rest of a text. -/
def rdL : List Nat → Option Nat → Nat → List MB → Option (List MB)
  | [], x, _, M => match x with
    | none => some M
    | some _ => none
  | c :: r, x, m, M => match x with
    | none => none
    | some b => match M[b]? with
      | some (.node _ up _) => if c = 41 then rdL r up m M else if c = 40 ∧ m < 9 then (match addM M b m with
        | some M' => rdL r (some M.length) (m + 1) M'
        | none => none) else none
      | _ => none
def yesTree (s : Nat) : AV := .one .tup (.cons (.ptr s 0) (.cons (.bool true) (.leaf .nil)))
theorem j3_good {F g : Nat} {h : H} {l : List Nat} {n s : Nat} : Go.AI.c_impl_readTree_j3 F g [.str l n, .ptr s 0, .leaf .nilp, .int 3 (.ofNat n)] h = some (yesTree s, h) := by
  simp only [c_impl_readTree_j3, c_impl_readTree_j2, c_impl_readTree_j1, hd_cons, tl_cons, aLenK_str, aCmpI_int, kEq_self, bc_true, ilt_nat]
  rw [ble_false (by omega)]
  rfl
theorem loop_good {F g : Nat} (l : List Nat) (n s : Nat) (hn : l.length = n) (hmax : n < 9223372036854775807) : ∀ (rest : List Nat) (N i m : Nat) (x : Option Nat) (M M' : List MB) (h : H), l.drop i = rest → i + rest.length = n → rest.length < N → Lay s M h → m ≤ 9 → rdL rest x m M = some M' →
    ∃ h', loopD N (Go.AI.c_impl_readTree_l9 F g) [.str l n, .ptr s 0, upA s x, .int 3 (.ofNat m), .int 3 (.ofNat i)] h = some (yesTree s, h') ∧ Lay s M' h' ∧ ∀ c, c < s → h'.get c = h.get c
  | rest, 0, i, m, x, M, M', h, _, _, hN, _, _, _ => absurd hN (by omega)
  | [], N + 1, i, m, x, M, M', h, hd, hl, hN, hL, hm, e => by
    have hin : i = n := by simpa using hl
    subst hin
    rw [loopD_succ, body_end (Nat.le_refl _)]
    cases x with
    | none => cases e; exact ⟨h, j3_good, hL, fun _ _ => rfl⟩
    | some b => cases e
  | c :: rest, N + 1, i, m, x, M, M', h, hd, hl, hN, hL, hm, e => by
    obtain ⟨h1, h2, h3⟩ := drop_nth l i c rest hd
    rw [hn] at h3
    simp only [List.length_cons] at hl hN
    rw [loopD_succ]
    simp only [rdL] at e
    split at e
    · cases e
    rename_i x b
    split at e
    · rename_i z up K hb
      have hnode := hL.2 b _ hb
      split at e
      · rename_i h41
        subst h41
        rw [show upA s (some b) = .ptr (s + b) 0 from rfl, body_close h3 h1 hnode (by omega)]
        exact loop_good l n s hn hmax rest N (i + 1) m up M M' h h2 (by omega) (by omega) hL hm e
      · split at e
        · rename_i h41 h40
          obtain ⟨rfl, h9⟩ := h40
          split at e
          · rename_i M1 ha
            obtain ⟨h4, ea, L4, f4⟩ := hL.add (F := F) (g := g) ha
            rw [show upA s (some b) = .ptr (s + b) 0 from rfl, body_add h3 h1 h9 (by omega) ea]
            obtain ⟨h', e', L', f'⟩ := loop_good l n s hn hmax rest N (i + 1) (m + 1) (some M.length) M1 M' h4 h2 (by omega) (by omega) L4 (by omega) e
            exact ⟨h', e', L', fun c hc => (f' c hc).trans (f4 c hc)⟩
          · cases e
        · cases e
    · cases e
def rdM : List Nat → Option (List MB)
  | 40 :: r => rdL r (some 0) 1 [.node 0 none none]
  | _ => none
/-- The reading of a tree, over any memory. -/
theorem read_good {F g : Nat} {l : List Nat} {n : Nat} {M : List MB} (hn : l.length = n) (hmax : n < F) (hF : F < 9223372036854775807) (e : rdM l = some M) (h : H) : ∃ h', Go.AI.c_impl_readTree F g (.str l n) h = some (yesTree h.n, h') ∧ Lay h.n M h' ∧ ∀ c, c < h.n → h'.get c = h.get c := by
  obtain ⟨N, rfl⟩ : ∃ N, F = N + 1 := ⟨F - 1, by omega⟩
  show ∃ h', loopD (N + 1) (Go.AI.c_impl_readTree_l9 (N + 1) g) [.str l n, .leaf .nilp, .leaf .nilp, .int 3 (.ofNat 0), .int 3 (.ofNat 0)] h = some (yesTree h.n, h') ∧ _
  rw [loopD_succ]
  unfold rdM at e
  split at e
  · rename_i r
    have h0 : 0 < n := by rw [← hn]; simp
    rw [body_root h0 rfl (by omega) (by omega)]
    obtain ⟨h', e', L', f'⟩ := loop_good (F := N + 1) (g := g) (40 :: r) n h.n hn (by omega) r N 1 1 (some 0) _ M (h.push (node3 (.ofNat 0) (.leaf .nilp) (.leaf .nils))) rfl (by simp at hn; omega) (by simp at hn; omega)
      ⟨rfl, fun i B hi => by
        match i, hi with
        | 0, hi => cases hi; exact get_push_eq rfl
        | i + 1, hi => simp at hi⟩ (by omega) e
    exact ⟨h', e', L', fun c hc => (f' c hc).trans (get_push_lt hc)⟩
  · cases e
end
end Go.AI.T
namespace Go.AI.T
open Go Go.RowKit Go.AI
noncomputable section
/-- A layout's trees, with places where another tree hangs: rows of numbers, none = the other tree's root. -/
inductive Fx
  | nil
  | hole (rest : Fx)
  | cons (b kb : Nat) (kids rest : Fx)
namespace Fx
def cnt : Fx → Nat
  | .nil => 0
  | .hole r => cnt r + 1
  | .cons _ _ _ r => cnt r + 1
def refs : Fx → List (Option Nat)
  | .nil => []
  | .hole r => none :: refs r
  | .cons b _ _ r => some b :: refs r
/-- The other tree put in. -/
def fill (ad : Nat → Nat) (b0 k0 : Nat) (f0 : Fo) : Fx → Fo
  | .nil => .nil
  | .hole r => .cons b0 k0 f0 (fill ad b0 k0 f0 r)
  | .cons b kb k r => .cons (ad b) (ad kb) (fill ad b0 k0 f0 k) (fill ad b0 k0 f0 r)
def holes : Fx → Nat
  | .nil => 0
  | .hole r => holes r + 1
  | .cons _ _ k r => holes k + holes r
def nodes : Fx → Nat
  | .nil => 0
  | .hole r => nodes r
  | .cons _ _ k r => nodes k + 1 + nodes r
def deep : Fx → Nat
  | .nil => 0
  | .hole r => max 1 (deep r)
  | .cons _ _ k r => max (deep k + 1) (deep r)
theorem fill_cnt {ad : Nat → Nat} {b0 k0 : Nat} {f0 : Fo} : ∀ f : Fx, (f.fill ad b0 k0 f0).cnt = f.cnt
  | .nil => rfl
  | .hole r => by show (fill ad b0 k0 f0 r).cnt + 1 = cnt r + 1; rw [fill_cnt r]
  | .cons _ _ _ r => by show (fill ad b0 k0 f0 r).cnt + 1 = cnt r + 1; rw [fill_cnt r]
theorem fill_size {ad : Nat → Nat} {b0 k0 : Nat} {f0 : Fo} : ∀ f : Fx, (f.fill ad b0 k0 f0).size = f.nodes + f.holes * (f0.size + 1)
  | .nil => by simp [fill, Fo.size, nodes, holes]
  | .hole r => by
    have := fill_size (ad := ad) (b0 := b0) (k0 := k0) (f0 := f0) r
    simp only [fill, Fo.size, nodes, holes, this, Nat.add_mul, Nat.one_mul]; omega
  | .cons _ _ k r => by
    have h1 := fill_size (ad := ad) (b0 := b0) (k0 := k0) (f0 := f0) k
    have h2 := fill_size (ad := ad) (b0 := b0) (k0 := k0) (f0 := f0) r
    simp only [fill, Fo.size, nodes, holes, h1, h2, Nat.add_mul]; omega
theorem fill_deep {ad : Nat → Nat} {b0 k0 : Nat} {f0 : Fo} : ∀ f : Fx, (f.fill ad b0 k0 f0).deep ≤ f.deep + f0.deep
  | .nil => Nat.zero_le _
  | .hole r => by
    have := fill_deep (ad := ad) (b0 := b0) (k0 := k0) (f0 := f0) r
    simp only [fill, Fo.deep, deep]; omega
  | .cons _ _ k r => by
    have h1 := fill_deep (ad := ad) (b0 := b0) (k0 := k0) (f0 := f0) k
    have h2 := fill_deep (ad := ad) (b0 := b0) (k0 := k0) (f0 := f0) r
    simp only [fill, Fo.deep, deep]; omega
end Fx
/-- A layout whose rows may name the other tree's root. -/
inductive MX
  | node (z : Nat) (up : Option Nat) (K : Option (Nat × Nat))
  | row (l : List (Option Nat))
  | dead
def refA (ad : Nat → Nat) (b0 : Nat) : Option Nat → AV
  | none => .ptr b0 0
  | some b => .ptr (ad b) 0
def upX (ad : Nat → Nat) : Option Nat → AV
  | none => .leaf .nilp
  | some b => .ptr (ad b) 0
def kX (ad : Nat → Nat) : Option (Nat × Nat) → AV
  | none => .leaf .nils
  | some (kb, j) => .osl (ad kb) 0 j 1
def MX.toB (ad : Nat → Nat) (b0 : Nat) : MX → Blk
  | .node z up K => node3 (.ofNat z) (upX ad up) (kX ad K)
  | .row l => .cells 0 (l.map (refA ad b0))
  | .dead => .dead
def LayX (ad : Nat → Nat) (b0 lo : Nat) (M : List MX) (h : H) : Prop := ∀ i B, M[i]? = some B → ad i < lo ∧ h.get (ad i) = B.toB ad b0
def eqR : List (Option Nat) → List (Option Nat) → Bool
  | [], [] => true
  | none :: a, none :: b => eqR a b
  | some x :: a, some y :: b => bc (Nat.beq x y) (eqR a b) false
  | _, _ => false
theorem eqR_eq : ∀ {a b : List (Option Nat)}, eqR a b = true → a = b
  | [], [], _ => rfl
  | none :: a, none :: b, e => by rw [eqR_eq (show eqR a b = true from e)]
  | some x :: a, some y :: b, e => by
    have e : bc (Nat.beq x y) (eqR a b) false = true := e
    cases h : Nat.beq x y with
    | false => rw [h] at e; cases e
    | true => rw [h, bc_true] at e; rw [Nat.eq_of_beq_eq_true h, eqR_eq e]
  | [], _ :: _, e => by cases e
  | none :: _, [], e => by cases e
  | some _ :: _, [], e => by cases e
  | none :: _, some _ :: _, e => by cases e
  | some _ :: _, none :: _, e => by cases e
def getX : List MX → Nat → MX
  | [], _ => .dead
  | x :: _, 0 => x
  | _ :: l, i + 1 => getX l i
theorem getX_some : ∀ {M : List MX} {i : Nat} {B : MX}, getX M i = B → B ≠ .dead → M[i]? = some B
  | [], _, _, e, h => absurd e.symm h
  | x :: _, 0, _, e, _ => by rw [← e]; rfl
  | _ :: l, i + 1, B, e, h => by rw [List.getElem?_cons_succ]; exact getX_some (M := l) (i := i) e h
/-- The trees lie so in the layout. -/
def atX (M : List MX) : Fx → Bool
  | .nil => true
  | .hole r => atX M r
  | .cons b kb k r => bc (match getX M b with
    | .node _ _ none => Nat.beq k.cnt 0
    | .node _ _ (some (q, j)) => bc (Nat.beq q kb) (bc (Nat.beq j k.cnt) (match getX M kb with
      | .row l => eqR l k.refs
      | _ => false) false) false
    | _ => false) (bc (atX M k) (atX M r) false) false
theorem bc_and {a b : Bool} (e : bc a b false = true) : a = true ∧ b = true := by cases a with
  | false => cases e
  | true => exact ⟨rfl, e⟩
theorem refs_ptrs {ad : Nat → Nat} {b0 k0 : Nat} {f0 : Fo} : ∀ f : Fx, f.refs.map (refA ad b0) = (f.fill ad b0 k0 f0).ptrs
  | .nil => rfl
  | .hole r => by show _ :: r.refs.map (refA ad b0) = _ :: (r.fill ad b0 k0 f0).ptrs; rw [refs_ptrs r]; rfl
  | .cons b _ _ r => by show _ :: r.refs.map (refA ad b0) = _ :: (r.fill ad b0 k0 f0).ptrs; rw [refs_ptrs r]; rfl
theorem atX_At {ad : Nat → Nat} {b0 k0 lo : Nat} {f0 : Fo} {M : List MX} {h : H} (hL : LayX ad b0 lo M h) : ∀ f : Fx, (f.holes = 0 ∨ (Fo.cons b0 k0 f0 .nil).At lo h) → atX M f = true → (f.fill ad b0 k0 f0).At lo h
  | .nil, _, _ => trivial
  | .hole r, h0, e => by
    have h1 := h0.resolve_left (by simp [Fx.holes])
    exact ⟨h1.1, h1.2.1, atX_At hL r (.inr h1) e⟩
  | .cons b kb k r, h0, e => by
    obtain ⟨e1, e2⟩ := bc_and (show bc (match getX M b with
      | .node _ _ none => Nat.beq k.cnt 0
      | .node _ _ (some (q, j)) => bc (Nat.beq q kb) (bc (Nat.beq j k.cnt) (match getX M kb with
        | .row l => eqR l k.refs
        | _ => false) false) false
      | _ => false) (bc (atX M k) (atX M r) false) false = true from e)
    obtain ⟨e2, e3⟩ := bc_and e2
    refine ⟨?_, atX_At hL k (h0.imp (fun h => by simp only [Fx.holes] at h; omega) id) e2, atX_At hL r (h0.imp (fun h => by simp only [Fx.holes] at h; omega) id) e3⟩
    split at e1
    · rename_i z up hb
      have hb' := hL b _ (getX_some hb (by simp))
      exact ⟨.ofNat z, upX ad up, hb'.1, .inl ⟨by rw [Fx.fill_cnt]; exact Nat.eq_of_beq_eq_true e1, hb'.2⟩⟩
    · rename_i z up q j hb
      have hb' := hL b _ (getX_some hb (by simp))
      obtain ⟨q1, q2⟩ := bc_and e1
      obtain ⟨r2, r3⟩ := bc_and q2
      clear q2 e1
      have := Nat.eq_of_beq_eq_true q1
      subst this
      have := Nat.eq_of_beq_eq_true r2
      subst this
      split at r3
      · rename_i l hk
        have hk' := hL q _ (getX_some hk (by simp))
        have := eqR_eq r3
        subst this
        refine ⟨.ofNat z, upX ad up, hb'.1, .inr ⟨hk'.1, ?_, ?_⟩⟩
        · rw [Fx.fill_cnt]; exact hb'.2
        · rw [hk'.2]; show Blk.cells 0 _ = _; rw [refs_ptrs]
      · cases r3
    · cases e1
/-- A layout that a reading has made, as one without another tree. -/
def MB.toX : MB → MX
  | .node z up K => .node z up K
  | .row l => .row (l.map some)
  | .dead => .dead
theorem toX_toB {s b0 : Nat} : ∀ B : MB, B.toX.toB (fun i => s + i) b0 = B.toB s
  | .node z up K => by cases up <;> cases K <;> rfl
  | .row l => by simp [MB.toX, MX.toB, MB.toB, refA, pA, Function.comp_def]
  | .dead => rfl
theorem Lay.toX {s b0 : Nat} {M : List MB} {h h' : H} (hL : Lay s M h) (hs : ∀ i, i < M.length → h'.get (s + i) = h.get (s + i)) : LayX (fun i => s + i) b0 (s + M.length) (M.map MB.toX) h' := fun i B hi => by
  rw [List.getElem?_map] at hi
  cases e : M[i]? with
  | none => rw [e] at hi; cases hi
  | some B' =>
    rw [e] at hi
    cases hi
    have hlt := (List.getElem?_eq_some_iff.1 e).1
    exact ⟨by show s + i < _; omega, by rw [hs i hlt, hL.2 i B' e, toX_toB]⟩
end
end Go.AI.T
namespace Go.AI.T
open Go Go.RowKit Go.AI
noncomputable section
/-- The layout once another tree hangs at node c. -/
def graftM (M : List MB) (c : Nat) : Option (List MX) := match M[c]? with
  | some (.node z up none) => some ((M.map MB.toX).set c (.node z up (some (M.length, 1))) ++ [.row [none]])
  | some (.node z up (some (kb, j))) => match M[kb]? with
    | some (.row l) => if l.length = j ∧ j < 1000 then some (((M.map MB.toX).set kb .dead).set c (.node z up (some (M.length, j + 1))) ++ [.row (l.map some ++ [none])]) else none
    | _ => none
  | _ => none
def adS (s n q : Nat) (i : Nat) : Nat := if i < n then s + i else q
def okUp (M : List MB) : Bool := @List.rec MB (fun _ => Bool) true (fun B _ r => bc (match B with
  | .node _ (some u) _ => Nat.ble (Nat.succ u) M.length
  | .row l => l.all fun u => Nat.ble (Nat.succ u) M.length
  | .node _ none _ => true
  | .dead => true) (bc (match B with
  | .node _ _ (some (kb, _)) => Nat.ble (Nat.succ kb) M.length
  | _ => true) r false) false) M
theorem ad_lt {s n q i : Nat} (h : i < n) : adS s n q i = s + i := if_pos h
theorem ad_ge {s n q : Nat} : adS s n q n = q := if_neg (Nat.lt_irrefl n)
def inM (n : Nat) : MB → Prop
  | .node _ up K => (∀ u, up = some u → u < n) ∧ ∀ kb j, K = some (kb, j) → kb < n
  | .row l => ∀ u ∈ l, u < n
  | .dead => True
theorem toX_ad {s n q b0 : Nat} : ∀ B : MB, inM n B → B.toX.toB (adS s n q) b0 = B.toB s
  | .node z up K, ⟨h1, h2⟩ => by
    cases up with
    | none =>
      cases K with
      | none => rfl
      | some p => obtain ⟨kb, j⟩ := p; show node3 _ _ (.osl (adS s n q kb) 0 j 1) = _; rw [ad_lt (h2 kb j rfl)]; rfl
    | some u =>
      cases K with
      | none => show node3 _ (.ptr (adS s n q u) 0) _ = _; rw [ad_lt (h1 u rfl)]; rfl
      | some p => obtain ⟨kb, j⟩ := p; show node3 _ (.ptr (adS s n q u) 0) (.osl (adS s n q kb) 0 j 1) = _; rw [ad_lt (h2 kb j rfl), ad_lt (h1 u rfl)]; rfl
  | .row l, h => by
    show Blk.cells 0 ((l.map some).map (refA (adS s n q) b0)) = .cells 0 (l.map (pA s))
    rw [List.map_map]
    congr 1
    refine List.map_congr_left fun u hu => ?_
    show AV.ptr (adS s n q u) 0 = .ptr (s + u) 0
    rw [ad_lt (h u hu)]
  | .dead, _ => rfl
theorem graft_step {s b0 c : Nat} {M : List MB} {X : List MX} {h : H} (hL : ∀ (i : Nat) (B : MB), M[i]? = some B → h.get (s + i) = B.toB s) (hI : ∀ (i : Nat) (B : MB), M[i]? = some B → inM M.length B) (hlt : s + M.length ≤ h.n) (e : graftM M c = some X) :
    ∃ h5, (∀ k : H → Option R, (aNilCheck (.ptr (s + c) 0) h fun x14 h => aField 2 x14 h fun x15 h => aLoad x15 h fun x16 h => aBuildSlice 1 1 [(0, 1, .ptr b0 0)] h fun x17 h => aAppend 1 8 x16 x17 h fun x18 h => aNilCheck (.ptr (s + c) 0) h fun x19 h => aField 2 x19 h fun x20 h => aStore x20 x18 h fun x21 h => k h) = k h5) ∧
      LayX (adS s M.length (h.n + 1)) b0 h5.n X h5 ∧ h5.n = h.n + 2 ∧ ∀ c', s + M.length ≤ c' → c' < h.n → h5.get c' = h.get c' := by
  have e0 : ∀ k : H → Option R, (aNilCheck (.ptr (s + c) 0) h fun x14 h => aField 2 x14 h fun x15 h => aLoad x15 h fun x16 h => aBuildSlice 1 1 [(0, 1, .ptr b0 0)] h fun x17 h => aAppend 1 8 x16 x17 h fun x18 h => aNilCheck (.ptr (s + c) 0) h fun x19 h => aField 2 x19 h fun x20 h => aStore x20 x18 h fun x21 h => k h) =
      aLoad (.ptr (s + c) 2) h fun x16 h1 => aAppend 1 8 x16 (.leaf (.sl h1.n 0 1 1)) (h1.push (.cells 0 [.ptr b0 0])) fun x18 h => aStore (.ptr (s + c) 2) x18 h fun x21 h => k h := fun k => rfl
  generalize hh2 : h.push (.cells 0 [.ptr b0 0]) = h2 at *
  have n2 : h2.n = h.n + 1 := by rw [← hh2]; rfl
  have g2 : h2.get h.n = .cells 0 [.ptr b0 0] := by rw [← hh2]; exact get_push_eq rfl
  have o2 : ∀ c, c < h.n → h2.get c = h.get c := fun c hc => by rw [← hh2, get_push_lt hc]
  unfold graftM at e
  split at e
  · rename_i z up hc
    cases e
    have hcl := (List.getElem?_eq_some_iff.1 hc).1
    have hg := hL c _ hc
    generalize hh3 : h2.push (.cells 0 [.ptr b0 0]) = h3
    have n3 : h3.n = h.n + 2 := by rw [← hh3]; show h2.n + 1 = _; omega
    have o3 : ∀ c, c < h.n → h3.get c = h.get c := fun c hc => by rw [← hh3, get_push_lt (by omega), o2 c hc]
    refine ⟨h3.set (s + c) (.cells 0 [.int 3 (.ofNat z), upA s up, .osl (h.n + 1) 0 1 1]), fun k => ?_, fun i B hi => ?_, n3, fun c' h1 h2' => ?_⟩
    · rw [e0, load_at hg rfl]
      simp only [hh2]
      rw [show kA s none = .leaf .nils from rfl, app1_nil g2, hh3, store_at (l := [.int 3 (.ofNat z), upA s up, .leaf .nils]) (fl := 0) (by rw [o3 _ (by omega)]; exact hg) (by omega) (by simp) rfl, n2]
      rfl
    · rcases Nat.lt_or_ge i M.length with h1 | h1
      · rw [ad_lt h1]
        refine ⟨by show _ < h3.n; omega, ?_⟩
        rw [List.getElem?_append_left (by simpa using h1)] at hi
        by_cases hic : c = i
        · subst hic
          rw [List.getElem?_set_self (by simpa using h1)] at hi
          cases hi
          rw [get_set_eq]
          show _ = node3 _ (upX _ up) (.osl (adS s M.length (h.n + 1) M.length) 0 1 1)
          rw [ad_ge]
          have hu := (hI c _ hc).1
          cases up with
          | none => rfl
          | some u => show _ = node3 _ (.ptr (adS s M.length (h.n + 1) u) 0) _; rw [ad_lt (hu u rfl)]; rfl
        · rw [List.getElem?_set_ne hic, List.getElem?_map] at hi
          cases hb : M[i]? with
          | none => rw [hb] at hi; cases hi
          | some B' =>
            rw [hb] at hi
            cases hi
            rw [get_set_ne (by omega), o3 _ (by omega), hL i B' hb, toX_ad _ (hI i _ hb)]
      · rw [List.getElem?_append_right (by simpa using h1)] at hi
        simp only [List.length_set, List.length_map] at hi
        obtain ⟨k, rfl⟩ : ∃ k, i = M.length + k := ⟨i - M.length, by omega⟩
        rw [Nat.add_sub_cancel_left] at hi
        match k, hi with
        | 0, hi =>
          cases hi
          rw [show M.length + 0 = M.length from rfl, ad_ge]
          exact ⟨by show _ < h3.n; omega, by rw [get_set_ne (by omega), ← hh3, get_push_eq (by omega)]; rfl⟩
        | k + 1, hi => simp at hi
    · rw [get_set_ne (by omega), o3 c' h2']
  · rename_i z up kb j hc
    split at e
    · rename_i l hk
      split at e
      · rename_i hj
        cases e
        have hcl := (List.getElem?_eq_some_iff.1 hc).1
        have hkl := (List.getElem?_eq_some_iff.1 hk).1
        have hne : kb ≠ c := fun he => by subst he; rw [hc] at hk; cases hk
        have hg := hL c _ hc
        have hgk := hL kb _ hk
        generalize hh3 : (h2.set (s + kb) .dead).push (.cells 0 (l.map (pA s) ++ [.ptr b0 0])) = h3
        have n3 : h3.n = h.n + 2 := by rw [← hh3]; show h2.n + 1 = _; omega
        have o3 : ∀ c, c < h.n → c ≠ s + kb → h3.get c = h.get c := fun c hc hk => by rw [← hh3, get_push_lt (by show c < h2.n; omega), get_set_ne hk, o2 c hc]
        refine ⟨h3.set (s + c) (.cells 0 [.int 3 (.ofNat z), upA s up, .osl (h.n + 1) 0 (j + 1) 1]), fun k => ?_, fun i B hi => ?_, n3, fun c' h1 h2' => ?_⟩
        · rw [e0, load_at hg rfl]
          simp only [hh2]
          rw [show kA s (some (kb, j)) = .osl (s + kb) 0 j 1 from rfl, app1_osl g2 (by rw [o2 _ (by omega)]; exact hgk) (by simpa using hj.1) hj.2 (by omega) rfl, hh3, store_at (l := [.int 3 (.ofNat z), upA s up, .osl (s + kb) 0 j 1]) (fl := 0) (by rw [o3 _ (by omega) (by omega)]; exact hg) (by omega) (by simp) rfl, n2]
          rfl
        · rcases Nat.lt_or_ge i M.length with h1 | h1
          · rw [ad_lt h1]
            refine ⟨by show _ < h3.n; omega, ?_⟩
            rw [List.getElem?_append_left (by simpa using h1)] at hi
            by_cases hic : c = i
            · subst hic
              rw [List.getElem?_set_self (by simpa using h1)] at hi
              cases hi
              rw [get_set_eq]
              show _ = node3 _ (upX _ up) (.osl (adS s M.length (h.n + 1) M.length) 0 (j + 1) 1)
              rw [ad_ge]
              have hu := (hI c _ hc).1
              cases up with
              | none => rfl
              | some u => show _ = node3 _ (.ptr (adS s M.length (h.n + 1) u) 0) _; rw [ad_lt (hu u rfl)]; rfl
            · rw [List.getElem?_set_ne hic] at hi
              by_cases hik : kb = i
              · subst hik
                rw [List.getElem?_set_self (by simpa using h1)] at hi
                cases hi
                rw [get_set_ne (by omega), ← hh3, get_push_lt (by show s + kb < h2.n; omega), get_set_eq]
                rfl
              · rw [List.getElem?_set_ne hik, List.getElem?_map] at hi
                cases hb : M[i]? with
                | none => rw [hb] at hi; cases hi
                | some B' =>
                  rw [hb] at hi
                  cases hi
                  rw [get_set_ne (by omega), o3 _ (by omega) (by omega), hL i B' hb, toX_ad _ (hI i _ hb)]
          · rw [List.getElem?_append_right (by simpa using h1)] at hi
            simp only [List.length_set, List.length_map] at hi
            obtain ⟨k, rfl⟩ : ∃ k, i = M.length + k := ⟨i - M.length, by omega⟩
            rw [Nat.add_sub_cancel_left] at hi
            match k, hi with
            | 0, hi =>
              cases hi
              rw [show M.length + 0 = M.length from rfl, ad_ge]
              refine ⟨by show _ < h3.n; omega, ?_⟩
              rw [get_set_ne (by omega), ← hh3, get_push_eq (by show _ = h2.n; omega)]
              have hu : ∀ u ∈ l, u < M.length := hI kb _ hk
              have := toX_ad (s := s) (n := M.length) (q := h.n + 1) (b0 := b0) (.row l) hu
              have this : Blk.cells 0 ((l.map some).map (refA (adS s M.length (h.n + 1)) b0)) = .cells 0 (l.map (pA s)) := this
              injection this with _ t2
              show _ = Blk.cells 0 ((l.map some ++ [none]).map (refA _ b0))
              rw [List.map_append, t2]; rfl
            | k + 1, hi => simp at hi
        · rw [get_set_ne (by omega), o3 c' h2' (by omega)]
      · cases e
    · cases e
  · cases e
/-- Up to the root. -/
def climb (M : List MX) : Nat → Nat → Option Nat
  | 0, _ => none
  | f + 1, c => match getX M c with
    | .node _ none _ => some c
    | .node _ (some u) _ => climb M f u
    | _ => none
theorem root_of {F0 g : Nat} {ad : Nat → Nat} {b0 lo : Nat} {M : List MX} {h : H} (hL : LayX ad b0 lo M h) : ∀ (f N c r : Nat), climb M f c = some r → f ≤ N → loopD N (c_impl_node_root_l1 F0 g) [.ptr (ad c) 0] h = some (.ptr (ad r) 0, h)
  | 0, N, c, r, e, _ => by cases e
  | f + 1, 0, c, r, e, hN => by omega
  | f + 1, N + 1, c, r, e, hN => by
    unfold climb at e
    rw [loopD_succ]
    split at e
    · rename_i z K hb
      cases e
      have hg := (hL c _ (getX_some hb (by simp))).2
      have e1 : ∀ k : AV → H → Option R, aLoad (.ptr (ad c) 1) h k = k (.leaf .nilp) h := fun k => load_at hg rfl
      have e2 : c_impl_node_root_l1 F0 g [.ptr (ad c) 0] h (loopD N (c_impl_node_root_l1 F0 g)) = aLoad (.ptr (ad c) 1) h fun x5 h => aEq true 1 x5 (.leaf .nilp) h fun x6 h => withBool x6 fun t7 => bc t7 (aLoad (.ptr (ad c) 1) h fun x10 h => loopD N (c_impl_node_root_l1 F0 g) [x10] h) (some (.ptr (ad c) 0, h)) := rfl
      rw [e2, e1]
      rfl
    · rename_i z u K hb
      have hg := (hL c _ (getX_some hb (by simp))).2
      have e1 : ∀ k : AV → H → Option R, aLoad (.ptr (ad c) 1) h k = k (.ptr (ad u) 0) h := fun k => load_at hg rfl
      have e2 : c_impl_node_root_l1 F0 g [.ptr (ad c) 0] h (loopD N (c_impl_node_root_l1 F0 g)) = aLoad (.ptr (ad c) 1) h fun x5 h => aEq true 1 x5 (.leaf .nilp) h fun x6 h => withBool x6 fun t7 => bc t7 (aLoad (.ptr (ad c) 1) h fun x10 h => loopD N (c_impl_node_root_l1 F0 g) [x10] h) (some (.ptr (ad c) 0, h)) := rfl
      rw [e2, e1]
      show aLoad (.ptr (ad c) 1) h (fun x10 h => loopD N (c_impl_node_root_l1 F0 g) [x10] h) = _
      rw [e1]
      exact root_of hL f N u r e (by omega)
    · cases e
end
end Go.AI.T
namespace Go.AI.T
open Go Go.RowKit Go.AI
noncomputable section
def noText : AV := .one .tup (.cons (.str [] 0) (.cons (.bool false) (.leaf .nil)))
/-- A tree with another hung in that has more than nine nodes is told as none. -/
theorem graft_big {F g s b0 c kb kt0 : Nat} (hF : 1000 ≤ F) {M Mt : List MB} {X : List MX} {kids kt : Fx} {h : H} (hL : ∀ (i : Nat) (B : MB), M[i]? = some B → h.get (s + i) = B.toB s) (hI : ∀ (i : Nat) (B : MB), M[i]? = some B → inM M.length B) (hlt : s + M.length ≤ b0) (h0 : 0 < M.length)
    (hT : Lay b0 Mt h) (eX : graftM M c = some X) (hat : atX X (.cons 0 kb kids .nil) = true) (hcl : climb X 30 c = some 0) (hc : c < M.length) (hho : kids.holes = 1) (hat2 : atX (Mt.map MB.toX) (.cons 0 kt0 kt .nil) = true) (hho2 : kt.holes = 0)
    (hd : kids.deep + kt.deep ≤ g) (hn : kids.nodes ≤ 100 ∧ kt.nodes ≤ 100) (hbig : 9 < 2 + kids.nodes + kt.nodes) :
    ∃ h6, c_impl_CutGraft_j1 F (g + 1) [.ptr (s + c) 0, .ptr b0 0, .bool false, .bool false] h = some (noText, h6) := by
  have hTn := hT.1
  obtain ⟨h5, hst, hX, n5, f5⟩ := graft_step (b0 := b0) hL hI (show s + M.length ≤ h.n by omega) eX
  have hadc : adS s M.length (h.n + 1) c = s + c := ad_lt hc
  have had0 : adS s M.length (h.n + 1) 0 = s + 0 := ad_lt h0
  -- the other tree
  have hT5 : LayX (fun i => b0 + i) 0 (b0 + Mt.length) (Mt.map MB.toX) h5 := hT.toX fun i hi => f5 _ (by omega) (by omega)
  have hAt := atX_At (k0 := 0) (f0 := .nil) hT5 (.cons 0 kt0 kt .nil) (.inl (by simp [Fx.holes, hho2])) hat2
  have hAt5 : (Fo.cons b0 (b0 + kt0) (kt.fill (fun i => b0 + i) 0 0 .nil) .nil).At h5.n h5 := Fo.At.frame (by omega) (fun _ _ => rfl) hAt
  have hA5 := atX_At (k0 := b0 + kt0) (f0 := kt.fill (fun i => b0 + i) 0 0 .nil) hX (.cons 0 kb kids .nil) (.inr hAt5) hat
  have hs2 : (kt.fill (fun i => b0 + i) 0 0 Fo.nil).size = kt.nodes := by rw [Fx.fill_size, hho2]; simp
  have hs1 : (kids.fill (adS s M.length (h.n + 1)) b0 (b0 + kt0) (kt.fill (fun i => b0 + i) 0 0 .nil)).size = kids.nodes + (kt.nodes + 1) := by rw [Fx.fill_size, hho, hs2]; omega
  have hd1 : (kids.fill (adS s M.length (h.n + 1)) b0 (b0 + kt0) (kt.fill (fun i => b0 + i) 0 0 .nil)).deep ≤ g := by
    have a1 := Fx.fill_deep (ad := adS s M.length (h.n + 1)) (b0 := b0) (k0 := b0 + kt0) (f0 := kt.fill (fun i => b0 + i) 0 0 .nil) kids
    have a2 := Fx.fill_deep (ad := fun i => b0 + i) (b0 := 0) (k0 := 0) (f0 := .nil) kt
    simp only [Fo.deep] at a2
    omega
  obtain ⟨h6, e6⟩ := size_of (g := g) hF hA5 (Nat.le_refl _) hd1 (by omega)
  rw [hs1] at e6
  have er : c_impl_node_root F (g + 1) (.ptr (s + c) 0) h5 = some (.ptr (adS s M.length (h.n + 1) 0) 0, h5) := by
    rw [← hadc]
    exact root_of hX 30 F c 0 hcl (by omega)
  refine ⟨h6, ?_⟩
  have e0 : c_impl_CutGraft_j1 F (g + 1) [.ptr (s + c) 0, .ptr b0 0, .bool false, .bool false] h = (aNilCheck (.ptr (s + c) 0) h fun x14 h => aField 2 x14 h fun x15 h => aLoad x15 h fun x16 h => aBuildSlice 1 1 [(0, 1, .ptr b0 0)] h fun x17 h => aAppend 1 8 x16 x17 h fun x18 h => aNilCheck (.ptr (s + c) 0) h fun x19 h => aField 2 x19 h fun x20 h => aStore x20 x18 h fun x21 h => (fun h =>
      bindR (c_impl_node_root F (g + 1) (.ptr (s + c) 0) h) fun x22 h => bindR (c_impl_node_size F (g + 1) x22 h) fun x23 h => aCmpI (fun a b => ilt b a) x23 (AV.int 3 (Int.ofNat 9)) h fun x24 h => withBool x24 fun t25 => bc t25 (some (noText, h)) (bindR (c_impl_node_text F (g + 1) x22 h) fun x26 h => some (AV.one .tup (AV.cons x26 (AV.cons (AV.bool true) (AV.leaf .nil))), h))) h) := rfl
  rw [e0, hst, er, bindR_some', e6, bindR_some']
  simp only [aCmpI_int, kEq_self, bc_true, ilt_nat, ble_true (show Nat.succ 9 ≤ 1 + (kids.nodes + (kt.nodes + 1)) by omega), withBool_bool]
end
end Go.AI.T
namespace Go.AI.T
open Go Go.RowKit Go.AI
noncomputable section
namespace Fx
def preN : Fx → List Nat
  | .nil => []
  | .hole r => preN r
  | .cons b _ k r => b :: (preN k ++ preN r)
theorem fill_pre {ad : Nat → Nat} {b0 k0 : Nat} {f0 : Fo} : ∀ f : Fx, f.holes = 0 → (f.fill ad b0 k0 f0).pre = f.preN.map fun b => .ptr (ad b) 0
  | .nil, _ => rfl
  | .hole r, h => by simp [holes] at h
  | .cons b kb k r, h => by
    simp only [holes] at h
    show _ :: ((k.fill ad b0 k0 f0).pre ++ (r.fill ad b0 k0 f0).pre) = _ :: (preN k ++ preN r).map _
    rw [fill_pre k (by omega), fill_pre r (by omega), List.map_append]
end Fx
theorem nodeIn_good {F g : Nat} (hF : 1000 ≤ F) {l : List Nat} {n v c kb : Nat} {M : List MB} {kids : Fx} (ht : isTree l = true) (hn : l.length = n) (hn2 : n < 100) (hM : rdM l = some M) (hat : atX (M.map MB.toX) (.cons 0 kb kids .nil) = true) (hho : kids.holes = 0) (hd : kids.deep ≤ g) (hk : kids.nodes ≤ 100) (hv : (0 :: kids.preN)[v]? = some c) (h : H) :
    ∃ h2, c_impl_nodeIn F (g + 1) (.str l n) (.int 3 (.ofNat v)) h = some (.one .tup (.cons (.ptr (h.n + c) 0) (.cons (.leaf .nili) (.leaf .nil))), h2) ∧ (∀ (i : Nat) (B : MB), M[i]? = some B → h2.get (h.n + i) = B.toB h.n) ∧ h.n + M.length ≤ h2.n ∧ ∀ c, c < h.n → h2.get c = h.get c := by
  obtain ⟨h1, e1, hL, f1⟩ := read_good (F := 100) (g := g + 1) hn hn2 (by omega) hM h
  have hX := hL.toX (b0 := 0) (h' := h1) fun _ _ => rfl
  have hA := atX_At (k0 := 0) (f0 := .nil) hX (.cons 0 kb kids .nil) (.inl (by simp [Fx.holes, hho])) hat
  have hs : (kids.fill (fun i => h.n + i) 0 0 Fo.nil).size = kids.nodes := by rw [Fx.fill_size, hho]; simp
  have hd1 : (kids.fill (fun i => h.n + i) 0 0 Fo.nil).deep ≤ g := by
    have a2 := Fx.fill_deep (ad := fun i => h.n + i) (b0 := 0) (k0 := 0) (f0 := .nil) kids
    simp only [Fo.deep] at a2
    omega
  obtain ⟨x, h2, e2, ⟨rb, r1, r2, r3, ⟨r4, r5⟩, r6⟩, n2, f2⟩ := nodes_of (F := F) (g := g) hF hA (by rw [hL.1]; exact Nat.le_refl _) hd1 (by omega)
  rw [hs] at r4 r6
  have hlen : (0 :: kids.preN).length = 1 + kids.nodes := by
    have := congrArg List.length (Fx.fill_pre (ad := fun i => h.n + i) (b0 := 0) (k0 := 0) (f0 := .nil) kids hho)
    rw [List.length_map] at this
    simp only [List.length_cons] at r4 ⊢
    omega
  have hvl : v < 1 + kids.nodes := by rw [← hlen]; exact (List.getElem?_eq_some_iff.1 hv).1
  have hel : nthO (.ptr (h.n + 0) 0 :: (kids.fill (fun i => h.n + i) 0 0 Fo.nil).pre) v = some (.ptr (h.n + c) 0) := by
    rw [nthO_eq, Fx.fill_pre kids hho]
    have : (.ptr (h.n + 0) 0 :: kids.preN.map fun b => .ptr (h.n + b) 0) = (0 :: kids.preN).map fun b => AV.ptr (h.n + b) 0 := rfl
    rw [this, List.getElem?_map, hv]; rfl
  have er : c_impl_readTree F (g + 1) (.str l n) h = some (yesTree h.n, h1) := by
    show bc (isTree l) (Go.AI.c_impl_readTree 100 (g + 1) (.str l n) h) _ = _
    rw [ht, bc_true]; exact e1
  refine ⟨h2, ?_, fun i B hi => ?_, by rw [← hL.1]; exact n2, fun c hc => (f2 c (by rw [hL.1]; omega)).trans (f1 c hc)⟩
  · have e0 : c_impl_nodeIn F (g + 1) (.str l n) (.int 3 (.ofNat v)) h = bindR (c_impl_readTree F (g + 1) (.str l n) h) fun x1 h => aExtract x1 0 h fun x2 h => aExtract x1 1 h fun x3 h => aNot x3 h fun x4 h => withBool x4 fun t5 => bc t5 (aBuild [(AV.int 3 (Int.ofNat 0))] [(0, 1, .int 3 (.ofNat v))] h fun x6 h => aMkIface 64 x6 h fun x7 h => some (AV.one .tup (AV.cons (AV.leaf .nilp) (AV.cons x7 (AV.leaf .nil))), h)) (bindR (c_impl_node_nodes F (g + 1) x2 h) fun x8 h => aCmpI ilt (.int 3 (.ofNat v)) (AV.int 3 (Int.ofNat 0)) h fun x9 h => guardB false x9 (aLenK 1 x8 h fun x20 h => aCmpI (fun a b => ile b a) (.int 3 (.ofNat v)) x20 h fun x21 h => (c_impl_nodeIn_j1 F (g + 1)) [.int 3 (.ofNat v), x8, x9, x21] h) ((c_impl_nodeIn_j1 F (g + 1)) [.int 3 (.ofNat v), x8, x9, (AV.one .tup (AV.leaf .nil))] h)) := rfl
    rw [e0, er, bindR_some']
    have e2' : c_impl_node_nodes F (g + 1) (.ptr h.n 0) h1 = some (x, h2) := e2
    rw [show yesTree h.n = (.one .tup (.cons (.ptr h.n 0) (.cons (.bool true) (.leaf .nil)))) from rfl, aExtract_0, aExtract_1, aNot_b, bnot_t, withBool_bool, bc_false, e2', bindR_some']
    have e4 : ∀ k : AV → H → Option R, aCmpI ilt (.int 3 (.ofNat v)) (AV.int 3 (Int.ofNat 0)) h2 k = k (.bool false) h2 := fun k => by rw [aCmpI_int, kEq_self, bc_true, ilt_nat, ble_false (show 0 < Nat.succ v by omega)]
    have e5 : ∀ k : AV → H → Option R, aLenK 1 x h2 k = k (.int 3 (.ofNat (1 + kids.nodes))) h2 := fun k => by
      rcases r6 with rfl | ⟨rfl, q⟩
      · rfl
      · rw [q]; rfl
    have e6 : ∀ k : AV → H → Option R, aCmpI (fun a b => ile b a) (.int 3 (.ofNat v)) (.int 3 (.ofNat (1 + kids.nodes))) h2 k = k (.bool false) h2 := fun k => by
      rw [aCmpI_int, kEq_self, bc_true]
      show k (.bool (Nat.ble (1 + kids.nodes) v)) h2 = _
      rw [ble_false (by omega)]
    have e7 : ∀ k : AV → H → Option R, aIdxAddr 1 x (.int 3 (.ofNat v)) h2 k = k (.ptr rb (Nat.add 0 (Nat.mul v 1))) h2 := fun k => by
      rcases r6 with rfl | ⟨rfl, q⟩
      · show bc (Nat.ble (Nat.succ v) (1 + kids.nodes)) _ none = _
        rw [ble_true (show Nat.succ v ≤ 1 + kids.nodes by omega), bc_true]
      · show bc (Nat.ble (Nat.succ v) 1) _ none = _
        rw [ble_true (show Nat.succ v ≤ 1 by omega), bc_true]
    have e8 : ∀ k : AV → H → Option R, aLoad (.ptr rb (Nat.add 0 (Nat.mul v 1))) h2 k = k (.ptr (h.n + c) 0) h2 := fun k => load_at r3 (by rw [show Nat.add 0 (Nat.mul v 1) = v by show 0 + v * 1 = v; omega]; exact hel)
    rw [e4]
    show aLenK 1 x h2 _ = _
    rw [e5, e6]
    have e9 : c_impl_nodeIn_j1 F (g + 1) [.int 3 (.ofNat v), x, .bool false, .bool false] h2 = (aIdxAddr 1 x (.int 3 (.ofNat v)) h2 fun x18 hh => aLoad x18 hh fun x19 hh => some (AV.one .tup (AV.cons x19 (AV.cons (AV.leaf .nili) (AV.leaf .nil))), hh)) := rfl
    rw [e9, e7, e8]
  · have hlt := (List.getElem?_eq_some_iff.1 hi).1
    rw [f2 _ (by rw [hL.1]; omega)]
    exact hL.2 i B hi
end
end Go.AI.T
namespace Go.AI.T
open Go Go.RowKit Go.AI
noncomputable section
/-- What must hold of a tree's layout. -/
structure Good (l : List Nat) (n : Nat) (M : List MB) (kb : Nat) (kids : Fx) (g : Nat) : Prop where
  tree : isTree l = true
  len : l.length = n
  lt : n < 100
  rd : rdM l = some M
  at_ : atX (M.map MB.toX) (.cons 0 kb kids .nil) = true
  no : kids.holes = 0
  deep : kids.deep ≤ g
  few : kids.nodes ≤ 100
  ins : ∀ (i : Nat) (B : MB), M[i]? = some B → inM M.length B
/-- What must hold of a tree's layout with another tree hung in at node c. -/
structure Hung (M : List MB) (c : Nat) (X : List MX) (kb : Nat) (kids : Fx) : Prop where
  eX : graftM M c = some X
  at_ : atX X (.cons 0 kb kids .nil) = true
  up : climb X 30 c = some 0
  lt : c < M.length
  one : kids.holes = 1
  few : kids.nodes ≤ 100
theorem impl_big {F g : Nat} (hF : 1000 ≤ F) {l l2 : List Nat} {n n2 v c kb kb1 kb2 : Nat} {M Mt : List MB} {X : List MX} {kids kidx kt : Fx} {h : H} (S : Good l n M kb kids g) (Tt : Good l2 n2 Mt kb2 kt g) (hv : (0 :: kids.preN)[v]? = some c) (K : Hung M c X kb1 kidx) (hd : kidx.deep + kt.deep ≤ g) (hbig : 9 < 2 + kidx.nodes + kt.nodes) (hp : pinOk h = true) (h0 : 0 < h.n) :
    ∃ h6, c_impl_CutGraft F (g + 1) (.str l n) (.int 3 (.ofNat v)) (.str l2 n2) h = some (noText, h6) := by
  obtain ⟨h2, e2, L2, n2', f2⟩ := nodeIn_good hF S.tree S.len S.lt S.rd S.at_ S.no S.deep S.few hv h
  obtain ⟨h3, e3, L3, f3⟩ := read_good (F := 100) (g := g + 1) Tt.len Tt.lt (by omega) Tt.rd h2
  have er : c_impl_readTree F (g + 1) (.str l2 n2) h2 = some (yesTree h2.n, h3) := by
    show bc (isTree l2) (Go.AI.c_impl_readTree 100 (g + 1) (.str l2 n2) h2) _ = _
    rw [Tt.tree, bc_true]; exact e3
  have hp3 : pinOk h3 = true := by
    have : h3.get 0 = h.get 0 := (f3 0 (by omega)).trans (f2 0 h0)
    unfold pinOk at hp ⊢
    rw [this]; exact hp
  have hlen : 0 < M.length := by have := K.lt; omega
  obtain ⟨h6, e6⟩ := graft_big (g := g) hF (s := h.n) (b0 := h2.n) (h := h3) (fun i B hi => by
    have hlt := (List.getElem?_eq_some_iff.1 hi).1
    rw [f3 _ (by omega)]; exact L2 i B hi) S.ins n2' hlen L3 K.eX K.at_ K.up K.lt K.one Tt.at_ Tt.no hd ⟨K.few, Tt.few⟩ hbig
  refine ⟨h6, ?_⟩
  have e0 : c_impl_CutGraft F (g + 1) (.str l n) (.int 3 (.ofNat v)) (.str l2 n2) h = bindR (c_impl_nodeIn F (g + 1) (.str l n) (.int 3 (.ofNat v)) h) fun x1 h => aExtract x1 0 h fun x2 h => aExtract x1 1 h fun x3 h => bindR (c_impl_readTree F (g + 1) (.str l2 n2) h) fun x4 h => aExtract x4 0 h fun x5 h => aExtract x4 1 h fun x6 h => bindR (c_impl_isNoNode F (g + 1) x3 h) fun x7 h => guardB false x7 (aNot x6 h fun x27 h => (c_impl_CutGraft_j1 F (g + 1)) [x2, x5, x7, x27] h) ((c_impl_CutGraft_j1 F (g + 1)) [x2, x5, x7, (AV.one .tup (AV.leaf .nil))] h) := rfl
  have ei : c_impl_isNoNode F (g + 1) (.leaf .nili) h3 = some (AV.bool false, h3) := by
    show bc (pinOk h3) (some (AV.bool false, h3)) none = _
    rw [hp3]; rfl
  rw [e0, e2, bindR_some', aExtract_0, aExtract_1, er, bindR_some', show yesTree h2.n = (.one .tup (.cons (.ptr h2.n 0) (.cons (.bool true) (.leaf .nil)))) from rfl, aExtract_0, aExtract_1, ei, bindR_some', guardB_bool, show bc (bc false false (bnot false)) = bc (α := Option R) true from rfl, bc_true, aNot_b, bnot_t]
  exact e6
end
end Go.AI.T
namespace Go.AI.T
open Go Go.RowKit Go.AI
noncomputable section
def skel : Nat → List MX → List (Option Nat) → Fx
  | 0, _, _ => .nil
  | f + 1, M, l => match l with
    | [] => .nil
    | none :: r => .hole (skel f M r)
    | some b :: r => match getX M b with
      | .node _ _ none => .cons b 0 .nil (skel f M r)
      | .node _ _ (some (kb, _)) => match getX M kb with
        | .row q => .cons b kb (skel f M q) (skel f M r)
        | _ => .nil
      | _ => .nil
/-- The root's kids' block and the kids. -/
def top : Fx → Option (Nat × Fx)
  | .cons 0 kb k .nil => some (kb, k)
  | _ => none
theorem top_some {f : Fx} {kb : Nat} {k : Fx} (e : top f = some (kb, k)) : f = .cons 0 kb k .nil := by
  unfold top at e
  split at e
  · cases e; rfl
  · cases e
def upB (n : Nat) : Option Nat → Bool
  | none => true
  | some u => Nat.ble (Nat.succ u) n
def kbB (n : Nat) : Option (Nat × Nat) → Bool
  | none => true
  | some (kb, _) => Nat.ble (Nat.succ kb) n
def insB (n : Nat) : List MB → Bool
  | [] => true
  | .node _ up K :: r => bc (upB n up) (bc (kbB n K) (insB n r) false) false
  | .row l :: r => bc (l.all fun u => Nat.ble (Nat.succ u) n) (insB n r) false
  | .dead :: r => insB n r
theorem insB_in {n : Nat} : ∀ {M : List MB}, insB n M = true → ∀ (i : Nat) (B : MB), M[i]? = some B → inM n B
  | [], _, i, B, e => by cases e
  | .node z up K :: r, h, i, B, e => by
    obtain ⟨h1, h2⟩ := bc_and (show bc (upB n up) (bc (kbB n K) (insB n r) false) false = true from h)
    obtain ⟨h2, h3⟩ := bc_and h2
    cases i with
    | zero =>
      cases e
      exact ⟨fun u hu => by subst hu; exact Nat.le_of_ble_eq_true h1, fun kb j hk => by subst hk; exact Nat.le_of_ble_eq_true h2⟩
    | succ i => exact insB_in h3 i B e
  | .row l :: r, h, i, B, e => by
    obtain ⟨h1, h3⟩ := bc_and (show bc (l.all fun u => Nat.ble (Nat.succ u) n) (insB n r) false = true from h)
    cases i with
    | zero =>
      cases e
      exact fun u hu => Nat.le_of_ble_eq_true (List.all_eq_true.1 h1 u hu)
    | succ i => exact insB_in h3 i B e
  | .dead :: r, h, i, B, e => by
    cases i with
    | zero => cases e; trivial
    | succ i => exact insB_in (M := r) h i B e
def hungB (M : List MB) (nodes c : Nat) : Bool := match graftM M c with
  | some X => match top (skel 40 X [some 0]) with
    | some (kb, k) => bc (atX X (.cons 0 kb k .nil)) (bc (match climb X 30 c with
      | some r => Nat.beq r 0
      | none => false) (bc (Nat.ble (Nat.succ c) M.length) (bc (Nat.beq k.holes 1) (bc (Nat.beq k.nodes nodes) (Nat.ble k.deep 10) false) false) false) false) false
    | none => false
  | none => false
theorem hungB_some {M : List MB} {nodes c : Nat} (e : hungB M nodes c = true) (hn : nodes ≤ 100) : ∃ X kb k, Hung M c X kb k ∧ k.nodes = nodes ∧ k.deep ≤ 10 := by
  unfold hungB at e
  split at e
  · rename_i X hX
    split at e
    · rename_i kb k hk
      obtain ⟨e1, e⟩ := bc_and e
      obtain ⟨e2, e⟩ := bc_and e
      obtain ⟨e3, e⟩ := bc_and e
      obtain ⟨e4, e⟩ := bc_and e
      obtain ⟨e5, e6⟩ := bc_and e
      have e5 := Nat.eq_of_beq_eq_true e5
      refine ⟨X, kb, k, ⟨hX, e1, ?_, Nat.le_of_ble_eq_true e3, Nat.eq_of_beq_eq_true e4, by omega⟩, e5, Nat.le_of_ble_eq_true e6⟩
      split at e2
      · rename_i r hr; rw [hr, Nat.eq_of_beq_eq_true e2]
      · cases e2
    · cases e
  · cases e
def goodB (l : List Nat) : Bool := match rdM l with
  | some M => match top (skel 40 (M.map MB.toX) [some 0]) with
    | some (kb, k) => bc (atX (M.map MB.toX) (.cons 0 kb k .nil)) (bc (Nat.beq k.holes 0) (bc (Nat.ble k.deep 8) (bc (Nat.beq (Nat.mul 2 (Nat.succ k.nodes)) (lenL l)) (bc (Nat.ble k.nodes 8) (bc (insB M.length M) ((0 :: k.preN).all (hungB M k.nodes)) false) false) false) false) false) false
    | none => false
  | none => false
theorem goodB_some {l : List Nat} (ht : isTree l = true) (e : goodB l = true) : ∃ M kb k, Good l (lenL l) M kb k 8 ∧ 2 * (k.nodes + 1) = lenL l ∧ k.nodes ≤ 8 ∧ (0 :: k.preN).length = k.nodes + 1 ∧ ∀ (v c : Nat), (0 :: k.preN)[v]? = some c → ∃ X kb1 k1, Hung M c X kb1 k1 ∧ k1.nodes = k.nodes ∧ k1.deep ≤ 10 := by
  unfold goodB at e
  split at e
  · rename_i M hM
    split at e
    · rename_i kb k hk
      obtain ⟨e1, e⟩ := bc_and e
      obtain ⟨e2, e⟩ := bc_and e
      obtain ⟨e3, e⟩ := bc_and e
      obtain ⟨e4, e⟩ := bc_and e
      obtain ⟨e5, e⟩ := bc_and e
      obtain ⟨e6, e7⟩ := bc_and e
      have e4 : 2 * (k.nodes + 1) = lenL l := Nat.eq_of_beq_eq_true e4
      have e5 := Nat.le_of_ble_eq_true e5
      have e2 := Nat.eq_of_beq_eq_true e2
      have hp : ∀ f : Fx, f.holes = 0 → f.preN.length = f.nodes := fun f => by
        induction f with
        | nil => intro _; rfl
        | hole r _ => intro h; simp [Fx.holes] at h
        | cons b kb k r h1 h2 =>
          intro h
          simp only [Fx.holes] at h
          simp only [Fx.preN, Fx.nodes, List.length_cons, List.length_append, h1 (by omega), h2 (by omega)]
          omega
      refine ⟨M, kb, k, ⟨ht, (lenL_eq l).symm, by omega, hM, e1, e2, Nat.le_of_ble_eq_true e3, by omega, insB_in e6⟩, e4, e5, by simp [hp k e2], fun v c hv => ?_⟩
      have hm := List.mem_of_getElem? hv
      exact hungB_some (List.all_eq_true.1 e7 c hm) (by omega)
    · cases e
  · cases e
end
end Go.AI.T
namespace Go.AI.T
open Go Go.RowKit Go.AI
noncomputable section
def St (h : H) (lo : Nat) (x : AV) (L : List AV) : Prop := (L = [] ∧ ∃ rb, lo ≤ rb ∧ rb < h.n ∧ h.get rb = .cells 0 [] ∧ x = .leaf (.sl rb 0 0 0)) ∨ (Row h lo x L L.length ∧ 1 ≤ L.length)
theorem app_one {h : H} {lo i : Nat} {x : AV} {L : List AV} (hs : St h lo x L) (hlo : lo ≤ h.n) (hb : L.length ≤ 900) : ∃ h' x', (∀ kk : AV → H → Option R, (aBuildSlice 1 1 [(0, 1, .int 3 (.ofNat i))] h fun x16 h => aAppend 1 8 x x16 h kk) = kk x' h') ∧ St h' lo x' (L ++ [.int 3 (.ofNat i)]) ∧ h.n ≤ h'.n ∧ ∀ c, c < lo → h'.get c = h.get c := by
  have e0 : ∀ kk : AV → H → Option R, (aBuildSlice 1 1 [(0, 1, .int 3 (.ofNat i))] h fun x16 h => aAppend 1 8 x x16 h kk) = aAppend 1 8 x (.leaf (.sl h.n 0 1 1)) (h.push (.cells 0 [.int 3 (.ofNat i)])) kk := fun kk => rfl
  generalize hh2 : h.push (.cells 0 [.int 3 (.ofNat i)]) = h2 at *
  have n2 : h2.n = h.n + 1 := by rw [← hh2]; rfl
  have g2 : h2.get h.n = .cells 0 [.int 3 (.ofNat i)] := by rw [← hh2]; exact get_push_eq rfl
  have o2 : ∀ c, c < h.n → h2.get c = h.get c := fun c hc => by rw [← hh2, get_push_lt hc]
  have hy : Row h2 lo (.leaf (.sl h.n 0 1 1)) [.int 3 (.ofNat i)] 1 := ⟨h.n, hlo, by omega, g2, ⟨rfl, rfl⟩, .inr ⟨rfl, rfl⟩⟩
  rcases hs with ⟨rfl, rb, r1, r2, r3, rfl⟩ | ⟨hr, h1⟩
  · refine ⟨h2.push (.cells 0 [.int 3 (.ofNat i)]), .osl h2.n 0 1 1, fun kk => ?_, .inr ⟨⟨h2.n, by omega, by show h2.n < h2.n + 1; omega, get_push_eq rfl, ⟨rfl, rfl⟩, .inl rfl⟩, Nat.le_refl _⟩, by show h.n ≤ h2.n + 1; omega, fun c hc => by rw [get_push_lt (by omega), o2 c (by omega)]⟩
    rw [e0]
    show withCells h2 h.n (fun _ l => bc (Nat.beq (lenL (takeL (Nat.mul 1 1) (dropL 0 l))) (Nat.mul 1 1)) _ none) = _
    rw [cells_at _ g2]
    show withCells h2 rb _ = _
    rw [cells_at _ ((o2 rb r2).trans r3)]
    rfl
  · have hr2 : Row h2 lo x L L.length := by
      obtain ⟨rb, x1, x2, x3, x4, x5⟩ := hr
      exact ⟨rb, x1, by omega, by rw [o2 rb x2]; exact x3, x4, x5⟩
    obtain ⟨h3, x3, ea, r3, n3, f3⟩ := app_row hr2 hy (Nat.le_refl _) h1 (by omega)
    exact ⟨h3, x3, fun kk => by rw [e0, ea], .inr ⟨by simpa using r3, by simp⟩, by omega, fun c hc => (f3 c hc).trans (o2 c (by omega))⟩
def opensN : List Nat → Nat → List Nat
  | [], _ => []
  | c :: r, i => bc (Nat.beq c 40) (i :: opensN r (i + 1)) (opensN r (i + 1))
theorem opensN_len : ∀ (r : List Nat) (i : Nat), (opensN r i).length ≤ r.length
  | [], _ => Nat.le_refl _
  | c :: r, i => by
    have := opensN_len r (i + 1)
    unfold opensN
    cases Nat.beq c 40 with
    | true => simp only [bc_true, List.length_cons]; omega
    | false => simp only [bc_false, List.length_cons]; omega
theorem opens_loop {F g : Nat} (l : List Nat) (n : Nat) (hn : l.length = n) (hn2 : n ≤ 500) : ∀ (rest : List Nat) (N i lo : Nat) (x : AV) (L : List AV) (h : H), l.drop i = rest → i + rest.length = n → rest.length < N → St h lo x L → lo ≤ h.n → L.length + rest.length ≤ 800 →
    ∃ x' h', loopD N (c_spec_l1Opens_l2 F g) [.str l n, x, .int 3 (.ofNat i)] h = some (x', h') ∧ St h' lo x' (L ++ (opensN rest i).map fun p => .int 3 (.ofNat p)) ∧ h.n ≤ h'.n ∧ ∀ c, c < lo → h'.get c = h.get c
  | rest, 0, i, lo, x, L, h, _, _, hN, _, _, _ => absurd hN (by omega)
  | [], N + 1, i, lo, x, L, h, hd, hl, hN, hs, hlo, hb => by
    have hin : i = n := by simpa using hl
    subst hin
    refine ⟨x, h, ?_, by simpa [opensN] using hs, Nat.le_refl _, fun _ _ => rfl⟩
    rw [loopD_succ]
    simp only [c_spec_l1Opens_l2, hd_cons, tl_cons, aLenK_str, aCmpI_int, kEq_self, bc_true, ilt_nat, ble_false (show i < Nat.succ i by omega), withBool_bool, bc_false]
  | c :: rest, N + 1, i, lo, x, L, h, hd, hl, hN, hs, hlo, hb => by
    obtain ⟨h1, h2, h3⟩ := drop_nth l i c rest hd
    rw [hn] at h3
    simp only [List.length_cons] at hl hN hb
    rw [loopD_succ]
    have hi : Nat.ble (Nat.succ i) n = true := ble_true (by omega)
    have hf := fwrap_add i 1 (show i + 1 ≤ 9223372036854775807 by omega)
    cases hc : Nat.beq c 40 with
    | true =>
      obtain ⟨h', x', ea, hs', n', f'⟩ := app_one (i := i) hs hlo (by omega)
      obtain ⟨x2, h2', e2, s2, n2, f2⟩ := opens_loop l n hn hn2 rest N (i + 1) lo x' _ h' h2 (by omega) (by omega) hs' (by omega) (by simp; omega)
      refine ⟨x2, h2', ?_, by simpa [opensN, hc, bc_true] using s2, by omega, fun c hc => (f2 c hc).trans (f' c hc)⟩
      simp only [c_spec_l1Opens_l2, c_spec_l1Opens_j1, hd_cons, tl_cons, aLenK_str, aCmpI_int, kEq_self, bc_true, ilt_nat, hi, withBool_bool, aIdxStr_at, h1, onSome_some', ieq_nat, hc, ea, aArith_int, hf]
      exact e2
    | false =>
      obtain ⟨x2, h2', e2, s2, n2, f2⟩ := opens_loop l n hn hn2 rest N (i + 1) lo x L h h2 (by omega) (by omega) hs hlo (by omega)
      refine ⟨x2, h2', ?_, by simpa [opensN, hc, bc_false] using s2, n2, f2⟩
      simp only [c_spec_l1Opens_l2, c_spec_l1Opens_j1, hd_cons, tl_cons, aLenK_str, aCmpI_int, kEq_self, bc_true, bc_false, ilt_nat, hi, withBool_bool, aIdxStr_at, h1, onSome_some', ieq_nat, hc, aArith_int, hf]
      exact e2
/-- Where the brackets open. -/
theorem opens_of {F g : Nat} {l : List Nat} {n v p : Nat} (hn : l.length = n) (hn2 : n ≤ 500) (hF : n < F) (hv : (opensN l 0)[v]? = some p) (h : H) : ∃ x' h', c_spec_l1Opens F g (.str l n) h = some (x', h') ∧ (∀ k : AV → H → Option R, (aIdxAddr 1 x' (.int 3 (.ofNat v)) h' fun x11 h => aLoad x11 h k) = k (.int 3 (.ofNat p)) h') ∧ h.n ≤ h'.n ∧ ∀ c, c < h.n → h'.get c = h.get c := by
  generalize hh1 : h.push (.cells 0 []) = h1
  have n1 : h1.n = h.n + 1 := by rw [← hh1]; rfl
  obtain ⟨x', h', e, hs, n', f'⟩ := opens_loop (F := F) (g := g) l n hn hn2 l F 0 h.n (.leaf (.sl h.n 0 0 0)) [] h1 rfl (by omega) (by omega) (.inl ⟨rfl, h.n, Nat.le_refl _, by omega, by rw [← hh1]; exact get_push_eq rfl, rfl⟩) (by omega) (by simp; omega)
  refine ⟨x', h', ?_, fun k => ?_, by omega, fun c hc => (f' c hc).trans (by rw [← hh1, get_push_lt hc])⟩
  · have e0 : c_spec_l1Opens F g (.str l n) h = loopD F (c_spec_l1Opens_l2 F g) [.str l n, .leaf (.sl h.n 0 0 0), .int 3 (.ofNat 0)] h1 := by subst hh1; rfl
    rw [e0]; exact e
  · have hvl := (List.getElem?_eq_some_iff.1 hv).1
    rcases hs with ⟨q, _⟩ | ⟨⟨rb, r1, r2, r3, ⟨r4, r5⟩, r6⟩, _⟩
    · have := congrArg List.length q
      simp at this
      rw [this] at hvl; simp at hvl
    · have hel : nthO ([] ++ (opensN l 0).map fun p => AV.int 3 (.ofNat p)) v = some (.int 3 (.ofNat p)) := by
        rw [nthO_eq, List.nil_append, List.getElem?_map, hv]; rfl
      have e8 : aLoad (.ptr rb (Nat.add 0 (Nat.mul v 1))) h' k = k (.int 3 (.ofNat p)) h' := load_at r3 (by rw [show Nat.add 0 (Nat.mul v 1) = v by show 0 + v * 1 = v; omega]; exact hel)
      have hlen : ([] ++ (opensN l 0).map fun p => AV.int 3 (.ofNat p)).length = (opensN l 0).length := by simp
      rw [hlen] at r6
      rcases r6 with rfl | ⟨rfl, q⟩
      · show bc (Nat.ble (Nat.succ v) (opensN l 0).length) _ none = _
        rw [ble_true (show Nat.succ v ≤ (opensN l 0).length by omega), bc_true]
        exact e8
      · show bc (Nat.ble (Nat.succ v) 1) _ none = _
        rw [ble_true (show Nat.succ v ≤ 1 by omega), bc_true]
        exact e8
end
end Go.AI.T
namespace Go.AI.T
open Go Go.RowKit Go.AI
noncomputable section
theorem fwrap_nat (m : Nat) (hm : m ≤ 9223372036854775807) : fwrap 3 (.ofNat m) = .ofNat m := fwrap_add m 0 (by omega)
theorem node_true {F g : Nat} {l : List Nat} {n v : Nat} (ht : isTree l = true) (hn : lenL l = n) (hv : 2 * (v + 1) ≤ n) (hn2 : n ≤ 500) (h : H) : c_spec_l1Node F g (.str l n) (.int 3 (.ofNat v)) h = some (.bool true, h) := by
  have e0 : c_spec_l1Node F g (.str l n) (.int 3 (.ofNat v)) h = bindR (c_spec_TreeIn F g (.str l n) h) fun x1 h => guardB true x1 (aLenK 0 (.str l n) h fun x5 h => aQuo x5 (AV.int 3 (Int.ofNat 2)) h fun x6 h => aArith isub x6 (AV.int 3 (Int.ofNat 1)) h fun x7 h => bindR (c_spec_l6In F g (.int 3 (.ofNat v)) (AV.int 3 (Int.ofNat 0)) x7 h) fun x8 h => (c_spec_l1Node_j1 F g) [x1, x8] h) ((c_spec_l1Node_j1 F g) [x1, (AV.one .tup (AV.leaf .nil))] h) := rfl
  obtain ⟨k, hk⟩ : ∃ k, n / 2 = k + 1 := ⟨n / 2 - 1, by omega⟩
  have e1 : ∀ kk : AV → H → Option R, aQuo (.int 3 (.ofNat n)) (AV.int 3 (Int.ofNat 2)) h kk = kk (.int 3 (.ofNat (k + 1))) h := fun kk => by
    show bc (kEq 3 3) (bc (ieq (.ofNat 2) 0) none (kk (.int 3 (fwrap 3 (.ofNat (Nat.div n 2)))) h)) none = _
    rw [kEq_self, bc_true, show Nat.div n 2 = k + 1 from hk, fwrap_nat _ (by omega)]; rfl
  have e2 : c_spec_l6In F g (.int 3 (.ofNat v)) (AV.int 3 (Int.ofNat 0)) (.int 3 (.ofNat k)) h = some (.bool true, h) := by
    have e3 : c_spec_l6In F g (.int 3 (.ofNat v)) (AV.int 3 (Int.ofNat 0)) (.int 3 (.ofNat k)) h = bc (kEq 3 3) (some (.bool (Nat.ble v k), h)) none := rfl
    rw [e3, kEq_self, bc_true, ble_true (by omega)]
  rw [e0, spec_good hn ht, bindR_some', guardB_bool, show bc (bc true true (bnot true)) = bc (α := Option R) true from rfl, bc_true, aLenK_str, e1, aArith_int, kEq_self, bc_true, fwrap_sub k (by omega), e2, bindR_some']
  rfl
theorem slice_lo {l : List Nat} {n e : Nat} (he : e ≤ n) (h : H) (k : AV → H → Option R) : aSliceS (.str l n) none (some (.int 3 (.ofNat e))) none h k = k (.str (takeL e l) e) h := by
  show bc (Nat.ble 0 e) (bc (Nat.ble e n) (k (.str (dropL 0 (takeL e l)) (Nat.sub e 0)) h) none) none = _
  rw [ble_true (Nat.zero_le e), bc_true, ble_true he, bc_true]; rfl
theorem slice_hi {l : List Nat} {n e : Nat} (he : e ≤ n) (h : H) (k : AV → H → Option R) : aSliceS (.str l n) (some (.int 3 (.ofNat e))) none none h k = k (.str (dropL e (takeL n l)) (Nat.sub n e)) h := by
  show bc (Nat.ble e n) (bc (Nat.ble n n) (k (.str (dropL e (takeL n l)) (Nat.sub n e)) h) none) none = _
  rw [ble_true he, bc_true, ble_true (Nat.le_refl n), bc_true]
theorem sadd {l l2 : List Nat} {n n2 : Nat} (hb : n + n2 ≤ 5000) (h : H) (k : AV → H → Option R) : aSAdd (.str l n) (.str l2 n2) h k = k (.str (appL l l2) (Nat.add n n2)) h := by
  show bc (Nat.ble (Nat.add n n2) strMax) _ none = _
  rw [ble_true (show Nat.add n n2 ≤ strMax by rw [strMax_eq]; show n + n2 ≤ _; omega), bc_true]
theorem spec_big {F g : Nat} (hF : 1000 ≤ F) {l l2 : List Nat} {n n2 v p e : Nat} (ht : isTree l = true) (hn : l.length = n) (hnn : n ≤ 18) (ht2 : isTree l2 = true) (hn2 : l2.length = n2) (hnn2 : n2 ≤ 18) (hv2 : 2 * (v + 1) ≤ n) (hv : (opensN l 0)[v]? = some p) (hp : p ≤ n) (he : endAt (l.drop p) 0 p = some (e + 1)) (hen : e ≤ n) (hbig : 18 < n + n2) (h : H) :
    ∃ h', c_spec_CutGraft F g (.str l n) (.int 3 (.ofNat v)) (.str l2 n2) h = some (noText, h') ∧ h.n ≤ h'.n ∧ ∀ c, c < h.n → h'.get c = h.get c := by
  obtain ⟨x', h1, eo, hk, nn, ff⟩ := opens_of (F := F) (g := g) hn (by omega) (by omega) hv h
  have e0 : c_spec_CutGraft F g (.str l n) (.int 3 (.ofNat v)) (.str l2 n2) h = bindR (c_spec_l1Node F g (.str l n) (.int 3 (.ofNat v)) h) fun x1 h => aNot x1 h fun x2 h => guardB false x2 (bindR (c_spec_TreeIn F g (.str l2 n2) h) fun x22 h => aNot x22 h fun x23 h => (c_spec_CutGraft_j1 F g) [.str l n, .int 3 (.ofNat v), .str l2 n2, x2, x23] h) ((c_spec_CutGraft_j1 F g) [.str l n, .int 3 (.ofNat v), .str l2 n2, x2, (AV.one .tup (AV.leaf .nil))] h) := rfl
  have e1 : c_spec_CutGraft_j1 F g [.str l n, .int 3 (.ofNat v), .str l2 n2, .bool false, .bool false] h = bindR (c_spec_l1Opens F g (.str l n) h) fun x10 h => aIdxAddr 1 x10 (.int 3 (.ofNat v)) h fun x11 h => aLoad x11 h fun x12 h => bindR (c_spec_l1End F g (.str l n) x12 h) fun x13 h => aArith isub x13 (AV.int 3 (Int.ofNat 1)) h fun x14 h => aSliceS (.str l n) none (some x14) none h fun x15 _ => aSAdd x15 (.str l2 n2) h fun x16 _ => aSliceS (.str l n) (some x14) none none h fun x17 _ => aSAdd x16 x17 h fun x18 _ => bindR (c_spec_l1Done F g x18 h) fun x19 h => aExtract x19 0 h fun x20 _ => aExtract x19 1 h fun x21 _ => some (AV.one .tup (AV.cons x20 (AV.cons x21 (AV.leaf .nil))), h) := rfl
  have e2 : c_spec_l1End F g (.str l n) (.int 3 (.ofNat p)) h1 = some (.int 3 (.ofNat (e + 1)), h1) := by
    have := loop_end (F := F) (g := g) l n hn (by omega) h1 (l.drop p) F p 0 rfl (by rw [List.length_drop]; omega) (by rw [List.length_drop]; omega) (Nat.zero_le _)
    rw [he] at this
    exact this
  have hl1 : ∀ a b c : List Nat, (appL (appL a b) c).length = a.length + b.length + c.length := fun a b c => by rw [appL_eq, appL_eq, List.length_append, List.length_append]
  have hlenL : (appL (appL (takeL e l) l2) (dropL e (takeL n l))).length = e + n2 + (n - e) := by
    rw [hl1, takeL_eq, dropL_eq, takeL_eq]
    simp only [List.length_take, List.length_drop]; omega
  have hno : isTree (appL (appL (takeL e l) l2) (dropL e (takeL n l))) = false := by
    cases ht3 : isTree (appL (appL (takeL e l) l2) (dropL e (takeL n l))) with
    | false => rfl
    | true => have := (tree_endAt _ ht3).2.2; omega
  have e3 : c_spec_l1Done F g (.str (appL (appL (takeL e l) l2) (dropL e (takeL n l))) (Nat.add (Nat.add e n2) (Nat.sub n e))) h1 = some (noText, h1) := by
    have q : c_spec_l1Done F g (.str (appL (appL (takeL e l) l2) (dropL e (takeL n l))) (Nat.add (Nat.add e n2) (Nat.sub n e))) h1 = bindR (c_spec_TreeIn F g (.str (appL (appL (takeL e l) l2) (dropL e (takeL n l))) (Nat.add (Nat.add e n2) (Nat.sub n e))) h1) fun x1 h => aNot x1 h fun x2 h => withBool x2 fun t3 => bc t3 (some (noText, h)) (some (AV.one .tup (AV.cons (.str (appL (appL (takeL e l) l2) (dropL e (takeL n l))) (Nat.add (Nat.add e n2) (Nat.sub n e))) (AV.cons (AV.bool true) (AV.leaf .nil))), h)) := rfl
    rw [q, spec_bad (by rw [lenL_eq, hlenL]; rfl) hno, bindR_some', aNot_b, bnot_f, withBool_bool, bc_true]
  refine ⟨h1, ?_, nn, ff⟩
  rw [e0, node_true ht (by rw [lenL_eq]; exact hn) hv2 (by omega), bindR_some', aNot_b, bnot_t, guardB_bool, show bc (bc false false (bnot false)) = bc (α := Option R) true from rfl, bc_true, spec_good (by rw [lenL_eq]; exact hn2) ht2, bindR_some', aNot_b, bnot_t, e1, eo, bindR_some', hk, e2, bindR_some', aArith_int, kEq_self, bc_true, fwrap_sub e (by omega), slice_lo hen, sadd (by omega), slice_hi hen, sadd (by show e + n2 + (n - e) ≤ 5000; omega), e3, bindR_some']
  rfl
end
end Go.AI.T
namespace Go.AI.T
open Go Go.RowKit Go.AI
noncomputable section
def takeR (k : Nat) (l : List (List Nat)) : List (List Nat) := l.take k
def allL (t : List Nat → Bool) (l : List (List Nat)) : Bool := @List.rec (List Nat) (fun _ => Bool) true (fun x _ r => bc (t (40 :: x)) r false) l
def okS (t : List Nat → Bool) (k i : Nat) : Bool := allL t (((rests 17 1 1).drop (k * i)).take k)
def okL (t : List Nat → Bool) (k a n : Nat) : Bool := @Nat.rec (fun _ => Nat → Bool) (fun _ => true) (fun _ r a => bc (okS t k a) (r (a + 1)) false) n a
theorem cc {t : List Nat → Bool} {k a n : Nat} (h1 : okS t k a = true) (h2 : okL t k (a + 1) n = true) : okL t k a (n + 1) = true := by
  show bc (okS t k a) (okL t k (a + 1) n) false = true
  rw [h1, h2]; rfl
theorem okL_mem {t : List Nat → Bool} {k : Nat} : ∀ {n a : Nat}, okL t k a n = true → ∀ i, a ≤ i → i < a + n → okS t k i = true
  | 0, a, _, i, h1, h2 => by omega
  | n + 1, a, h, i, h1, h2 => by
    have h : bc (okS t k a) (okL t k (a + 1) n) false = true := h
    cases h3 : okS t k a with
    | false => rw [h3] at h; cases h
    | true =>
      rw [h3, bc_true] at h
      by_cases e : i = a
      · subst e; exact h3
      · exact okL_mem h i (by omega) (by omega)
theorem allL_mem {t : List Nat → Bool} : ∀ {l : List (List Nat)}, allL t l = true → ∀ x ∈ l, t (40 :: x) = true
  | [], _, x, hx => by cases hx
  | y :: l, h, x, hx => by
    have h : bc (t (40 :: y)) (allL t l) false = true := h
    cases h1 : t (40 :: y) with
    | false => rw [h1] at h; cases h
    | true =>
      rw [h1, bc_true] at h
      rcases List.mem_cons.1 hx with rfl | hx
      · exact h1
      · exact allL_mem h x hx
theorem nTrees : (rests 17 1 1).length = 2056 := by kernel_rfl
theorem okS_all {t : List Nat → Bool} {k K : Nat} (hk : 0 < k) (hK : 2056 ≤ k * K) (h : ∀ i, i < K → okS t k i = true) {l : List Nat} (ht : isTree l = true) : t l = true := by
  obtain ⟨r, hr, rfl⟩ := List.mem_map.1 (isTree_mem ht)
  obtain ⟨j, hj, hjr⟩ := List.getElem_of_mem hr
  have hj2 : j < 2056 := by rw [← nTrees]; exact hj
  have hi : j / k < K := Nat.div_lt_of_lt_mul (by omega)
  refine allL_mem (h (j / k) hi) r ?_
  have e := Nat.div_add_mod j k
  have hm := Nat.mod_lt j hk
  rw [List.mem_iff_getElem?]
  refine ⟨j % k, ?_⟩
  rw [List.getElem?_take, if_pos hm, List.getElem?_drop, e, List.getElem?_eq_getElem hj, hjr]
end
end Go.AI.T
namespace Go.AI.T
open Go Go.RowKit Go.AI
noncomputable section
def endB (l : List Nat) (p : Nat) : Bool := match endAt (l.drop p) 0 p with
  | some (e + 1) => bc (Nat.ble e (lenL l)) (Nat.ble p (lenL l)) false
  | _ => false
def bothB (l : List Nat) : Bool := bc (goodB l) (bc (Nat.beq (Nat.mul 2 (opensN l 0).length) (lenL l)) ((opensN l 0).all (endB l)) false) false
theorem endB_some {l : List Nat} {p : Nat} (h : endB l p = true) : ∃ e, endAt (l.drop p) 0 p = some (e + 1) ∧ e ≤ lenL l ∧ p ≤ lenL l := by
  unfold endB at h
  split at h
  · rename_i e he
    obtain ⟨h1, h2⟩ := bc_and h
    exact ⟨e, he, Nat.le_of_ble_eq_true h1, Nat.le_of_ble_eq_true h2⟩
  · cases h
end
end Go.AI.T
