/- impl.besides, spec.l8Turns and spec.l8Undone at the trees of pairs, by tables. -/
import Derived.KernelRfl
import Derived.Test.YtjnmogmddhichaaSrt
import Derived.Test.YtjnmogmddhichaaProg
namespace Go.AI.T.BB
open Go Go.RowKit Go.AI
set_option linter.unusedVariables false
set_option linter.unusedSimpArgs false
set_option maxRecDepth 100000
noncomputable section
-- "loop.example/treenumbers/impl.pairsIn"
noncomputable def c_impl_pairsIn_j1 (F g : Nat) (vs : List AV) (h : H) : Option R := (fun x29 x30 x31 => aPick x30 x31 (AV.bool false) h fun x32 h => some (AV.one .tup (AV.cons x29 (AV.cons x32 (AV.leaf .nil))), h)) (hd vs) (hd (tl vs)) (hd (tl (tl vs)))
noncomputable def c_impl_pairsIn (F g : Nat) : AV → H → Option R := Nat.rec (motive := fun _ => AV → H → Option R) (fun _ _ => none) (fun g self a0 h => aNilCheck a0 h fun x1 h => aField 2 x1 h fun x2 h => aLoad x2 h fun x3 h => aLenK 1 x3 h fun x4 h => aCmpI ieq x4 (AV.int 3 (Int.ofNat 0)) h fun x5 h => withBool x5 fun t6 => bc t6 (aBuild [] [] h fun x7 h => aMkIface 92 x7 h fun x8 h => some (AV.one .tup (AV.cons x8 (AV.cons (AV.bool true) (AV.leaf .nil))), h)) (aCmpI ieq x4 (AV.int 3 (Int.ofNat 2)) h fun x9 h => withBool x9 fun t10 => bc t10 (aNilCheck a0 h fun x11 h => aField 2 x11 h fun x12 h => aLoad x12 h fun x13 h => aIdxAddr 1 x13 (AV.int 3 (Int.ofNat 0)) h fun x14 h => aLoad x14 h fun x15 h => bindR (self x15 h) fun x16 h => aExtract x16 0 h fun x17 h => aExtract x16 1 h fun x18 h => aNilCheck a0 h fun x19 h => aField 2 x19 h fun x20 h => aLoad x20 h fun x21 h => aIdxAddr 1 x21 (AV.int 3 (Int.ofNat 1)) h fun x22 h => aLoad x22 h fun x23 h => bindR (self x23 h) fun x24 h => aExtract x24 0 h fun x25 h => aExtract x24 1 h fun x26 h => aBuild [(AV.leaf .nili), (AV.leaf .nili)] [(0, 1, x17), (1, 1, x25)] h fun x27 h => aMkIface 94 x27 h fun x28 h => guardB true x18 ((c_impl_pairsIn_j1 F g) [x28, x18, x26] h) ((c_impl_pairsIn_j1 F g) [x28, x18, (AV.one .tup (AV.leaf .nil))] h)) (some (AV.one .tup (AV.cons (AV.leaf .nili) (AV.cons (AV.bool false) (AV.leaf .nil))), h)))) g
noncomputable def A_impl_pairsIn : An := (.two .o (.two .o (.two (.two .o (.two (.two .o .o) (.two .o (.two (.two .o (.two .o (.two (.at_ [42, 44, 45] .o .o) .o))) (.two .o .o))))) .o)))
noncomputable def b_impl_pairsIn : Code := bodyOf Go.Proofs.Try.f71
theorem k_impl_pairsIn (F g : Nat) (a0 : AV) (h : H) : callD Go.Proofs.Try.prog (Env.add (fun _ _ _ => none : Env) 71 (u1 (c_impl_pairsIn F g))) 47 F b_impl_pairsIn [2, 3] A_impl_pairsIn [a0] h = c_impl_pairsIn F (g + 1) a0 h := by kernel_rfl
theorem s_impl_pairsIn (F g : Nat) : ∀ args h r, u1 (c_impl_pairsIn F g) args h = some r → Tri Go.Proofs.Try.prog 71 args h r := by
  induction g with
  | zero => intro args h r e; obtain ⟨a0, rfl, e⟩ := u1_some e; cases e
  | succ g ih => intro args h r e; obtain ⟨a0, rfl, e1⟩ := u1_some e; exact fn_sound Go.Proofs.Try.func71 rfl rfl rfl Go.Proofs.Try.ntmps71 (Sound.add (Sound.none _) ih) ((k_impl_pairsIn F g a0 h).trans e1)

-- "loop.example/treenumbers/impl.readPairs"
noncomputable def c_impl_readPairs (F g : Nat) (a0 : AV) (h : H) : Option R := bindR (c_impl_readTree F g a0 h) fun x1 h => aExtract x1 0 h fun x2 h => aExtract x1 1 h fun x3 h => aNot x3 h fun x4 h => withBool x4 fun t5 => bc t5 (some (AV.one .tup (AV.cons (AV.leaf .nili) (AV.cons (AV.bool false) (AV.leaf .nil))), h)) (bindR (c_impl_pairsIn F g x2 h) fun x6 h => aExtract x6 0 h fun x7 h => aExtract x6 1 h fun x8 h => some (AV.one .tup (AV.cons x7 (AV.cons x8 (AV.leaf .nil))), h))
noncomputable def A_impl_readPairs : An := (.two .o (.two .o (.two (.two .o (.two (.two .o .o) .o)) (.two .o .o))))
noncomputable def b_impl_readPairs : Code := bodyOf Go.Proofs.Try.f54
theorem k_impl_readPairs (F g : Nat) (a0 : AV) (h : H) : callD Go.Proofs.Try.prog (Env.add (Env.add (fun _ _ _ => none : Env) 27 (u1 (c_impl_readTree F g))) 71 (u1 (c_impl_pairsIn F g))) 17 F b_impl_readPairs [2, 3] A_impl_readPairs [a0] h = c_impl_readPairs F g a0 h := by kernel_rfl
theorem s_impl_readPairs (F g : Nat) : ∀ args h r, u1 (c_impl_readPairs F g) args h = some r → Tri Go.Proofs.Try.prog 54 args h r := by
  intro args h r e; obtain ⟨a0, rfl, e1⟩ := u1_some e; exact fn_sound Go.Proofs.Try.func54 rfl rfl rfl Go.Proofs.Try.ntmps54 (Sound.add (Sound.add (Sound.none _) (s_impl_readTree F g)) (s_impl_pairsIn F g)) ((k_impl_readPairs F g a0 h).trans e1)

-- "loop.example/treenumbers/impl.grown"
noncomputable def c_impl_grown (F g : Nat) : AV → H → Option R := Nat.rec (motive := fun _ => AV → H → Option R) (fun _ _ => none) (fun g self a0 h => aIdxAddr 1 a0 (AV.int 3 (Int.ofNat 0)) h fun x1 h => aLoad x1 h fun x2 h => aAssertC true 94 (AV.one .agg (AV.cons (AV.leaf .nili) (AV.cons (AV.leaf .nili) (AV.leaf .nil)))) x2 h fun x3 h => aExtract x3 1 h fun x4 h => aExtract x3 0 h fun x5 h => withBool x4 fun t6 => bc t6 (aSliceV 1 a0 (some (AV.int 3 (Int.ofNat 1))) none none h fun x7 h => bindR (self x7 h) fun x8 h => aExtract x8 0 h fun x9 h => aExtract x8 1 h fun x10 h => bindR (self x10 h) fun x11 h => aExtract x11 0 h fun x12 h => aExtract x11 1 h fun x13 h => aBuild [(AV.leaf .nili), (AV.leaf .nili)] [(0, 1, x9), (1, 1, x12)] h fun x14 h => aMkIface 94 x14 h fun x15 h => some (AV.one .tup (AV.cons x15 (AV.cons x13 (AV.leaf .nil))), h)) (aBuild [] [] h fun x16 h => aMkIface 92 x16 h fun x17 _ => aSliceV 1 a0 (some (AV.int 3 (Int.ofNat 1))) none none h fun x18 _ => some (AV.one .tup (AV.cons x17 (AV.cons x18 (AV.leaf .nil))), h))) g
noncomputable def A_impl_grown : An := (.two .o (.two .o (.two (.two .o (.two (.two .o (.two .o (.two .o .o))) (.two .o .o))) .o)))
noncomputable def b_impl_grown : Code := bodyOf Go.Proofs.Try.f89
theorem k_impl_grown (F g : Nat) (a0 : AV) (h : H) : callD Go.Proofs.Try.prog (Env.add (fun _ _ _ => none : Env) 89 (u1 (c_impl_grown F g))) 34 F b_impl_grown [2, 3] A_impl_grown [a0] h = c_impl_grown F (g + 1) a0 h := by kernel_rfl
theorem s_impl_grown (F g : Nat) : ∀ args h r, u1 (c_impl_grown F g) args h = some r → Tri Go.Proofs.Try.prog 89 args h r := by
  induction g with
  | zero => intro args h r e; obtain ⟨a0, rfl, e⟩ := u1_some e; cases e
  | succ g ih => intro args h r e; obtain ⟨a0, rfl, e1⟩ := u1_some e; exact fn_sound Go.Proofs.Try.func89 rfl rfl rfl Go.Proofs.Try.ntmps89 (Sound.add (Sound.none _) ih) ((k_impl_grown F g a0 h).trans e1)

-- "(*loop.example/treenumbers/impl.node).nodes"
noncomputable def c_impl_node_nodes_l1 (F g : Nat) (self : AV → H → Option R) : List AV → H → (List AV → H → Option R) → Option R := fun vs h kc6 => (fun x7 x8 x9 x10 => aCmpI ilt x10 x9 h fun x11 h => withBool x11 fun t12 => bc t12 (aIdxAddr 1 x8 x10 h fun x13 h => aLoad x13 h fun x14 h => bindR (self x14 h) fun x15 h => aAppend 1 8 x7 x15 h fun x16 h => aArith iadd x10 (AV.int 3 (Int.ofNat 1)) h fun x17 h => kc6 [x16, x8, x9, x17] h) (some (x7, h))) (hd vs) (hd (tl vs)) (hd (tl (tl vs))) (hd (tl (tl (tl vs))))
noncomputable def c_impl_node_nodes (F g : Nat) : AV → H → Option R := Nat.rec (motive := fun _ => AV → H → Option R) (fun _ _ => none) (fun g self a0 h => aBuildSlice 1 1 [(0, 1, a0)] h fun x1 h => aNilCheck a0 h fun x2 h => aField 2 x2 h fun x3 h => aLoad x3 h fun x4 h => aLenK 1 x4 h fun x5 h => loopD F (c_impl_node_nodes_l1 F g self) [x1, x4, x5, (AV.int 3 (Int.ofNat 0))] h) g
noncomputable def A_impl_node_nodes : An := (.two .o (.two .o (.two (.two .o (.two (.at_ [3, 11, 12, 13] (.two .o (.two (.two .o .o) (.two (.two (.two .o .o) .o) .o))) .o) .o)) (.two .o .o))))
noncomputable def b_impl_node_nodes : Code := bodyOf Go.Proofs.Try.f29
theorem k_impl_node_nodes (F g : Nat) (a0 : AV) (h : H) : callD Go.Proofs.Try.prog (Env.add (fun _ _ _ => none : Env) 29 (u1 (c_impl_node_nodes F g))) 23 F b_impl_node_nodes [2] A_impl_node_nodes [a0] h = c_impl_node_nodes F (g + 1) a0 h := by kernel_rfl
theorem s_impl_node_nodes (F g : Nat) : ∀ args h r, u1 (c_impl_node_nodes F g) args h = some r → Tri Go.Proofs.Try.prog 29 args h r := by
  induction g with
  | zero => intro args h r e; obtain ⟨a0, rfl, e⟩ := u1_some e; cases e
  | succ g ih => intro args h r e; obtain ⟨a0, rfl, e1⟩ := u1_some e; exact fn_sound Go.Proofs.Try.func29 rfl rfl rfl Go.Proofs.Try.ntmps29 (Sound.add (Sound.none _) ih) ((k_impl_node_nodes F g a0 h).trans e1)

-- "(loop.example/treenumbers/impl.lone).nodes"
noncomputable def c_impl_lone_nodes (F g : Nat) (a0 : AV) (h : H) : Option R := aBox a0 h fun x1 h => aLoadN 0 x1 h fun x2 h => aMkIface 92 x2 h fun x3 h => aBuildSlice 1 1 [(0, 1, x3)] h fun x4 h => some (x4, h)
noncomputable def A_impl_lone_nodes : An := (.two .o (.two .o .o))
noncomputable def b_impl_lone_nodes : Code := bodyOf Go.Proofs.Try.f114
theorem k_impl_lone_nodes (F g : Nat) (a0 : AV) (h : H) : callD Go.Proofs.Try.prog (fun _ _ _ => none : Env) 6 F b_impl_lone_nodes [2] A_impl_lone_nodes [a0] h = c_impl_lone_nodes F g a0 h := by kernel_rfl
theorem s_impl_lone_nodes (F g : Nat) : ∀ args h r, u1 (c_impl_lone_nodes F g) args h = some r → Tri Go.Proofs.Try.prog 114 args h r := by
  intro args h r e; obtain ⟨a0, rfl, e1⟩ := u1_some e; exact fn_sound Go.Proofs.Try.func114 rfl rfl rfl Go.Proofs.Try.ntmps114 (Sound.none _) ((k_impl_lone_nodes F g a0 h).trans e1)

-- "slices.Grow[[]loop.example/treenumbers/impl.pairTree,loop.example/treenumbers/impl.pairTree]"
noncomputable def c_slices_Grow_11b6_j1 (F g : Nat) (vs : List AV) (h : H) : Option R := (fun x3 => some (x3, h)) (hd vs)
noncomputable def c_slices_Grow_11b6_j2 (F g : Nat) (vs : List AV) (h : H) : Option R := (fun x1 x2 => aCap x1 h fun x4 h => aLenK 1 x1 h fun x5 h => aArith isub x4 x5 h fun x6 h => aArith isub x2 x6 h fun x7 h => aCmpI (fun a b => ilt b a) x7 (AV.int 3 (Int.ofNat 0)) h fun x8 h => withBool x8 fun t9 => bc t9 (aCap x1 h fun x10 h => aSliceV 1 x1 none (some x10) none h fun x11 h => aAppZ 1 16 [(AV.leaf .nili)] x11 x7 h fun x12 h => aLenK 1 x1 h fun x13 h => aSliceV 1 x12 none (some x13) none h fun x14 h => (c_slices_Grow_11b6_j1 F g) [x14] h) ((c_slices_Grow_11b6_j1 F g) [x1] h)) (hd vs) (hd (tl vs))
noncomputable def c_slices_Grow_11b6 (F g : Nat) (a0 a1 : AV) (h : H) : Option R := aCmpI ilt a1 (AV.int 3 (Int.ofNat 0)) h fun x15 h => withBool x15 fun t16 => bc t16 (aMkIface 9 (AV.str [99, 97, 110, 110, 111, 116, 32, 98, 101, 32, 110, 101, 103, 97, 116, 105, 118, 101] 18) h fun x17 h => none) ((c_slices_Grow_11b6_j2 F g) [a0, a1] h)
noncomputable def A_slices_Grow_11b6 : An := (.two .o (.at_ [0, 1] (.two .o (.two .o .o)) (.at_ [0] (.two .o (.two .o (.two .o .o))) (.two .o .o))))
noncomputable def b_slices_Grow_11b6 : Code := bodyOf Go.Proofs.Try.f120
theorem k_slices_Grow_11b6 (F g : Nat) (a0 a1 : AV) (h : H) : callD Go.Proofs.Try.prog (fun _ _ _ => none : Env) 27 F b_slices_Grow_11b6 [4] A_slices_Grow_11b6 [a0, a1] h = c_slices_Grow_11b6 F g a0 a1 h := by kernel_rfl
theorem s_slices_Grow_11b6 (F g : Nat) : ∀ args h r, u2 (c_slices_Grow_11b6 F g) args h = some r → Tri Go.Proofs.Try.prog 120 args h r := by
  intro args h r e; obtain ⟨a0, a1, rfl, e1⟩ := u2_some e; exact fn_sound Go.Proofs.Try.func120 rfl rfl rfl Go.Proofs.Try.ntmps120 (Sound.none _) ((k_slices_Grow_11b6 F g a0 a1 h).trans e1)

-- "slices.Concat[[]loop.example/treenumbers/impl.pairTree,loop.example/treenumbers/impl.pairTree]"
noncomputable def c_slices_Concat_11b6_j1 (F g : Nat) (kc2 : List AV → H → Option R) (vs : List AV) (h : H) : Option R := (fun x10 x11 x12 x13 x14 => aArith iadd x14 (AV.int 3 (Int.ofNat 1)) h fun x15 h => kc2 [x10, x11, x12, x13, x15] h) (hd vs) (hd (tl vs)) (hd (tl (tl vs))) (hd (tl (tl (tl vs)))) (hd (tl (tl (tl (tl vs)))))
noncomputable def c_slices_Concat_11b6_l2 (F g : Nat) : List AV → H → (List AV → H → Option R) → Option R := fun vs h kc25 => (fun x26 x27 x28 x29 => aCmpI ilt x29 x28 h fun x30 h => withBool x30 fun t31 => bc t31 (aIdxAddr 1 x27 x29 h fun x32 h => aLoad x32 h fun x33 h => aAppend 1 16 x26 x33 h fun x34 h => aArith iadd x29 (AV.int 3 (Int.ofNat 1)) h fun x35 h => kc25 [x34, x27, x28, x35] h) (some (x26, h))) (hd vs) (hd (tl vs)) (hd (tl (tl vs))) (hd (tl (tl (tl vs))))
noncomputable def c_slices_Concat_11b6_l3 (F g : Nat) : List AV → H → (List AV → H → Option R) → Option R := fun vs h kc2 => (fun x3 x4 x5 x6 x7 => aCmpI ilt x7 x6 h fun x8 h => withBool x8 fun t9 => bc t9 (aIdxAddr 1 x5 x7 h fun x16 h => aLoad x16 h fun x17 h => aLenK 1 x17 h fun x18 h => aArith iadd x4 x18 h fun x19 h => aCmpI ilt x19 (AV.int 3 (Int.ofNat 0)) h fun x20 h => withBool x20 fun t21 => bc t21 (aMkIface 9 (AV.str [108, 101, 110, 32, 111, 117, 116, 32, 111, 102, 32, 114, 97, 110, 103, 101] 16) h fun x22 h => none) ((c_slices_Concat_11b6_j1 F g kc2) [x3, x19, x5, x6, x7] h)) (bindR (c_slices_Grow_11b6 F g (AV.leaf .nils) x4 h) fun x23 h => aLenK 1 x3 h fun x24 h => loopD F (c_slices_Concat_11b6_l2 F g) [x23, x3, x24, (AV.int 3 (Int.ofNat 0))] h)) (hd vs) (hd (tl vs)) (hd (tl (tl vs))) (hd (tl (tl (tl vs)))) (hd (tl (tl (tl (tl vs)))))
noncomputable def c_slices_Concat_11b6 (F g : Nat) (a0 : AV) (h : H) : Option R := aLenK 1 a0 h fun x1 h => loopD F (c_slices_Concat_11b6_l3 F g) [a0, (AV.int 3 (Int.ofNat 0)), a0, x1, (AV.int 3 (Int.ofNat 0))] h
noncomputable def A_slices_Concat_11b6 : An := (.two .o (.two .o (.two (.two .o (.two (.at_ [0, 3, 9, 10, 11] (.two .o (.two (.two .o .o) (.at_ [0, 3, 9, 10, 11] (.two (.two .o (.two .o (.two .o (.two .o .o)))) .o) .o))) .o) .o)) (.two .o (.two (.two .o (.two (.at_ [6, 25, 26, 27] (.two .o (.two (.two .o .o) (.two (.two (.two .o .o) .o) .o))) .o) .o)) (.two .o .o))))))
noncomputable def b_slices_Concat_11b6 : Code := bodyOf Go.Proofs.Try.f119
theorem k_slices_Concat_11b6 (F g : Nat) (a0 : AV) (h : H) : callD Go.Proofs.Try.prog (Env.add (fun _ _ _ => none : Env) 120 (u2 (c_slices_Grow_11b6 F g))) 36 F b_slices_Concat_11b6 [2] A_slices_Concat_11b6 [a0] h = c_slices_Concat_11b6 F g a0 h := by kernel_rfl
theorem s_slices_Concat_11b6 (F g : Nat) : ∀ args h r, u1 (c_slices_Concat_11b6 F g) args h = some r → Tri Go.Proofs.Try.prog 119 args h r := by
  intro args h r e; obtain ⟨a0, rfl, e1⟩ := u1_some e; exact fn_sound Go.Proofs.Try.func119 rfl rfl rfl Go.Proofs.Try.ntmps119 (Sound.add (Sound.none _) (s_slices_Grow_11b6 F g)) ((k_slices_Concat_11b6 F g a0 h).trans e1)

-- "(loop.example/treenumbers/impl.inner).nodes"
noncomputable def c_impl_inner_nodes (F g : Nat) : AV → H → Option R := Nat.rec (motive := fun _ => AV → H → Option R) (fun _ _ => none) (fun g self a0 h => aBox a0 h fun x1 h => (fun (W2 : List (Nat × List AV)) (lo3 : Nat) => (fun h => aLoadN4 2 W2 x1 h fun x4 h => aMkIface 94 x4 h fun x5 _ => bc (okL W2 h) (aField 0 x1 h fun x6 _ => bc (okL W2 h) (aLoad4 W2 x6 h fun x7 h => dInv (Env.add (Env.add (Env.add (fun _ _ _ => none : Env) 29 (u1 (c_impl_node_nodes F g))) 114 (u1 (c_impl_lone_nodes F g))) 117 (u1 self)) [(40, 29), (92, 114), (94, 117)] x7 [] h fun x8 h => bc (okL W2 h) (aField 1 x1 h fun x9 _ => bc (okL W2 h) (aLoad4 W2 x9 h fun x10 h => dInv (Env.add (Env.add (Env.add (fun _ _ _ => none : Env) 29 (u1 (c_impl_node_nodes F g))) 114 (u1 (c_impl_lone_nodes F g))) 117 (u1 self)) [(40, 29), (92, 114), (94, 117)] x10 [] h fun x11 h => bc (okL W2 h) (aBuildSlice 1 1 [(0, 1, x5)] h fun x12 h => bc (okL W2 h) (aBuildSlice 3 1 [(0, 1, x12), (1, 1, x8), (2, 1, x11)] h fun x13 h => bc (okL W2 h) (bindR (c_slices_Concat_11b6 F g x13 h) fun x14 h => bc (okL W2 h) (bc (okL W2 h) ((fun h => some (x14, h)) (H.unmark h lo3)) none) none) none) none) none) none) none) none) none) (H.mark h)) (watchP h [x1, x1, (AV.leaf .undef), x1, (AV.leaf .undef)]) h.lo) g
noncomputable def A_impl_inner_nodes : An := (.two .o (.two (.at_ [0, 1, 3, 4, 5, 6, 7, 8, 2, 9, 10, 11] .o .o) .o))
noncomputable def b_impl_inner_nodes : Code := bodyOf Go.Proofs.Try.f117
theorem k_impl_inner_nodes (F g : Nat) (a0 : AV) (h : H) : callD Go.Proofs.Try.prog (Env.add (Env.add (Env.add (Env.add (fun _ _ _ => none : Env) 29 (u1 (c_impl_node_nodes F g))) 114 (u1 (c_impl_lone_nodes F g))) 119 (u1 (c_slices_Concat_11b6 F g))) 117 (u1 (c_impl_inner_nodes F g))) 14 F b_impl_inner_nodes [2] A_impl_inner_nodes [a0] h = c_impl_inner_nodes F (g + 1) a0 h := by kernel_rfl
theorem s_impl_inner_nodes (F g : Nat) : ∀ args h r, u1 (c_impl_inner_nodes F g) args h = some r → Tri Go.Proofs.Try.prog 117 args h r := by
  induction g with
  | zero => intro args h r e; obtain ⟨a0, rfl, e⟩ := u1_some e; cases e
  | succ g ih => intro args h r e; obtain ⟨a0, rfl, e1⟩ := u1_some e; exact fn_sound Go.Proofs.Try.func117 rfl rfl rfl Go.Proofs.Try.ntmps117 (Sound.add (Sound.add (Sound.add (Sound.add (Sound.none _) (s_impl_node_nodes F g)) (s_impl_lone_nodes F g)) (s_slices_Concat_11b6 F g)) ih) ((k_impl_inner_nodes F g a0 h).trans e1)

-- "(*loop.example/treenumbers/impl.node).text"
noncomputable def c_impl_node_text_l1 (F g : Nat) (self : AV → H → Option R) : List AV → H → (List AV → H → Option R) → Option R := fun vs h kc5 => (fun x6 x7 x8 x9 => aCmpI ilt x9 x8 h fun x10 h => withBool x10 fun t11 => bc t11 (aIdxAddr 1 x7 x9 h fun x12 h => aLoad x12 h fun x13 h => bindR (self x13 h) fun x14 h => aSAdd x6 x14 h fun x15 h => aArith iadd x9 (AV.int 3 (Int.ofNat 1)) h fun x16 h => kc5 [x15, x7, x8, x16] h) (aSAdd x6 (AV.str [41] 1) h fun x17 h => some (x17, h))) (hd vs) (hd (tl vs)) (hd (tl (tl vs))) (hd (tl (tl (tl vs))))
noncomputable def c_impl_node_text (F g : Nat) : AV → H → Option R := Nat.rec (motive := fun _ => AV → H → Option R) (fun _ _ => none) (fun g self a0 h => aNilCheck a0 h fun x1 h => aField 2 x1 h fun x2 h => aLoad x2 h fun x3 h => aLenK 1 x3 h fun x4 h => loopD F (c_impl_node_text_l1 F g self) [(AV.str [40] 1), x3, x4, (AV.int 3 (Int.ofNat 0))] h) g
noncomputable def A_impl_node_text : An := (.two .o (.two .o (.two (.two .o (.two (.at_ [3, 9, 10, 11] (.two .o (.two (.two .o .o) (.two (.two (.two .o .o) .o) .o))) .o) .o)) (.two .o .o))))
noncomputable def b_impl_node_text : Code := bodyOf Go.Proofs.Try.f39
theorem k_impl_node_text (F g : Nat) (a0 : AV) (h : H) : callD Go.Proofs.Try.prog (Env.add (fun _ _ _ => none : Env) 39 (u1 (c_impl_node_text F g))) 22 F b_impl_node_text [2] A_impl_node_text [a0] h = c_impl_node_text F (g + 1) a0 h := by kernel_rfl
theorem s_impl_node_text (F g : Nat) : ∀ args h r, u1 (c_impl_node_text F g) args h = some r → Tri Go.Proofs.Try.prog 39 args h r := by
  induction g with
  | zero => intro args h r e; obtain ⟨a0, rfl, e⟩ := u1_some e; cases e
  | succ g ih => intro args h r e; obtain ⟨a0, rfl, e1⟩ := u1_some e; exact fn_sound Go.Proofs.Try.func39 rfl rfl rfl Go.Proofs.Try.ntmps39 (Sound.add (Sound.none _) ih) ((k_impl_node_text F g a0 h).trans e1)

-- "(loop.example/treenumbers/impl.lone).text"
noncomputable def c_impl_lone_text (F g : Nat) (a0 : AV) (h : H) : Option R := aBox a0 h fun x1 h => some ((AV.str [40, 41] 2), h)
noncomputable def A_impl_lone_text : An := (.two .o (.two .o .o))
noncomputable def b_impl_lone_text : Code := bodyOf Go.Proofs.Try.f115
theorem k_impl_lone_text (F g : Nat) (a0 : AV) (h : H) : callD Go.Proofs.Try.prog (fun _ _ _ => none : Env) 3 F b_impl_lone_text [2] A_impl_lone_text [a0] h = c_impl_lone_text F g a0 h := by kernel_rfl
theorem s_impl_lone_text (F g : Nat) : ∀ args h r, u1 (c_impl_lone_text F g) args h = some r → Tri Go.Proofs.Try.prog 115 args h r := by
  intro args h r e; obtain ⟨a0, rfl, e1⟩ := u1_some e; exact fn_sound Go.Proofs.Try.func115 rfl rfl rfl Go.Proofs.Try.ntmps115 (Sound.none _) ((k_impl_lone_text F g a0 h).trans e1)

-- "(loop.example/treenumbers/impl.inner).text"
noncomputable def c_impl_inner_text (F g : Nat) : AV → H → Option R := Nat.rec (motive := fun _ => AV → H → Option R) (fun _ _ => none) (fun g self a0 h => aBox a0 h fun x1 h => aField 0 x1 h fun x2 _ => aLoad x2 h fun x3 _ => dInvF (Env.add (Env.add (Env.add (fun _ _ _ => none : Env) 39 (u1 (c_impl_node_text F g))) 115 (u1 (c_impl_lone_text F g))) 118 (u1 self)) [(40, 39), (92, 115), (94, 118)] x3 [] h fun x4 _ => aSAdd (AV.str [40] 1) x4 h fun x5 _ => aField 1 x1 h fun x6 _ => aLoad x6 h fun x7 _ => dInvF (Env.add (Env.add (Env.add (fun _ _ _ => none : Env) 39 (u1 (c_impl_node_text F g))) 115 (u1 (c_impl_lone_text F g))) 118 (u1 self)) [(40, 39), (92, 115), (94, 118)] x7 [] h fun x8 _ => aSAdd x5 x8 h fun x9 _ => aSAdd x9 (AV.str [41] 1) h fun x10 _ => some (x10, h)) g
noncomputable def A_impl_inner_text : An := (.two .o (.two .o .o))
noncomputable def b_impl_inner_text : Code := bodyOf Go.Proofs.Try.f118
theorem k_impl_inner_text (F g : Nat) (a0 : AV) (h : H) : callD Go.Proofs.Try.prog (Env.add (Env.add (Env.add (fun _ _ _ => none : Env) 39 (u1 (c_impl_node_text F g))) 115 (u1 (c_impl_lone_text F g))) 118 (u1 (c_impl_inner_text F g))) 12 F b_impl_inner_text [2] A_impl_inner_text [a0] h = c_impl_inner_text F (g + 1) a0 h := by kernel_rfl
theorem s_impl_inner_text (F g : Nat) : ∀ args h r, u1 (c_impl_inner_text F g) args h = some r → Tri Go.Proofs.Try.prog 118 args h r := by
  induction g with
  | zero => intro args h r e; obtain ⟨a0, rfl, e⟩ := u1_some e; cases e
  | succ g ih => intro args h r e; obtain ⟨a0, rfl, e1⟩ := u1_some e; exact fn_sound Go.Proofs.Try.func118 rfl rfl rfl Go.Proofs.Try.ntmps118 (Sound.add (Sound.add (Sound.add (Sound.none _) (s_impl_node_text F g)) (s_impl_lone_text F g)) ih) ((k_impl_inner_text F g a0 h).trans e1)

-- "loop.example/treenumbers/impl.turnedAt"
noncomputable def c_impl_turnedAt (F g : Nat) (a0 a1 : AV) (h : H) : Option R := aIdxAddr 1 a0 a1 h fun x1 h => aLoad x1 h fun x2 h => aAssertC true 94 (AV.one .agg (AV.cons (AV.leaf .nili) (AV.cons (AV.leaf .nili) (AV.leaf .nil)))) x2 h fun x3 h => aExtract x3 0 h fun x4 h => aExtract x3 1 h fun x5 h => aAlloc [(AV.leaf .nili), (AV.leaf .nili)] h fun x6 h => aStoreN 2 x6 x4 h fun x7 h => aNot x5 h fun x8 h => withBool x8 fun t9 => bc t9 (some (AV.one .tup (AV.cons (AV.str [] 0) (AV.cons (AV.bool false) (AV.leaf .nil))), h)) (aField 0 x6 h fun x10 h => aLoad x10 h fun x11 h => aAssertC true 94 (AV.one .agg (AV.cons (AV.leaf .nili) (AV.cons (AV.leaf .nili) (AV.leaf .nil)))) x11 h fun x12 h => aExtract x12 0 h fun x13 h => aExtract x12 1 h fun x14 h => aAlloc [(AV.leaf .nili), (AV.leaf .nili)] h fun x15 h => aStoreN 2 x15 x13 h fun x16 h => aNot x14 h fun x17 h => withBool x17 fun t18 => bc t18 (some (AV.one .tup (AV.cons (AV.str [] 0) (AV.cons (AV.bool false) (AV.leaf .nil))), h)) (aLenK 1 a0 h fun x19 h => aMake 16 [(AV.leaf .nili)] x19 x19 h fun x20 h => aCopy 1 x20 a0 h fun x21 h => aArith iadd a1 (AV.int 3 (Int.ofNat 2)) h fun x22 h => aField 0 x15 h fun x23 h => aLoad x23 h fun x24 h => dInv (Env.add (Env.add (Env.add (fun _ _ _ => none : Env) 29 (u1 (c_impl_node_nodes F g))) 114 (u1 (c_impl_lone_nodes F g))) 117 (u1 (c_impl_inner_nodes F g))) [(40, 29), (92, 114), (94, 117)] x24 [] h fun x25 h => aLenK 1 x25 h fun x26 h => aArith iadd x22 x26 h fun x27 h => aArith iadd a1 (AV.int 3 (Int.ofNat 1)) h fun x28 h => aSliceV 1 x20 (some x28) (some x27) (some x27) h fun x29 h => aSliceV 1 x29 (some (AV.int 3 (Int.ofNat 1))) none none h fun x30 _ => aIdxAddr 1 x29 (AV.int 3 (Int.ofNat 0)) h fun x31 _ => aLoad x31 h fun x32 _ => aBuildSlice 1 1 [(0, 1, x32)] h fun x33 h => aAppend 1 16 x30 x33 h fun x34 h => aCopy 1 x29 x34 h fun x35 h => bindR (c_impl_grown F g x20 h) fun x36 h => aExtract x36 0 h fun x37 h => aExtract x36 1 h fun x38 h => dInv (Env.add (Env.add (Env.add (fun _ _ _ => none : Env) 39 (u1 (c_impl_node_text F g))) 115 (u1 (c_impl_lone_text F g))) 118 (u1 (c_impl_inner_text F g))) [(40, 39), (92, 115), (94, 118)] x37 [] h fun x39 h => some (AV.one .tup (AV.cons x39 (AV.cons (AV.bool true) (AV.leaf .nil))), h)))
noncomputable def A_impl_turnedAt : An := (.two .o (.two .o (.two (.two .o (.two (.two .o .o) .o)) (.two .o (.two (.two .o (.two (.two .o .o) .o)) (.two .o (.two .o (.two .o (.two .o (.two .o (.two .o (.two .o .o))))))))))))
noncomputable def b_impl_turnedAt : Code := bodyOf Go.Proofs.Try.f77
theorem k_impl_turnedAt (F g : Nat) (a0 a1 : AV) (h : H) : callD Go.Proofs.Try.prog (Env.add (Env.add (Env.add (Env.add (Env.add (Env.add (Env.add (fun _ _ _ => none : Env) 29 (u1 (c_impl_node_nodes F g))) 114 (u1 (c_impl_lone_nodes F g))) 117 (u1 (c_impl_inner_nodes F g))) 89 (u1 (c_impl_grown F g))) 39 (u1 (c_impl_node_text F g))) 115 (u1 (c_impl_lone_text F g))) 118 (u1 (c_impl_inner_text F g))) 67 F b_impl_turnedAt [4, 5] A_impl_turnedAt [a0, a1] h = c_impl_turnedAt F g a0 a1 h := by kernel_rfl
theorem s_impl_turnedAt (F g : Nat) : ∀ args h r, u2 (c_impl_turnedAt F g) args h = some r → Tri Go.Proofs.Try.prog 77 args h r := by
  intro args h r e; obtain ⟨a0, a1, rfl, e1⟩ := u2_some e; exact fn_sound Go.Proofs.Try.func77 rfl rfl rfl Go.Proofs.Try.ntmps77 (Sound.add (Sound.add (Sound.add (Sound.add (Sound.add (Sound.add (Sound.add (Sound.none _) (s_impl_node_nodes F g)) (s_impl_lone_nodes F g)) (s_impl_inner_nodes F g)) (s_impl_grown F g)) (s_impl_node_text F g)) (s_impl_lone_text F g)) (s_impl_inner_text F g)) ((k_impl_turnedAt F g a0 a1 h).trans e1)

-- "loop.example/treenumbers/impl.PairTurns"
noncomputable def c_impl_PairTurns_j1 (F g : Nat) (kc9 : List AV → H → Option R) (vs : List AV) (h : H) : Option R := (fun x16 x17 x18 x19 => aArith iadd x19 (AV.int 3 (Int.ofNat 1)) h fun x20 h => kc9 [x16, x17, x18, x20] h) (hd vs) (hd (tl vs)) (hd (tl (tl vs))) (hd (tl (tl (tl vs))))
noncomputable def c_impl_PairTurns_l2 (F g : Nat) : List AV → H → (List AV → H → Option R) → Option R := fun vs h kc9 => (fun x10 x11 x12 x13 => aCmpI ilt x13 x12 h fun x14 h => withBool x14 fun t15 => bc t15 (bindR (c_impl_turnedAt F g x11 x13 h) fun x21 h => aExtract x21 0 h fun x22 h => aExtract x21 1 h fun x23 h => withBool x23 fun t24 => bc t24 (aBuildSlice 1 1 [(0, 1, x22)] h fun x25 h => aAppend 1 16 x10 x25 h fun x26 h => (c_impl_PairTurns_j1 F g kc9) [x26, x11, x12, x13] h) ((c_impl_PairTurns_j1 F g kc9) [x10, x11, x12, x13] h)) (bindR (c_slices_Sort_49de F g x10 h) fun x27 h => some (AV.one .tup (AV.cons x10 (AV.cons (AV.bool true) (AV.leaf .nil))), h))) (hd vs) (hd (tl vs)) (hd (tl (tl vs))) (hd (tl (tl (tl vs))))
noncomputable def c_impl_PairTurns (F g : Nat) (a0 : AV) (h : H) : Option R := bindR (c_impl_readPairs F g a0 h) fun x1 h => aExtract x1 0 h fun x2 h => aExtract x1 1 h fun x3 h => aNot x3 h fun x4 h => withBool x4 fun t5 => bc t5 (some (AV.one .tup (AV.cons (AV.leaf .nils) (AV.cons (AV.bool false) (AV.leaf .nil))), h)) (aBuildSlice 0 1 [] h fun x6 h => dInv (Env.add (Env.add (Env.add (fun _ _ _ => none : Env) 29 (u1 (c_impl_node_nodes F g))) 114 (u1 (c_impl_lone_nodes F g))) 117 (u1 (c_impl_inner_nodes F g))) [(40, 29), (92, 114), (94, 117)] x2 [] h fun x7 h => aLenK 1 x7 h fun x8 h => loopD F (c_impl_PairTurns_l2 F g) [x6, x7, x8, (AV.int 3 (Int.ofNat 0))] h)
noncomputable def A_impl_PairTurns : An := (.two .o (.two .o (.two (.two .o (.two (.two .o .o) .o)) (.two .o (.two .o (.two (.two .o (.two (.at_ [6, 7, 22, 23] (.two .o (.two (.two .o .o) (.at_ [6, 7, 22, 23] (.two (.two .o (.two .o (.two .o (.two .o .o)))) .o) .o))) .o) .o)) (.two .o (.two .o .o))))))))
noncomputable def b_impl_PairTurns : Code := bodyOf Go.Proofs.Try.f72
theorem k_impl_PairTurns (F g : Nat) (a0 : AV) (h : H) : callD Go.Proofs.Try.prog (Env.add (Env.add (Env.add (Env.add (Env.add (Env.add (fun _ _ _ => none : Env) 54 (u1 (c_impl_readPairs F g))) 29 (u1 (c_impl_node_nodes F g))) 114 (u1 (c_impl_lone_nodes F g))) 117 (u1 (c_impl_inner_nodes F g))) 77 (u2 (c_impl_turnedAt F g))) 58 (u1 (c_slices_Sort_49de F g))) 41 F b_impl_PairTurns [2, 3] A_impl_PairTurns [a0] h = c_impl_PairTurns F g a0 h := by kernel_rfl
theorem s_impl_PairTurns (F g : Nat) : ∀ args h r, u1 (c_impl_PairTurns F g) args h = some r → Tri Go.Proofs.Try.prog 72 args h r := by
  intro args h r e; obtain ⟨a0, rfl, e1⟩ := u1_some e; exact fn_sound Go.Proofs.Try.func72 rfl rfl rfl Go.Proofs.Try.ntmps72 (Sound.add (Sound.add (Sound.add (Sound.add (Sound.add (Sound.add (Sound.none _) (s_impl_readPairs F g)) (s_impl_node_nodes F g)) (s_impl_lone_nodes F g)) (s_impl_inner_nodes F g)) (s_impl_turnedAt F g)) (s_slices_Sort_49de F g)) ((k_impl_PairTurns F g a0 h).trans e1)

-- "slices.Reverse[[]*loop.example/treenumbers/impl.node,*loop.example/treenumbers/impl.node]"
noncomputable def c_slices_Reverse_4168_l1 (F g : Nat) : List AV → H → (List AV → H → Option R) → Option R := fun vs h kc3 => (fun x4 x5 x6 => aCmpI ilt x5 x6 h fun x7 h => withBool x7 fun t8 => bc t8 (aIdxAddr 1 x4 x6 h fun x9 _ => aLoad x9 h fun x10 _ => aIdxAddr 1 x4 x5 h fun x11 _ => aLoad x11 h fun x12 _ => aIdxAddr 1 x4 x5 h fun x13 _ => aStore x13 x10 h fun x14 h => aIdxAddr 1 x4 x6 h fun x15 _ => aStore x15 x12 h fun x16 h => aArith iadd x5 (AV.int 3 (Int.ofNat 1)) h fun x17 h => aArith isub x6 (AV.int 3 (Int.ofNat 1)) h fun x18 h => kc3 [x4, x17, x18] h) (some (AV.one .tup (AV.leaf .nil), h))) (hd vs) (hd (tl vs)) (hd (tl (tl vs)))
noncomputable def c_slices_Reverse_4168 (F g : Nat) (a0 : AV) (h : H) : Option R := aLenK 1 a0 h fun x1 h => aArith isub x1 (AV.int 3 (Int.ofNat 1)) h fun x2 h => loopD F (c_slices_Reverse_4168_l1 F g) [a0, (AV.int 3 (Int.ofNat 0)), x2] h
noncomputable def A_slices_Reverse_4168 : An := (.two .o (.two (.at_ [0, 2, 3] (.two (.two .o (.two .o .o)) (.two (.two .o .o) .o)) .o) .o))
noncomputable def b_slices_Reverse_4168 : Code := bodyOf Go.Proofs.Try.f64
theorem k_slices_Reverse_4168 (F g : Nat) (a0 : AV) (h : H) : callD Go.Proofs.Try.prog (fun _ _ _ => none : Env) 28 F b_slices_Reverse_4168 [] A_slices_Reverse_4168 [a0] h = c_slices_Reverse_4168 F g a0 h := by kernel_rfl
theorem s_slices_Reverse_4168 (F g : Nat) : ∀ args h r, u1 (c_slices_Reverse_4168 F g) args h = some r → Tri Go.Proofs.Try.prog 64 args h r := by
  intro args h r e; obtain ⟨a0, rfl, e1⟩ := u1_some e; exact fn_sound Go.Proofs.Try.func64 rfl rfl rfl Go.Proofs.Try.ntmps64 (Sound.none _) ((k_slices_Reverse_4168 F g a0 h).trans e1)

-- "(*loop.example/treenumbers/impl.node).turn"
noncomputable def c_impl_node_turn_l1 (F g : Nat) (self : AV → H → Option R) : List AV → H → (List AV → H → Option R) → Option R := fun vs h kc9 => (fun x10 x11 x12 => aCmpI ilt x12 x11 h fun x13 h => withBool x13 fun t14 => bc t14 (aIdxAddr 1 x10 x12 h fun x15 h => aLoad x15 h fun x16 h => bindR (self x16 h) fun x17 h => aArith iadd x12 (AV.int 3 (Int.ofNat 1)) h fun x18 h => kc9 [x10, x11, x18] h) (some (AV.one .tup (AV.leaf .nil), h))) (hd vs) (hd (tl vs)) (hd (tl (tl vs)))
noncomputable def c_impl_node_turn (F g : Nat) : AV → H → Option R := Nat.rec (motive := fun _ => AV → H → Option R) (fun _ _ => none) (fun g self a0 h => aNilCheck a0 h fun x1 h => aField 2 x1 h fun x2 h => aLoad x2 h fun x3 h => bindR (c_slices_Reverse_4168 F g x3 h) fun x4 h => aNilCheck a0 h fun x5 h => aField 2 x5 h fun x6 h => aLoad x6 h fun x7 h => aLenK 1 x7 h fun x8 h => loopD F (c_impl_node_turn_l1 F g self) [x7, x8, (AV.int 3 (Int.ofNat 0))] h) g
noncomputable def A_impl_node_turn : An := (.two .o (.two .o (.two (.at_ [12, 13, 14] (.two .o (.two (.two .o .o) (.two (.two (.two .o .o) .o) .o))) .o) .o)))
noncomputable def b_impl_node_turn : Code := bodyOf Go.Proofs.Try.f38
theorem k_impl_node_turn (F g : Nat) (a0 : AV) (h : H) : callD Go.Proofs.Try.prog (Env.add (Env.add (fun _ _ _ => none : Env) 64 (u1 (c_slices_Reverse_4168 F g))) 38 (u1 (c_impl_node_turn F g))) 21 F b_impl_node_turn [] A_impl_node_turn [a0] h = c_impl_node_turn F (g + 1) a0 h := by kernel_rfl
theorem s_impl_node_turn (F g : Nat) : ∀ args h r, u1 (c_impl_node_turn F g) args h = some r → Tri Go.Proofs.Try.prog 38 args h r := by
  induction g with
  | zero => intro args h r e; obtain ⟨a0, rfl, e⟩ := u1_some e; cases e
  | succ g ih => intro args h r e; obtain ⟨a0, rfl, e1⟩ := u1_some e; exact fn_sound Go.Proofs.Try.func38 rfl rfl rfl Go.Proofs.Try.ntmps38 (Sound.add (Sound.add (Sound.none _) (s_slices_Reverse_4168 F g)) ih) ((k_impl_node_turn F g a0 h).trans e1)

-- "loop.example/treenumbers/impl.TreeTurned"
noncomputable def c_impl_TreeTurned (F g : Nat) (a0 : AV) (h : H) : Option R := bindR (c_impl_readTree F g a0 h) fun x1 h => aExtract x1 0 h fun x2 h => aExtract x1 1 h fun x3 h => aNot x3 h fun x4 h => withBool x4 fun t5 => bc t5 (some (AV.one .tup (AV.cons (AV.str [] 0) (AV.cons (AV.bool false) (AV.leaf .nil))), h)) (bindR (c_impl_node_turn F g x2 h) fun x6 h => bindR (c_impl_node_text F g x2 h) fun x7 h => some (AV.one .tup (AV.cons x7 (AV.cons (AV.bool true) (AV.leaf .nil))), h))
noncomputable def A_impl_TreeTurned : An := (.two .o (.two .o (.two (.two .o (.two (.two .o .o) .o)) (.two .o (.two .o .o)))))
noncomputable def b_impl_TreeTurned : Code := bodyOf Go.Proofs.Try.f17
theorem k_impl_TreeTurned (F g : Nat) (a0 : AV) (h : H) : callD Go.Proofs.Try.prog (Env.add (Env.add (Env.add (fun _ _ _ => none : Env) 27 (u1 (c_impl_readTree F g))) 38 (u1 (c_impl_node_turn F g))) 39 (u1 (c_impl_node_text F g))) 17 F b_impl_TreeTurned [2, 3] A_impl_TreeTurned [a0] h = c_impl_TreeTurned F g a0 h := by kernel_rfl
theorem s_impl_TreeTurned (F g : Nat) : ∀ args h r, u1 (c_impl_TreeTurned F g) args h = some r → Tri Go.Proofs.Try.prog 17 args h r := by
  intro args h r e; obtain ⟨a0, rfl, e1⟩ := u1_some e; exact fn_sound Go.Proofs.Try.func17 rfl rfl rfl Go.Proofs.Try.ntmps17 (Sound.add (Sound.add (Sound.add (Sound.none _) (s_impl_readTree F g)) (s_impl_node_turn F g)) (s_impl_node_text F g)) ((k_impl_TreeTurned F g a0 h).trans e1)

-- "loop.example/treenumbers/impl.besides"
noncomputable def c_impl_besides_l1 (F g : Nat) : List AV → H → (List AV → H → Option R) → Option R := fun vs h kc11 => (fun x12 x13 x14 x15 => aCmpI ilt x15 x14 h fun x16 h => withBool x16 fun t17 => bc t17 (aIdxAddr 1 x13 x15 h fun x18 h => aLoad x18 h fun x19 h => bindR (c_impl_TreeTurned F g x19 h) fun x20 h => aExtract x20 0 h fun x21 h => aExtract x20 1 h fun x22 h => aBuildSlice 1 1 [(0, 1, x21)] h fun x23 h => aAppend 1 16 x12 x23 h fun x24 h => aArith iadd x15 (AV.int 3 (Int.ofNat 1)) h fun x25 h => kc11 [x24, x13, x14, x25] h) (some (x12, h))) (hd vs) (hd (tl vs)) (hd (tl (tl vs))) (hd (tl (tl (tl vs))))
noncomputable def c_impl_besides (F g : Nat) (a0 : AV) (h : H) : Option R := bindR (c_impl_PairTurns F g a0 h) fun x1 h => aExtract x1 0 h fun x2 h => aExtract x1 1 h fun x3 h => bindR (c_impl_TreeTurned F g a0 h) fun x4 h => aExtract x4 0 h fun x5 h => aExtract x4 1 h fun x6 h => bindR (c_impl_PairTurns F g x5 h) fun x7 h => aExtract x7 0 h fun x8 h => aExtract x7 1 h fun x9 h => aLenK 1 x8 h fun x10 h => loopD F (c_impl_besides_l1 F g) [x2, x8, x10, (AV.int 3 (Int.ofNat 0))] h
noncomputable def A_impl_besides : An := (.two .o (.two .o (.two .o (.two .o (.two (.two .o (.two (.at_ [3, 28, 29, 30] (.two .o (.two (.two .o .o) (.two (.two (.two .o (.two .o .o)) .o) .o))) .o) .o)) (.two .o .o))))))
noncomputable def b_impl_besides : Code := bodyOf Go.Proofs.Try.f57
theorem k_impl_besides (F g : Nat) (a0 : AV) (h : H) : callD Go.Proofs.Try.prog (Env.add (Env.add (fun _ _ _ => none : Env) 72 (u1 (c_impl_PairTurns F g))) 17 (u1 (c_impl_TreeTurned F g))) 45 F b_impl_besides [2] A_impl_besides [a0] h = c_impl_besides F g a0 h := by kernel_rfl
theorem s_impl_besides (F g : Nat) : ∀ args h r, u1 (c_impl_besides F g) args h = some r → Tri Go.Proofs.Try.prog 57 args h r := by
  intro args h r e; obtain ⟨a0, rfl, e1⟩ := u1_some e; exact fn_sound Go.Proofs.Try.func57 rfl rfl rfl Go.Proofs.Try.ntmps57 (Sound.add (Sound.add (Sound.none _) (s_impl_PairTurns F g)) (s_impl_TreeTurned F g)) ((k_impl_besides F g a0 h).trans e1)

-- "loop.example/treenumbers/spec.l1Opens"
noncomputable def c_spec_l1Opens_j1 (F g : Nat) (kc2 : List AV → H → Option R) (vs : List AV) (h : H) : Option R := (fun x9 x10 x11 => aArith iadd x11 (AV.int 3 (Int.ofNat 1)) h fun x12 h => kc2 [x9, x10, x12] h) (hd vs) (hd (tl vs)) (hd (tl (tl vs)))
noncomputable def c_spec_l1Opens_l2 (F g : Nat) : List AV → H → (List AV → H → Option R) → Option R := fun vs h kc2 => (fun x3 x4 x5 => aLenK 0 x3 h fun x6 h => aCmpI ilt x5 x6 h fun x7 h => withBool x7 fun t8 => bc t8 (aIdxStr x3 x5 h fun x13 h => aCmpI ieq x13 (AV.int 4 (Int.ofNat 40)) h fun x14 h => withBool x14 fun t15 => bc t15 (aBuildSlice 1 1 [(0, 1, x5)] h fun x16 h => aAppend 1 8 x4 x16 h fun x17 h => (c_spec_l1Opens_j1 F g kc2) [x3, x17, x5] h) ((c_spec_l1Opens_j1 F g kc2) [x3, x4, x5] h)) (some (x4, h))) (hd vs) (hd (tl vs)) (hd (tl (tl vs)))
noncomputable def c_spec_l1Opens (F g : Nat) (a0 : AV) (h : H) : Option R := aBuildSlice 0 1 [] h fun x1 h => loopD F (c_spec_l1Opens_l2 F g) [a0, x1, (AV.int 3 (Int.ofNat 0))] h
noncomputable def A_spec_l1Opens : An := (.two .o (.two .o (.two (.two .o (.two (.at_ [0, 3, 4] (.two (.two .o (.two .o .o)) (.at_ [0, 3, 4] (.two (.two .o (.two .o .o)) .o) .o)) .o) .o)) (.two .o .o))))
noncomputable def b_spec_l1Opens : Code := bodyOf Go.Proofs.Try.f75
theorem k_spec_l1Opens (F g : Nat) (a0 : AV) (h : H) : callD Go.Proofs.Try.prog (fun _ _ _ => none : Env) 21 F b_spec_l1Opens [2] A_spec_l1Opens [a0] h = c_spec_l1Opens F g a0 h := by kernel_rfl
theorem s_spec_l1Opens (F g : Nat) : ∀ args h r, u1 (c_spec_l1Opens F g) args h = some r → Tri Go.Proofs.Try.prog 75 args h r := by
  intro args h r e; obtain ⟨a0, rfl, e1⟩ := u1_some e; exact fn_sound Go.Proofs.Try.func75 rfl rfl rfl Go.Proofs.Try.ntmps75 (Sound.none _) ((k_spec_l1Opens F g a0 h).trans e1)

-- "loop.example/treenumbers/spec.l1End"
noncomputable def c_spec_l1End_j1 (F g : Nat) (kc1 : List AV → H → Option R) (vs : List AV) (h : H) : Option R := (fun x8 x9 x10 => aCmpI ieq x9 (AV.int 3 (Int.ofNat 0)) h fun x11 h => withBool x11 fun t12 => bc t12 (aArith iadd x10 (AV.int 3 (Int.ofNat 1)) h fun x13 h => some (x13, h)) (aCmpI ilt x9 (AV.int 3 (Int.ofNat 0)) h fun x14 h => withBool x14 fun t15 => bc t15 (some ((AV.int 3 (Int.negSucc 0)), h)) (aArith iadd x10 (AV.int 3 (Int.ofNat 1)) h fun x16 h => kc1 [x8, x9, x16] h))) (hd vs) (hd (tl vs)) (hd (tl (tl vs)))
noncomputable def c_spec_l1End_l2 (F g : Nat) : List AV → H → (List AV → H → Option R) → Option R := fun vs h kc1 => (fun x2 x3 x4 => aLenK 0 x2 h fun x5 h => aCmpI ilt x4 x5 h fun x6 h => withBool x6 fun t7 => bc t7 (aIdxStr x2 x4 h fun x17 h => aCmpI ieq x17 (AV.int 4 (Int.ofNat 40)) h fun x18 h => withBool x18 fun t19 => bc t19 (aArith iadd x3 (AV.int 3 (Int.ofNat 1)) h fun x20 h => (c_spec_l1End_j1 F g kc1) [x2, x20, x4] h) (aCmpI ieq x17 (AV.int 4 (Int.ofNat 41)) h fun x21 h => withBool x21 fun t22 => bc t22 (aArith isub x3 (AV.int 3 (Int.ofNat 1)) h fun x23 h => (c_spec_l1End_j1 F g kc1) [x2, x23, x4] h) (some ((AV.int 3 (Int.negSucc 0)), h)))) (some ((AV.int 3 (Int.negSucc 0)), h))) (hd vs) (hd (tl vs)) (hd (tl (tl vs)))
noncomputable def c_spec_l1End (F g : Nat) (a0 a1 : AV) (h : H) : Option R := loopD F (c_spec_l1End_l2 F g) [a0, (AV.int 3 (Int.ofNat 0)), a1] h
noncomputable def A_spec_l1End : An := (.two .o (.two .o (.two (.two .o (.two (.at_ [0, 5, 6] (.two (.two .o (.two .o .o)) (.two (.two (.at_ [0, 5, 6] (.two .o (.two (.two .o (.two .o (.two .o (.two .o (.two .o .o))))) .o)) (.two (.two .o (.two (.two .o .o) .o)) (.two .o (.two (.two .o .o) .o)))) .o) .o)) .o) .o)) (.two .o .o))))
noncomputable def b_spec_l1End : Code := bodyOf Go.Proofs.Try.f47
theorem k_spec_l1End (F g : Nat) (a0 a1 : AV) (h : H) : callD Go.Proofs.Try.prog (fun _ _ _ => none : Env) 31 F b_spec_l1End [4] A_spec_l1End [a0, a1] h = c_spec_l1End F g a0 a1 h := by kernel_rfl
theorem s_spec_l1End (F g : Nat) : ∀ args h r, u2 (c_spec_l1End F g) args h = some r → Tri Go.Proofs.Try.prog 47 args h r := by
  intro args h r e; obtain ⟨a0, a1, rfl, e1⟩ := u2_some e; exact fn_sound Go.Proofs.Try.func47 rfl rfl rfl Go.Proofs.Try.ntmps47 (Sound.none _) ((k_spec_l1End F g a0 a1 h).trans e1)

-- "loop.example/treenumbers/spec.l1Kids"
noncomputable def c_spec_l1Kids_l1 (F g : Nat) : List AV → H → (List AV → H → Option R) → Option R := fun vs h kc2 => (fun x3 x4 x5 => aLenK 0 x3 h fun x6 h => aArith isub x6 (AV.int 3 (Int.ofNat 1)) h fun x7 h => aCmpI ilt x5 x7 h fun x8 h => withBool x8 fun t9 => bc t9 (bindR (c_spec_l1End F g x3 x5 h) fun x10 h => aSliceS x3 (some x5) (some x10) none h fun x11 h => aBuildSlice 1 1 [(0, 1, x11)] h fun x12 h => aAppend 1 16 x4 x12 h fun x13 h => kc2 [x3, x13, x10] h) (some (x4, h))) (hd vs) (hd (tl vs)) (hd (tl (tl vs)))
noncomputable def c_spec_l1Kids (F g : Nat) (a0 : AV) (h : H) : Option R := aBuildSlice 0 1 [] h fun x1 h => loopD F (c_spec_l1Kids_l1 F g) [a0, x1, (AV.int 3 (Int.ofNat 1))] h
noncomputable def A_spec_l1Kids : An := (.two .o (.two .o (.two .o (.two (.two (.at_ [0, 3, 4] (.two (.two .o (.two .o .o)) (.two (.two .o (.two .o .o)) .o)) .o) .o) (.two .o .o)))))
noncomputable def b_spec_l1Kids : Code := bodyOf Go.Proofs.Try.f48
theorem k_spec_l1Kids (F g : Nat) (a0 : AV) (h : H) : callD Go.Proofs.Try.prog (Env.add (fun _ _ _ => none : Env) 47 (u2 (c_spec_l1End F g))) 24 F b_spec_l1Kids [2] A_spec_l1Kids [a0] h = c_spec_l1Kids F g a0 h := by kernel_rfl
theorem s_spec_l1Kids (F g : Nat) : ∀ args h r, u1 (c_spec_l1Kids F g) args h = some r → Tri Go.Proofs.Try.prog 48 args h r := by
  intro args h r e; obtain ⟨a0, rfl, e1⟩ := u1_some e; exact fn_sound Go.Proofs.Try.func48 rfl rfl rfl Go.Proofs.Try.ntmps48 (Sound.add (Sound.none _) (s_spec_l1End F g)) ((k_spec_l1Kids F g a0 h).trans e1)

-- "loop.example/treenumbers/spec.l8Turn"
noncomputable def c_spec_l8Turn_j1 (F g : Nat) (vs : List AV) (h : H) : Option R := (fun x4 x5 x6 => aPick x5 (AV.bool true) x6 h fun x7 h => withBool x7 fun t8 => bc t8 (some ((AV.str [] 0), h)) (aIdxAddr 1 x4 (AV.int 3 (Int.ofNat 0)) h fun x9 h => aLoad x9 h fun x10 h => bindR (c_spec_l1Kids F g x10 h) fun x11 h => aIdxAddr 1 x11 (AV.int 3 (Int.ofNat 0)) h fun x12 _ => aLoad x12 h fun x13 _ => aSAdd (AV.str [40] 1) x13 h fun x14 _ => aSAdd x14 (AV.str [40] 1) h fun x15 _ => aIdxAddr 1 x11 (AV.int 3 (Int.ofNat 1)) h fun x16 _ => aLoad x16 h fun x17 _ => aSAdd x15 x17 h fun x18 _ => aIdxAddr 1 x4 (AV.int 3 (Int.ofNat 1)) h fun x19 _ => aLoad x19 h fun x20 _ => aSAdd x18 x20 h fun x21 _ => aSAdd x21 (AV.str [41, 41] 2) h fun x22 _ => some (x22, h))) (hd vs) (hd (tl vs)) (hd (tl (tl vs)))
noncomputable def c_spec_l8Turn (F g : Nat) (a0 : AV) (h : H) : Option R := bindR (c_spec_l1Kids F g a0 h) fun x1 h => aLenK 1 x1 h fun x2 h => aCmpI ieq x2 (AV.int 3 (Int.ofNat 0)) h fun x3 h => guardB false x3 (aIdxAddr 1 x1 (AV.int 3 (Int.ofNat 0)) h fun x23 h => aLoad x23 h fun x24 h => aLenK 0 x24 h fun x25 h => aCmpI ieq x25 (AV.int 3 (Int.ofNat 2)) h fun x26 h => (c_spec_l8Turn_j1 F g) [x1, x3, x26] h) ((c_spec_l8Turn_j1 F g) [x1, x3, (AV.one .tup (AV.leaf .nil))] h)
noncomputable def A_spec_l8Turn : An := (.two .o (.two .o (.two (.two (.at_ [3, 10, 15] .o .o) (.two (.two .o .o) .o)) (.two .o (.two .o .o)))))
noncomputable def b_spec_l8Turn : Code := bodyOf Go.Proofs.Try.f76
theorem k_spec_l8Turn (F g : Nat) (a0 : AV) (h : H) : callD Go.Proofs.Try.prog (Env.add (fun _ _ _ => none : Env) 48 (u1 (c_spec_l1Kids F g))) 35 F b_spec_l8Turn [2] A_spec_l8Turn [a0] h = c_spec_l8Turn F g a0 h := by kernel_rfl
theorem s_spec_l8Turn (F g : Nat) : ∀ args h r, u1 (c_spec_l8Turn F g) args h = some r → Tri Go.Proofs.Try.prog 76 args h r := by
  intro args h r e; obtain ⟨a0, rfl, e1⟩ := u1_some e; exact fn_sound Go.Proofs.Try.func76 rfl rfl rfl Go.Proofs.Try.ntmps76 (Sound.add (Sound.none _) (s_spec_l1Kids F g)) ((k_spec_l8Turn F g a0 h).trans e1)

-- "loop.example/treenumbers/spec.l8At"
noncomputable def c_spec_l8At (F g : Nat) (a0 a1 : AV) (h : H) : Option R := bindR (c_spec_l1Opens F g a0 h) fun x1 h => aIdxAddr 1 x1 a1 h fun x2 h => aLoad x2 h fun x3 h => bindR (c_spec_l1End F g a0 x3 h) fun x4 h => aSliceS a0 (some x3) (some x4) none h fun x5 h => bindR (c_spec_l8Turn F g x5 h) fun x6 h => aCmpS eqL x6 (AV.str [] 0) h fun x7 h => withBool x7 fun t8 => bc t8 (some ((AV.str [] 0), h)) (aSliceS a0 none (some x3) none h fun x9 _ => aSAdd x9 x6 h fun x10 _ => aSliceS a0 (some x4) none none h fun x11 _ => aSAdd x10 x11 h fun x12 _ => some (x12, h))
noncomputable def A_spec_l8At : An := (.two .o (.two .o (.two .o (.two .o (.two (.two .o (.two (.two .o .o) .o)) (.two .o .o))))))
noncomputable def b_spec_l8At : Code := bodyOf Go.Proofs.Try.f61
theorem k_spec_l8At (F g : Nat) (a0 a1 : AV) (h : H) : callD Go.Proofs.Try.prog (Env.add (Env.add (Env.add (fun _ _ _ => none : Env) 75 (u1 (c_spec_l1Opens F g))) 47 (u2 (c_spec_l1End F g))) 76 (u1 (c_spec_l8Turn F g))) 32 F b_spec_l8At [4] A_spec_l8At [a0, a1] h = c_spec_l8At F g a0 a1 h := by kernel_rfl
theorem s_spec_l8At (F g : Nat) : ∀ args h r, u2 (c_spec_l8At F g) args h = some r → Tri Go.Proofs.Try.prog 61 args h r := by
  intro args h r e; obtain ⟨a0, a1, rfl, e1⟩ := u2_some e; exact fn_sound Go.Proofs.Try.func61 rfl rfl rfl Go.Proofs.Try.ntmps61 (Sound.add (Sound.add (Sound.add (Sound.none _) (s_spec_l1Opens F g)) (s_spec_l1End F g)) (s_spec_l8Turn F g)) ((k_spec_l8At F g a0 a1 h).trans e1)

-- "loop.example/treenumbers/spec.l8Put"
noncomputable def c_spec_l8Put_j1 (F g : Nat) (vs : List AV) (h : H) : Option R := (fun x16 x17 x18 x19 x20 => aPick x19 x20 (AV.bool false) h fun x21 h => withBool x21 fun t22 => bc t22 (some (x16, h)) (aBuildSlice 0 1 [] h fun x23 h => aSliceV 1 x16 none (some x18) none h fun x24 _ => aAppend 1 16 x23 x24 h fun x25 h => aBuildSlice 1 1 [(0, 1, x17)] h fun x26 h => aAppend 1 16 x25 x26 h fun x27 h => aSliceV 1 x16 (some x18) none none h fun x28 _ => aAppend 1 16 x27 x28 h fun x29 h => some (x29, h))) (hd vs) (hd (tl vs)) (hd (tl (tl vs))) (hd (tl (tl (tl vs)))) (hd (tl (tl (tl (tl vs)))))
noncomputable def c_spec_l8Put_j2 (F g : Nat) (kc2 : List AV → H → Option R) (vs : List AV) (h : H) : Option R := (fun x7 x8 x9 x10 x11 => aPick x10 x11 (AV.bool false) h fun x12 h => withBool x12 fun t13 => bc t13 (aArith isub x9 (AV.int 3 (Int.ofNat 1)) h fun x14 h => kc2 [x7, x8, x14] h) (aCmpI (fun a b => ilt b a) x9 (AV.int 3 (Int.ofNat 0)) h fun x15 h => guardB true x15 (aArith isub x9 (AV.int 3 (Int.ofNat 1)) h fun x30 h => aIdxAddr 1 x7 x30 h fun x31 h => aLoad x31 h fun x32 h => aCmpS eqL x32 x8 h fun x33 h => (c_spec_l8Put_j1 F g) [x7, x8, x9, x15, x33] h) ((c_spec_l8Put_j1 F g) [x7, x8, x9, x15, (AV.one .tup (AV.leaf .nil))] h))) (hd vs) (hd (tl vs)) (hd (tl (tl vs))) (hd (tl (tl (tl vs)))) (hd (tl (tl (tl (tl vs)))))
noncomputable def c_spec_l8Put_l3 (F g : Nat) : List AV → H → (List AV → H → Option R) → Option R := fun vs h kc2 => (fun x3 x4 x5 => aCmpI (fun a b => ilt b a) x5 (AV.int 3 (Int.ofNat 0)) h fun x6 h => guardB true x6 (aArith isub x5 (AV.int 3 (Int.ofNat 1)) h fun x34 h => aIdxAddr 1 x3 x34 h fun x35 h => aLoad x35 h fun x36 h => aCmpS ltL x4 x36 h fun x37 h => (c_spec_l8Put_j2 F g kc2) [x3, x4, x5, x6, x37] h) ((c_spec_l8Put_j2 F g kc2) [x3, x4, x5, x6, (AV.one .tup (AV.leaf .nil))] h)) (hd vs) (hd (tl vs)) (hd (tl (tl vs)))
noncomputable def c_spec_l8Put (F g : Nat) (a0 a1 : AV) (h : H) : Option R := aLenK 1 a0 h fun x1 h => loopD F (c_spec_l8Put_l3 F g) [a0, a1, x1] h
noncomputable def A_spec_l8Put : An := (.two .o (.two .o (.two (.two (.at_ [0, 1, 5] (.two (.two (.at_ [0, 1, 5, 10, 17] .o .o) (.two .o .o)) (.two .o .o)) .o) .o) (.two (.two (.at_ [0, 1, 5, 23, 30] .o .o) (.two (.two .o .o) .o)) (.two .o .o)))))
noncomputable def b_spec_l8Put : Code := bodyOf Go.Proofs.Try.f62
theorem k_spec_l8Put (F g : Nat) (a0 a1 : AV) (h : H) : callD Go.Proofs.Try.prog (fun _ _ _ => none : Env) 45 F b_spec_l8Put [4] A_spec_l8Put [a0, a1] h = c_spec_l8Put F g a0 a1 h := by kernel_rfl
theorem s_spec_l8Put (F g : Nat) : ∀ args h r, u2 (c_spec_l8Put F g) args h = some r → Tri Go.Proofs.Try.prog 62 args h r := by
  intro args h r e; obtain ⟨a0, a1, rfl, e1⟩ := u2_some e; exact fn_sound Go.Proofs.Try.func62 rfl rfl rfl Go.Proofs.Try.ntmps62 (Sound.none _) ((k_spec_l8Put F g a0 a1 h).trans e1)

-- "loop.example/treenumbers/spec.l8Turns"
noncomputable def c_spec_l8Turns_j1 (F g : Nat) (kc2 : List AV → H → Option R) (vs : List AV) (h : H) : Option R := (fun x10 x11 x12 => aArith iadd x12 (AV.int 3 (Int.ofNat 1)) h fun x13 h => kc2 [x10, x11, x13] h) (hd vs) (hd (tl vs)) (hd (tl (tl vs)))
noncomputable def c_spec_l8Turns_l2 (F g : Nat) : List AV → H → (List AV → H → Option R) → Option R := fun vs h kc2 => (fun x3 x4 x5 => aLenK 0 x3 h fun x6 h => aQuo x6 (AV.int 3 (Int.ofNat 2)) h fun x7 h => aCmpI ilt x5 x7 h fun x8 h => withBool x8 fun t9 => bc t9 (bindR (c_spec_l8At F g x3 x5 h) fun x14 h => aCmpS (fun a b => bnot (eqL a b)) x14 (AV.str [] 0) h fun x15 h => withBool x15 fun t16 => bc t16 (bindR (c_spec_l8Put F g x4 x14 h) fun x17 h => (c_spec_l8Turns_j1 F g kc2) [x3, x17, x5] h) ((c_spec_l8Turns_j1 F g kc2) [x3, x4, x5] h)) (some (x4, h))) (hd vs) (hd (tl vs)) (hd (tl (tl vs)))
noncomputable def c_spec_l8Turns (F g : Nat) (a0 : AV) (h : H) : Option R := aBuildSlice 0 1 [] h fun x1 h => loopD F (c_spec_l8Turns_l2 F g) [a0, x1, (AV.int 3 (Int.ofNat 0))] h
noncomputable def A_spec_l8Turns : An := (.two .o (.two .o (.two (.two .o (.two (.at_ [0, 3, 4] (.two (.two .o (.two .o .o)) (.at_ [0, 3, 4] (.two (.two .o (.two .o (.two .o .o))) .o) .o)) .o) .o)) (.two .o .o))))
noncomputable def b_spec_l8Turns : Code := bodyOf Go.Proofs.Try.f36
theorem k_spec_l8Turns (F g : Nat) (a0 : AV) (h : H) : callD Go.Proofs.Try.prog (Env.add (Env.add (fun _ _ _ => none : Env) 61 (u2 (c_spec_l8At F g))) 62 (u2 (c_spec_l8Put F g))) 23 F b_spec_l8Turns [2] A_spec_l8Turns [a0] h = c_spec_l8Turns F g a0 h := by kernel_rfl
theorem s_spec_l8Turns (F g : Nat) : ∀ args h r, u1 (c_spec_l8Turns F g) args h = some r → Tri Go.Proofs.Try.prog 36 args h r := by
  intro args h r e; obtain ⟨a0, rfl, e1⟩ := u1_some e; exact fn_sound Go.Proofs.Try.func36 rfl rfl rfl Go.Proofs.Try.ntmps36 (Sound.add (Sound.add (Sound.none _) (s_spec_l8At F g)) (s_spec_l8Put F g)) ((k_spec_l8Turns F g a0 h).trans e1)

-- "loop.example/treenumbers/spec.TreeTurned"
noncomputable def c_spec_TreeTurned_l1 (F g : Nat) : List AV → H → (List AV → H → Option R) → Option R := fun vs h kc7 => (fun x8 x9 x10 => aCmpI (fun a b => ile b a) x10 (AV.int 3 (Int.ofNat 0)) h fun x11 h => withBool x11 fun t12 => bc t12 (aIdxStr x8 x10 h fun x13 h => aArith isub (AV.int 4 (Int.ofNat 81)) x13 h fun x14 h => aBuildSlice 1 1 [(0, 1, x14)] h fun x15 h => aAppend 1 1 x9 x15 h fun x16 h => aArith isub x10 (AV.int 3 (Int.ofNat 1)) h fun x17 h => kc7 [x8, x16, x17] h) (aB2S x9 h fun x18 h => some (AV.one .tup (AV.cons x18 (AV.cons (AV.bool true) (AV.leaf .nil))), h))) (hd vs) (hd (tl vs)) (hd (tl (tl vs)))
noncomputable def c_spec_TreeTurned (F g : Nat) (a0 : AV) (h : H) : Option R := bindR (c_spec_TreeIn F g a0 h) fun x1 h => aNot x1 h fun x2 h => withBool x2 fun t3 => bc t3 (some (AV.one .tup (AV.cons (AV.str [] 0) (AV.cons (AV.bool false) (AV.leaf .nil))), h)) (aBuildSlice 0 1 [] h fun x4 h => aLenK 0 a0 h fun x5 h => aArith isub x5 (AV.int 3 (Int.ofNat 1)) h fun x6 h => loopD F (c_spec_TreeTurned_l1 F g) [a0, x4, x6] h)
noncomputable def A_spec_TreeTurned : An := (.two .o (.two (.two .o (.two (.two .o .o) .o)) (.two .o (.two (.two .o (.two (.at_ [0, 4, 5] (.two (.two .o (.two .o .o)) (.two (.two .o .o) .o)) .o) .o)) (.two .o .o)))))
noncomputable def b_spec_TreeTurned : Code := bodyOf Go.Proofs.Try.f63
theorem k_spec_TreeTurned (F g : Nat) (a0 : AV) (h : H) : callD Go.Proofs.Try.prog (Env.add (fun _ _ _ => none : Env) 25 (u1 (c_spec_TreeIn F g))) 26 F b_spec_TreeTurned [2, 3] A_spec_TreeTurned [a0] h = c_spec_TreeTurned F g a0 h := by kernel_rfl
theorem s_spec_TreeTurned (F g : Nat) : ∀ args h r, u1 (c_spec_TreeTurned F g) args h = some r → Tri Go.Proofs.Try.prog 63 args h r := by
  intro args h r e; obtain ⟨a0, rfl, e1⟩ := u1_some e; exact fn_sound Go.Proofs.Try.func63 rfl rfl rfl Go.Proofs.Try.ntmps63 (Sound.add (Sound.none _) (s_spec_TreeIn F g)) ((k_spec_TreeTurned F g a0 h).trans e1)

-- "loop.example/treenumbers/spec.l8Undone"
noncomputable def c_spec_l8Undone_l1 (F g : Nat) : List AV → H → (List AV → H → Option R) → Option R := fun vs h kc6 => (fun x7 x8 x9 => aLenK 1 x7 h fun x10 h => aCmpI ilt x9 x10 h fun x11 h => withBool x11 fun t12 => bc t12 (aIdxAddr 1 x7 x9 h fun x13 h => aLoad x13 h fun x14 h => bindR (c_spec_TreeTurned F g x14 h) fun x15 h => aExtract x15 0 h fun x16 h => aExtract x15 1 h fun x17 h => aBuildSlice 1 1 [(0, 1, x16)] h fun x18 h => aAppend 1 16 x8 x18 h fun x19 h => aArith iadd x9 (AV.int 3 (Int.ofNat 1)) h fun x20 h => kc6 [x7, x19, x20] h) (some (x8, h))) (hd vs) (hd (tl vs)) (hd (tl (tl vs)))
noncomputable def c_spec_l8Undone (F g : Nat) (a0 : AV) (h : H) : Option R := bindR (c_spec_TreeTurned F g a0 h) fun x1 h => aExtract x1 0 h fun x2 h => aExtract x1 1 h fun x3 h => bindR (c_spec_l8Turns F g x2 h) fun x4 h => aBuildSlice 0 1 [] h fun x5 h => loopD F (c_spec_l8Undone_l1 F g) [x4, x5, (AV.int 3 (Int.ofNat 0))] h
noncomputable def A_spec_l8Undone : An := (.two .o (.two .o (.two .o (.two .o (.two (.two .o (.two (.at_ [5, 6, 7] (.two (.two .o (.two .o .o)) (.two (.two (.two .o .o) .o) .o)) .o) .o)) (.two .o .o))))))
noncomputable def b_spec_l8Undone : Code := bodyOf Go.Proofs.Try.f37
theorem k_spec_l8Undone (F g : Nat) (a0 : AV) (h : H) : callD Go.Proofs.Try.prog (Env.add (Env.add (fun _ _ _ => none : Env) 63 (u1 (c_spec_TreeTurned F g))) 36 (u1 (c_spec_l8Turns F g))) 37 F b_spec_l8Undone [2] A_spec_l8Undone [a0] h = c_spec_l8Undone F g a0 h := by kernel_rfl
theorem s_spec_l8Undone (F g : Nat) : ∀ args h r, u1 (c_spec_l8Undone F g) args h = some r → Tri Go.Proofs.Try.prog 37 args h r := by
  intro args h r e; obtain ⟨a0, rfl, e1⟩ := u1_some e; exact fn_sound Go.Proofs.Try.func37 rfl rfl rfl Go.Proofs.Try.ntmps37 (Sound.add (Sound.add (Sound.none _) (s_spec_TreeTurned F g)) (s_spec_l8Turns F g)) ((k_spec_l8Undone F g a0 h).trans e1)

end
end Go.AI.T.BB
namespace Go.AI.T.BB
open Go Go.RowKit Go.AI
set_option linter.unusedVariables false
set_option linter.unusedSimpArgs false
set_option maxRecDepth 100000
noncomputable section
variable {P : Program}
theorem CellsR.plain {ι ι' : Inj} {l : List AV} {c : Array Value} {o : Nat} (hp : ∀ a ∈ l, a.plain = true) (hc : CellsR ι l c o) : CellsR ι' l c o :=
  fun i a hi => let ⟨v, h1, h2⟩ := hc i a hi; ⟨v, h1, plain_mono (hp a (List.mem_of_getElem? hi)) h2⟩

theorem row_rel {ι ι' : Inj} {h h' : H} {w w' : World} (r : Rel ι h w) (hb : Below w.heap.size w w') (r' : Rel ι' h' w') {b B base sz fl : Nat} {l : List AV}
    (eb : ι' b = some (B, base, sz)) (hB : w.heap.size ≤ B) (hg : h'.get b = .cells fl l) (hfl : fl < 4) (hp : ∀ a ∈ l, a.plain = true) :
    Ext ι h w (ι.add h.n (B, base, sz)) (h.push (.cells fl l)) w' ∧ Rel (ι.add h.n (B, base, sz)) (h.push (.cells fl l)) w' := by
  have hBlt := r'.lt _ _ _ _ eb
  refine ⟨⟨Inj.le_add r.noId, hb.os, hb.tape, hb.output, hb.size, fun C hC _ => hb.block C hC, ?_, Nat.le_succ _, Nat.le_refl _, ?_, ?_, ?_⟩, ⟨?_, ?_, ?_, ?_, ?_⟩⟩
  · intro C ⟨c, o', s', e, ho⟩
    unfold Inj.add at e
    rw [H.get_push] at ho
    split at e
    · cases e; exact .inr hB
    · rename_i hn; rw [if_neg hn] at ho; exact .inl ⟨c, o', s', e, ho⟩
  · intro c _ hc; rw [H.get_push, if_neg (by omega)]
  · intro c C o' s' _ _ _ e; exact hb.block _ (r.lt _ _ _ _ e)
  · intro c C o' s' e
    unfold Inj.add at e
    split at e
    · cases e; exact .inr hB
    · exact .inl ⟨c, _, _, e⟩
  · intro c y e
    unfold Inj.add at e; rw [H.n_push]
    split at e
    · omega
    · have := r.fresh _ _ e; omega
  · intro c C o' s' e
    unfold Inj.add at e
    split at e
    · cases e; exact hBlt
    · exact Nat.lt_of_lt_of_le (r.lt _ _ _ _ e) hb.size
  · intro c d C o1 s1 o2 s2 hc hd ec ed
    unfold Inj.add at ec ed
    rw [H.get_push] at hc hd
    split at ec
    · cases ec
      split at ed
      · omega
      · have := r.lt _ _ _ _ ed; omega
    · rename_i hcn
      rw [if_neg hcn] at hc
      split at ed
      · cases ed; have := r.lt _ _ _ _ ec; omega
      · rename_i hdn; rw [if_neg hdn] at hd; exact r.inj c d C o1 s1 o2 s2 hc hd ec ed
  · intro c hc
    rw [H.get_push] at hc ⊢
    by_cases hcn : c = h.n
    · subst hcn
      refine ⟨B, base, sz, by simp [Inj.add], ?_⟩
      rw [if_pos rfl]
      obtain ⟨B1, o1, s1, e1, hR⟩ := r'.blk b (by rw [hg]; intro h; cases h)
      rw [eb] at e1; cases e1
      rw [hg] at hR
      obtain ⟨x, t, lo, hi, h1, h2, h3, h4⟩ := hR
      exact ⟨x, t, lo, hi, h1, h2, CellsR.plain hp h3, h4⟩
    · rw [if_neg hcn] at hc ⊢
      obtain ⟨C, o', s', e, hR⟩ := r.blk c hc
      refine ⟨C, o', s', by simp [Inj.add, hcn, e], ?_⟩
      rw [hb.block _ (r.lt _ _ _ _ e)]
      exact hR.mono (Inj.le_add r.noId)
  · intro c r2 e2 hp2
    rw [H.get_push] at hp2
    by_cases hcn : c = h.n
    · rw [if_pos hcn] at hp2
      obtain ⟨_, l2, hl⟩ := hp2
      injection hl with h1 _
      omega
    · rw [if_neg hcn] at hp2
      obtain ⟨⟨z1, k1⟩, k2⟩ := (r.grow hb).pin c r2 e2 hp2
      exact ⟨⟨z1, Inj.le_add r.noId _ _ k1⟩, k2⟩

theorem row_val {ι ι' : Inj} {b c o n es : Nat} {v : Value} (e : ι' b = ι c) (hv : VR ι' (.osl b o n es) v) : VR ι (.osl c o n es) v := by
  obtain ⟨A, k, h1, h2, h3⟩ := hv
  exact ⟨A, k, h1, h2, h3.imp id fun ⟨B, base, sz, e1, h'⟩ => ⟨B, base, sz, by rw [← e, e1], h'⟩⟩

theorem row_valOk {ι ι' : Inj} {b c o n es : Nat} {ok : AV} {v : Value} (e : ι' b = ι c) (hok : ok.plain = true) (hv : VR ι' (.one .tup (.cons (.osl b o n es) (.cons ok (.leaf .nil)))) v) :
    VR ι (.one .tup (.cons (.osl c o n es) (.cons ok (.leaf .nil)))) v := by
  obtain ⟨cs, h1, x, xs, h2, h3, y, ys, h4, h5, h6⟩ := hv
  exact ⟨cs, h1, x, xs, h2, row_val e h3, y, ys, h4, plain_mono hok h5, h6⟩

/-- A call over the empty memory with plain arguments that tells a row of plain values tells it over every memory. -/
theorem Tri.forgetRow {f : FuncId} {args : List AV} {h' : H} {b o n es fl : Nat} {l : List AV} (T : Tri P f args H0 (.osl b o n es, h')) (ha : ∀ a ∈ args, a.plain = true)
    (hg : h'.get b = .cells fl l) (hfl : fl < 4) (hp : ∀ a ∈ l, a.plain = true) (h : H) : Tri P f args h (.osl h.n o n es, h.push (.cells fl l)) :=
  ⟨T.can, fun ι w vs hR hV => (T.run (fun _ => Option.none) w vs (Rel.empty w) (VL.plain ha hV)).mono fun e w' ⟨x, ι', he, hx, hE, hR'⟩ => by
    obtain ⟨B, base, sz, eb, _⟩ := hR'.blk b (by rw [show h'.get b = _ from hg]; intro h; cases h)
    have hB : w.heap.size ≤ B := by
      rcases hE.dom b B base sz eb with ⟨c, q, z, ec⟩ | hB
      · cases ec
      · exact hB
    obtain ⟨hE2, hR2⟩ := row_rel hR hE.below hR' eb hB hg hfl hp
    exact ⟨x, _, he, row_val (by rw [eb]; simp [Inj.add]) hx, hE2, hR2⟩⟩

theorem Tri.sl0 {P : Program} {f : FuncId} {args : List AV} {h h' : H} {b o : Nat} (T : Tri P f args h (.leaf (.sl b o 0 0), h')) : Tri P f args h (.osl b o 0 1, h') :=
  ⟨T.can, fun ι w vs hR hV => (T.run ι w vs hR hV).mono fun e w' ⟨x, ι', he, hx, hE, hR'⟩ => ⟨x, ι', he, (by obtain ⟨B, base, sz, e1, hl⟩ := hx; exact ⟨_, 0, hl, Nat.le_refl _, .inl rfl⟩), hE, hR'⟩⟩
/-- A row over the empty memory, laid anew. -/
def rwH (n : Nat) (h h' : H) (b o es : Nat) : Option R := match h'.get b with
  | .cells fl l => bc (Nat.ble fl 3) (bc (l.all AV.plain) (some (.osl h.n o n es, h.push (.cells fl l))) none) none
  | _ => none
def rwC (c : AV → H → Option R) (a0 : AV) (h : H) : Option R := bc a0.plain (match c a0 H0 with
  | some (.osl b o n es, h') => rwH n h h' b o es
  | some (.leaf (.sl b o 0 0), h') => rwH 0 h h' b o 1
  | _ => none) none
theorem rwH_sound {P : Program} {f : FuncId} {a0 : AV} {n b o es : Nat} {h h' : H} {r : R} (T : Tri P f [a0] H0 (.osl b o n es, h')) (hp : a0.plain = true) (e : rwH n h h' b o es = some r) : Tri P f [a0] h r := by
  unfold rwH at e
  split at e
  · rename_i fl l hg
    obtain ⟨h1, e2⟩ := bif_some e
    obtain ⟨h2, e3⟩ := bif_some e2
    cases e3
    have := Nat.le_of_ble_eq_true h1
    exact Tri.forgetRow T (fun a hm => by cases hm with | head => exact hp | tail _ hm => cases hm) hg (by omega) (fun a ha => List.all_eq_true.1 h2 a ha) h
  · cases e
theorem rwC_sound {P : Program} {f : FuncId} {c : AV → H → Option R} (hs : ∀ args h r, u1 c args h = some r → Tri P f args h r) : ∀ args h r, u1 (rwC c) args h = some r → Tri P f args h r := by
  intro args h r e
  obtain ⟨a0, rfl, e1⟩ := u1_some e
  obtain ⟨h0, e1⟩ := bif_some e1
  split at e1
  · rename_i b o n es h' hc
    exact rwH_sound (hs [a0] H0 _ hc) h0 e1
  · rename_i b o h' hc
    exact rwH_sound (Tri.sl0 (hs [a0] H0 _ hc)) h0 e1
  · cases e1
def Tb := List (List Nat × List AV)
def look (l : List Nat) (T : List (List Nat × List AV)) : Option (List AV) := @List.rec (List Nat × List AV) (fun _ => Option (List AV)) none (fun p _ r => bc (eqL l p.1) (some p.2) r) T
theorem eqL_of' : ∀ {x y : List Nat}, eqL x y = true → x = y
  | [], [], _ => rfl
  | [], _ :: _, h => by cases h
  | _ :: _, [], h => by cases h
  | a :: x, b :: y, h => by
    rw [eqL_cons] at h
    cases h1 : Nat.beq a b with
    | false => rw [h1] at h; cases h
    | true => rw [h1, bc_true] at h; rw [Nat.eq_of_beq_eq_true h1, eqL_of' h]
theorem look_mem {l : List Nat} {row : List AV} : ∀ {T : List (List Nat × List AV)}, look l T = some row → (l, row) ∈ T
  | [], h => by cases h
  | p :: T, h => by
    have h : bc (eqL l p.1) (some p.2) (look l T) = some row := h
    cases h1 : eqL l p.1 with
    | true => rw [h1, bc_true] at h; cases h; rw [eqL_of' h1]; exact List.mem_cons_self ..
    | false => rw [h1, bc_false] at h; exact List.mem_cons_of_mem _ (look_mem h)
def tabC (fl : Nat) (T : List (List Nat × List AV)) (a0 : AV) (h : H) : Option R := withStr a0 fun l n => bc (Nat.beq (lenL l) n) (onSome (look l T) fun row => some (.osl h.n 0 row.length 1, h.push (.cells fl row))) none
theorem tabC_sound {P : Program} {f : FuncId} {c : AV → H → Option R} {fl : Nat} {T : List (List Nat × List AV)} (hs : ∀ args h r, u1 (rwC c) args h = some r → Tri P f args h r)
    (hT : ∀ p ∈ T, ∀ h, rwC c (.str p.1 (lenL p.1)) h = some (.osl h.n 0 p.2.length 1, h.push (.cells fl p.2))) : ∀ args h r, u1 (tabC fl T) args h = some r → Tri P f args h r := by
  intro args h r e
  obtain ⟨a0, rfl, e1⟩ := u1_some e
  obtain ⟨l, n, rfl, e2⟩ := withStr_some e1
  obtain ⟨hn, e3⟩ := bif_some e2
  have hn := Nat.eq_of_beq_eq_true hn
  obtain ⟨row, hr, e4⟩ := onSome_some e3
  cases e4
  have := hT (l, row) (look_mem hr) h
  rw [hn] at this
  exact hs [.str l n] h _ this
def T_impl_besides : List (List Nat × List AV) := [([40, 41], []), ([40, 40, 41, 40, 41, 41], []), ([40, 40, 41, 40, 40, 41, 40, 41, 41, 41], [.str [40, 40, 40, 41, 40, 41, 41, 40, 41, 41] 10]), ([40, 40, 40, 41, 40, 41, 41, 40, 41, 41], [.str [40, 40, 41, 40, 40, 41, 40, 41, 41, 41] 10]), ([40, 40, 41, 40, 40, 41, 40, 40, 41, 40, 41, 41, 41, 41], [.str [40, 40, 41, 40, 40, 40, 41, 40, 41, 41, 40, 41, 41, 41] 14, .str [40, 40, 40, 41, 40, 41, 41, 40, 40, 41, 40, 41, 41, 41] 14]), ([40, 40, 41, 40, 40, 40, 41, 40, 41, 41, 40, 41, 41, 41], [.str [40, 40, 41, 40, 40, 41, 40, 40, 41, 40, 41, 41, 41, 41] 14, .str [40, 40, 40, 41, 40, 40, 41, 40, 41, 41, 41, 40, 41, 41] 14]), ([40, 40, 40, 41, 40, 41, 41, 40, 40, 41, 40, 41, 41, 41], [.str [40, 40, 41, 40, 40, 41, 40, 40, 41, 40, 41, 41, 41, 41] 14, .str [40, 40, 40, 40, 41, 40, 41, 41, 40, 41, 41, 40, 41, 41] 14]), ([40, 40, 40, 41, 40, 40, 41, 40, 41, 41, 41, 40, 41, 41], [.str [40, 40, 41, 40, 40, 40, 41, 40, 41, 41, 40, 41, 41, 41] 14, .str [40, 40, 40, 40, 41, 40, 41, 41, 40, 41, 41, 40, 41, 41] 14]), ([40, 40, 40, 40, 41, 40, 41, 41, 40, 41, 41, 40, 41, 41], [.str [40, 40, 40, 41, 40, 40, 41, 40, 41, 41, 41, 40, 41, 41] 14, .str [40, 40, 40, 41, 40, 41, 41, 40, 40, 41, 40, 41, 41, 41] 14]), ([40, 40, 41, 40, 40, 41, 40, 40, 41, 40, 40, 41, 40, 41, 41, 41, 41, 41], [.str [40, 40, 41, 40, 40, 41, 40, 40, 40, 41, 40, 41, 41, 40, 41, 41, 41, 41] 18, .str [40, 40, 41, 40, 40, 40, 41, 40, 41, 41, 40, 40, 41, 40, 41, 41, 41, 41] 18, .str [40, 40, 40, 41, 40, 41, 41, 40, 40, 41, 40, 40, 41, 40, 41, 41, 41, 41] 18]), ([40, 40, 41, 40, 40, 41, 40, 40, 40, 41, 40, 41, 41, 40, 41, 41, 41, 41], [.str [40, 40, 41, 40, 40, 41, 40, 40, 41, 40, 40, 41, 40, 41, 41, 41, 41, 41] 18, .str [40, 40, 41, 40, 40, 40, 41, 40, 40, 41, 40, 41, 41, 41, 40, 41, 41, 41] 18, .str [40, 40, 40, 41, 40, 41, 41, 40, 40, 40, 41, 40, 41, 41, 40, 41, 41, 41] 18]), ([40, 40, 41, 40, 40, 40, 41, 40, 41, 41, 40, 40, 41, 40, 41, 41, 41, 41], [.str [40, 40, 41, 40, 40, 41, 40, 40, 41, 40, 40, 41, 40, 41, 41, 41, 41, 41] 18, .str [40, 40, 41, 40, 40, 40, 40, 41, 40, 41, 41, 40, 41, 41, 40, 41, 41, 41] 18, .str [40, 40, 40, 41, 40, 40, 41, 40, 41, 41, 41, 40, 40, 41, 40, 41, 41, 41] 18]), ([40, 40, 41, 40, 40, 40, 41, 40, 40, 41, 40, 41, 41, 41, 40, 41, 41, 41], [.str [40, 40, 41, 40, 40, 41, 40, 40, 40, 41, 40, 41, 41, 40, 41, 41, 41, 41] 18, .str [40, 40, 41, 40, 40, 40, 40, 41, 40, 41, 41, 40, 41, 41, 40, 41, 41, 41] 18, .str [40, 40, 40, 41, 40, 40, 41, 40, 40, 41, 40, 41, 41, 41, 41, 40, 41, 41] 18]), ([40, 40, 41, 40, 40, 40, 40, 41, 40, 41, 41, 40, 41, 41, 40, 41, 41, 41], [.str [40, 40, 41, 40, 40, 40, 41, 40, 40, 41, 40, 41, 41, 41, 40, 41, 41, 41] 18, .str [40, 40, 41, 40, 40, 40, 41, 40, 41, 41, 40, 40, 41, 40, 41, 41, 41, 41] 18, .str [40, 40, 40, 41, 40, 40, 40, 41, 40, 41, 41, 40, 41, 41, 41, 40, 41, 41] 18]), ([40, 40, 40, 41, 40, 41, 41, 40, 40, 41, 40, 40, 41, 40, 41, 41, 41, 41], [.str [40, 40, 41, 40, 40, 41, 40, 40, 41, 40, 40, 41, 40, 41, 41, 41, 41, 41] 18, .str [40, 40, 40, 41, 40, 41, 41, 40, 40, 40, 41, 40, 41, 41, 40, 41, 41, 41] 18, .str [40, 40, 40, 40, 41, 40, 41, 41, 40, 41, 41, 40, 40, 41, 40, 41, 41, 41] 18]), ([40, 40, 40, 41, 40, 41, 41, 40, 40, 40, 41, 40, 41, 41, 40, 41, 41, 41], [.str [40, 40, 40, 41, 40, 41, 41, 40, 40, 41, 40, 40, 41, 40, 41, 41, 41, 41] 18, .str [40, 40, 41, 40, 40, 41, 40, 40, 40, 41, 40, 41, 41, 40, 41, 41, 41, 41] 18, .str [40, 40, 40, 40, 41, 40, 41, 41, 40, 40, 41, 40, 41, 41, 41, 40, 41, 41] 18]), ([40, 40, 40, 41, 40, 40, 41, 40, 41, 41, 41, 40, 40, 41, 40, 41, 41, 41], [.str [40, 40, 41, 40, 40, 40, 41, 40, 41, 41, 40, 40, 41, 40, 41, 41, 41, 41] 18, .str [40, 40, 40, 40, 41, 40, 41, 41, 40, 41, 41, 40, 40, 41, 40, 41, 41, 41] 18, .str [40, 40, 40, 40, 41, 40, 40, 41, 40, 41, 41, 41, 40, 41, 41, 40, 41, 41] 18]), ([40, 40, 40, 40, 41, 40, 41, 41, 40, 41, 41, 40, 40, 41, 40, 41, 41, 41], [.str [40, 40, 40, 41, 40, 40, 41, 40, 41, 41, 41, 40, 40, 41, 40, 41, 41, 41] 18, .str [40, 40, 40, 41, 40, 41, 41, 40, 40, 41, 40, 40, 41, 40, 41, 41, 41, 41] 18, .str [40, 40, 40, 40, 40, 41, 40, 41, 41, 40, 41, 41, 40, 41, 41, 40, 41, 41] 18]), ([40, 40, 40, 41, 40, 40, 41, 40, 40, 41, 40, 41, 41, 41, 41, 40, 41, 41], [.str [40, 40, 41, 40, 40, 40, 41, 40, 40, 41, 40, 41, 41, 41, 40, 41, 41, 41] 18, .str [40, 40, 40, 41, 40, 40, 40, 41, 40, 41, 41, 40, 41, 41, 41, 40, 41, 41] 18, .str [40, 40, 40, 40, 41, 40, 41, 41, 40, 40, 41, 40, 41, 41, 41, 40, 41, 41] 18]), ([40, 40, 40, 41, 40, 40, 40, 41, 40, 41, 41, 40, 41, 41, 41, 40, 41, 41], [.str [40, 40, 40, 41, 40, 40, 41, 40, 40, 41, 40, 41, 41, 41, 41, 40, 41, 41] 18, .str [40, 40, 41, 40, 40, 40, 40, 41, 40, 41, 41, 40, 41, 41, 40, 41, 41, 41] 18, .str [40, 40, 40, 40, 41, 40, 40, 41, 40, 41, 41, 41, 40, 41, 41, 40, 41, 41] 18]), ([40, 40, 40, 40, 41, 40, 41, 41, 40, 40, 41, 40, 41, 41, 41, 40, 41, 41], [.str [40, 40, 40, 41, 40, 40, 41, 40, 40, 41, 40, 41, 41, 41, 41, 40, 41, 41] 18, .str [40, 40, 40, 41, 40, 41, 41, 40, 40, 40, 41, 40, 41, 41, 40, 41, 41, 41] 18, .str [40, 40, 40, 40, 40, 41, 40, 41, 41, 40, 41, 41, 40, 41, 41, 40, 41, 41] 18]), ([40, 40, 40, 40, 41, 40, 40, 41, 40, 41, 41, 41, 40, 41, 41, 40, 41, 41], [.str [40, 40, 40, 41, 40, 40, 40, 41, 40, 41, 41, 40, 41, 41, 41, 40, 41, 41] 18, .str [40, 40, 40, 41, 40, 40, 41, 40, 41, 41, 41, 40, 40, 41, 40, 41, 41, 41] 18, .str [40, 40, 40, 40, 40, 41, 40, 41, 41, 40, 41, 41, 40, 41, 41, 40, 41, 41] 18]), ([40, 40, 40, 40, 40, 41, 40, 41, 41, 40, 41, 41, 40, 41, 41, 40, 41, 41], [.str [40, 40, 40, 40, 41, 40, 40, 41, 40, 41, 41, 41, 40, 41, 41, 40, 41, 41] 18, .str [40, 40, 40, 40, 41, 40, 41, 41, 40, 40, 41, 40, 41, 41, 41, 40, 41, 41] 18, .str [40, 40, 40, 40, 41, 40, 41, 41, 40, 41, 41, 40, 40, 41, 40, 41, 41, 41] 18])]
theorem t_impl_besides_0 (h : H) : rwC (c_impl_besides 20000 20) (.str [40, 41] 2) h = some (.osl h.n 0 0 1, h.push (.cells 0 [])) := by kernel_rfl
theorem t_impl_besides_1 (h : H) : rwC (c_impl_besides 20000 20) (.str [40, 40, 41, 40, 41, 41] 6) h = some (.osl h.n 0 0 1, h.push (.cells 0 [])) := by kernel_rfl
theorem t_impl_besides_2 (h : H) : rwC (c_impl_besides 20000 20) (.str [40, 40, 41, 40, 40, 41, 40, 41, 41, 41] 10) h = some (.osl h.n 0 1 1, h.push (.cells 0 [.str [40, 40, 40, 41, 40, 41, 41, 40, 41, 41] 10])) := by kernel_rfl
theorem t_impl_besides_3 (h : H) : rwC (c_impl_besides 20000 20) (.str [40, 40, 40, 41, 40, 41, 41, 40, 41, 41] 10) h = some (.osl h.n 0 1 1, h.push (.cells 0 [.str [40, 40, 41, 40, 40, 41, 40, 41, 41, 41] 10])) := by kernel_rfl
theorem t_impl_besides_4 (h : H) : rwC (c_impl_besides 20000 20) (.str [40, 40, 41, 40, 40, 41, 40, 40, 41, 40, 41, 41, 41, 41] 14) h = some (.osl h.n 0 2 1, h.push (.cells 0 [.str [40, 40, 41, 40, 40, 40, 41, 40, 41, 41, 40, 41, 41, 41] 14, .str [40, 40, 40, 41, 40, 41, 41, 40, 40, 41, 40, 41, 41, 41] 14])) := by kernel_rfl
theorem t_impl_besides_5 (h : H) : rwC (c_impl_besides 20000 20) (.str [40, 40, 41, 40, 40, 40, 41, 40, 41, 41, 40, 41, 41, 41] 14) h = some (.osl h.n 0 2 1, h.push (.cells 0 [.str [40, 40, 41, 40, 40, 41, 40, 40, 41, 40, 41, 41, 41, 41] 14, .str [40, 40, 40, 41, 40, 40, 41, 40, 41, 41, 41, 40, 41, 41] 14])) := by kernel_rfl
theorem t_impl_besides_6 (h : H) : rwC (c_impl_besides 20000 20) (.str [40, 40, 40, 41, 40, 41, 41, 40, 40, 41, 40, 41, 41, 41] 14) h = some (.osl h.n 0 2 1, h.push (.cells 0 [.str [40, 40, 41, 40, 40, 41, 40, 40, 41, 40, 41, 41, 41, 41] 14, .str [40, 40, 40, 40, 41, 40, 41, 41, 40, 41, 41, 40, 41, 41] 14])) := by kernel_rfl
theorem t_impl_besides_7 (h : H) : rwC (c_impl_besides 20000 20) (.str [40, 40, 40, 41, 40, 40, 41, 40, 41, 41, 41, 40, 41, 41] 14) h = some (.osl h.n 0 2 1, h.push (.cells 0 [.str [40, 40, 41, 40, 40, 40, 41, 40, 41, 41, 40, 41, 41, 41] 14, .str [40, 40, 40, 40, 41, 40, 41, 41, 40, 41, 41, 40, 41, 41] 14])) := by kernel_rfl
theorem t_impl_besides_8 (h : H) : rwC (c_impl_besides 20000 20) (.str [40, 40, 40, 40, 41, 40, 41, 41, 40, 41, 41, 40, 41, 41] 14) h = some (.osl h.n 0 2 1, h.push (.cells 0 [.str [40, 40, 40, 41, 40, 40, 41, 40, 41, 41, 41, 40, 41, 41] 14, .str [40, 40, 40, 41, 40, 41, 41, 40, 40, 41, 40, 41, 41, 41] 14])) := by kernel_rfl
theorem t_impl_besides_9 (h : H) : rwC (c_impl_besides 20000 20) (.str [40, 40, 41, 40, 40, 41, 40, 40, 41, 40, 40, 41, 40, 41, 41, 41, 41, 41] 18) h = some (.osl h.n 0 3 1, h.push (.cells 0 [.str [40, 40, 41, 40, 40, 41, 40, 40, 40, 41, 40, 41, 41, 40, 41, 41, 41, 41] 18, .str [40, 40, 41, 40, 40, 40, 41, 40, 41, 41, 40, 40, 41, 40, 41, 41, 41, 41] 18, .str [40, 40, 40, 41, 40, 41, 41, 40, 40, 41, 40, 40, 41, 40, 41, 41, 41, 41] 18])) := by kernel_rfl
theorem t_impl_besides_10 (h : H) : rwC (c_impl_besides 20000 20) (.str [40, 40, 41, 40, 40, 41, 40, 40, 40, 41, 40, 41, 41, 40, 41, 41, 41, 41] 18) h = some (.osl h.n 0 3 1, h.push (.cells 0 [.str [40, 40, 41, 40, 40, 41, 40, 40, 41, 40, 40, 41, 40, 41, 41, 41, 41, 41] 18, .str [40, 40, 41, 40, 40, 40, 41, 40, 40, 41, 40, 41, 41, 41, 40, 41, 41, 41] 18, .str [40, 40, 40, 41, 40, 41, 41, 40, 40, 40, 41, 40, 41, 41, 40, 41, 41, 41] 18])) := by kernel_rfl
theorem t_impl_besides_11 (h : H) : rwC (c_impl_besides 20000 20) (.str [40, 40, 41, 40, 40, 40, 41, 40, 41, 41, 40, 40, 41, 40, 41, 41, 41, 41] 18) h = some (.osl h.n 0 3 1, h.push (.cells 0 [.str [40, 40, 41, 40, 40, 41, 40, 40, 41, 40, 40, 41, 40, 41, 41, 41, 41, 41] 18, .str [40, 40, 41, 40, 40, 40, 40, 41, 40, 41, 41, 40, 41, 41, 40, 41, 41, 41] 18, .str [40, 40, 40, 41, 40, 40, 41, 40, 41, 41, 41, 40, 40, 41, 40, 41, 41, 41] 18])) := by kernel_rfl
theorem t_impl_besides_12 (h : H) : rwC (c_impl_besides 20000 20) (.str [40, 40, 41, 40, 40, 40, 41, 40, 40, 41, 40, 41, 41, 41, 40, 41, 41, 41] 18) h = some (.osl h.n 0 3 1, h.push (.cells 0 [.str [40, 40, 41, 40, 40, 41, 40, 40, 40, 41, 40, 41, 41, 40, 41, 41, 41, 41] 18, .str [40, 40, 41, 40, 40, 40, 40, 41, 40, 41, 41, 40, 41, 41, 40, 41, 41, 41] 18, .str [40, 40, 40, 41, 40, 40, 41, 40, 40, 41, 40, 41, 41, 41, 41, 40, 41, 41] 18])) := by kernel_rfl
theorem t_impl_besides_13 (h : H) : rwC (c_impl_besides 20000 20) (.str [40, 40, 41, 40, 40, 40, 40, 41, 40, 41, 41, 40, 41, 41, 40, 41, 41, 41] 18) h = some (.osl h.n 0 3 1, h.push (.cells 0 [.str [40, 40, 41, 40, 40, 40, 41, 40, 40, 41, 40, 41, 41, 41, 40, 41, 41, 41] 18, .str [40, 40, 41, 40, 40, 40, 41, 40, 41, 41, 40, 40, 41, 40, 41, 41, 41, 41] 18, .str [40, 40, 40, 41, 40, 40, 40, 41, 40, 41, 41, 40, 41, 41, 41, 40, 41, 41] 18])) := by kernel_rfl
theorem t_impl_besides_14 (h : H) : rwC (c_impl_besides 20000 20) (.str [40, 40, 40, 41, 40, 41, 41, 40, 40, 41, 40, 40, 41, 40, 41, 41, 41, 41] 18) h = some (.osl h.n 0 3 1, h.push (.cells 0 [.str [40, 40, 41, 40, 40, 41, 40, 40, 41, 40, 40, 41, 40, 41, 41, 41, 41, 41] 18, .str [40, 40, 40, 41, 40, 41, 41, 40, 40, 40, 41, 40, 41, 41, 40, 41, 41, 41] 18, .str [40, 40, 40, 40, 41, 40, 41, 41, 40, 41, 41, 40, 40, 41, 40, 41, 41, 41] 18])) := by kernel_rfl
theorem t_impl_besides_15 (h : H) : rwC (c_impl_besides 20000 20) (.str [40, 40, 40, 41, 40, 41, 41, 40, 40, 40, 41, 40, 41, 41, 40, 41, 41, 41] 18) h = some (.osl h.n 0 3 1, h.push (.cells 0 [.str [40, 40, 40, 41, 40, 41, 41, 40, 40, 41, 40, 40, 41, 40, 41, 41, 41, 41] 18, .str [40, 40, 41, 40, 40, 41, 40, 40, 40, 41, 40, 41, 41, 40, 41, 41, 41, 41] 18, .str [40, 40, 40, 40, 41, 40, 41, 41, 40, 40, 41, 40, 41, 41, 41, 40, 41, 41] 18])) := by kernel_rfl
theorem t_impl_besides_16 (h : H) : rwC (c_impl_besides 20000 20) (.str [40, 40, 40, 41, 40, 40, 41, 40, 41, 41, 41, 40, 40, 41, 40, 41, 41, 41] 18) h = some (.osl h.n 0 3 1, h.push (.cells 0 [.str [40, 40, 41, 40, 40, 40, 41, 40, 41, 41, 40, 40, 41, 40, 41, 41, 41, 41] 18, .str [40, 40, 40, 40, 41, 40, 41, 41, 40, 41, 41, 40, 40, 41, 40, 41, 41, 41] 18, .str [40, 40, 40, 40, 41, 40, 40, 41, 40, 41, 41, 41, 40, 41, 41, 40, 41, 41] 18])) := by kernel_rfl
theorem t_impl_besides_17 (h : H) : rwC (c_impl_besides 20000 20) (.str [40, 40, 40, 40, 41, 40, 41, 41, 40, 41, 41, 40, 40, 41, 40, 41, 41, 41] 18) h = some (.osl h.n 0 3 1, h.push (.cells 0 [.str [40, 40, 40, 41, 40, 40, 41, 40, 41, 41, 41, 40, 40, 41, 40, 41, 41, 41] 18, .str [40, 40, 40, 41, 40, 41, 41, 40, 40, 41, 40, 40, 41, 40, 41, 41, 41, 41] 18, .str [40, 40, 40, 40, 40, 41, 40, 41, 41, 40, 41, 41, 40, 41, 41, 40, 41, 41] 18])) := by kernel_rfl
theorem t_impl_besides_18 (h : H) : rwC (c_impl_besides 20000 20) (.str [40, 40, 40, 41, 40, 40, 41, 40, 40, 41, 40, 41, 41, 41, 41, 40, 41, 41] 18) h = some (.osl h.n 0 3 1, h.push (.cells 0 [.str [40, 40, 41, 40, 40, 40, 41, 40, 40, 41, 40, 41, 41, 41, 40, 41, 41, 41] 18, .str [40, 40, 40, 41, 40, 40, 40, 41, 40, 41, 41, 40, 41, 41, 41, 40, 41, 41] 18, .str [40, 40, 40, 40, 41, 40, 41, 41, 40, 40, 41, 40, 41, 41, 41, 40, 41, 41] 18])) := by kernel_rfl
theorem t_impl_besides_19 (h : H) : rwC (c_impl_besides 20000 20) (.str [40, 40, 40, 41, 40, 40, 40, 41, 40, 41, 41, 40, 41, 41, 41, 40, 41, 41] 18) h = some (.osl h.n 0 3 1, h.push (.cells 0 [.str [40, 40, 40, 41, 40, 40, 41, 40, 40, 41, 40, 41, 41, 41, 41, 40, 41, 41] 18, .str [40, 40, 41, 40, 40, 40, 40, 41, 40, 41, 41, 40, 41, 41, 40, 41, 41, 41] 18, .str [40, 40, 40, 40, 41, 40, 40, 41, 40, 41, 41, 41, 40, 41, 41, 40, 41, 41] 18])) := by kernel_rfl
theorem t_impl_besides_20 (h : H) : rwC (c_impl_besides 20000 20) (.str [40, 40, 40, 40, 41, 40, 41, 41, 40, 40, 41, 40, 41, 41, 41, 40, 41, 41] 18) h = some (.osl h.n 0 3 1, h.push (.cells 0 [.str [40, 40, 40, 41, 40, 40, 41, 40, 40, 41, 40, 41, 41, 41, 41, 40, 41, 41] 18, .str [40, 40, 40, 41, 40, 41, 41, 40, 40, 40, 41, 40, 41, 41, 40, 41, 41, 41] 18, .str [40, 40, 40, 40, 40, 41, 40, 41, 41, 40, 41, 41, 40, 41, 41, 40, 41, 41] 18])) := by kernel_rfl
theorem t_impl_besides_21 (h : H) : rwC (c_impl_besides 20000 20) (.str [40, 40, 40, 40, 41, 40, 40, 41, 40, 41, 41, 41, 40, 41, 41, 40, 41, 41] 18) h = some (.osl h.n 0 3 1, h.push (.cells 0 [.str [40, 40, 40, 41, 40, 40, 40, 41, 40, 41, 41, 40, 41, 41, 41, 40, 41, 41] 18, .str [40, 40, 40, 41, 40, 40, 41, 40, 41, 41, 41, 40, 40, 41, 40, 41, 41, 41] 18, .str [40, 40, 40, 40, 40, 41, 40, 41, 41, 40, 41, 41, 40, 41, 41, 40, 41, 41] 18])) := by kernel_rfl
theorem t_impl_besides_22 (h : H) : rwC (c_impl_besides 20000 20) (.str [40, 40, 40, 40, 40, 41, 40, 41, 41, 40, 41, 41, 40, 41, 41, 40, 41, 41] 18) h = some (.osl h.n 0 3 1, h.push (.cells 0 [.str [40, 40, 40, 40, 41, 40, 40, 41, 40, 41, 41, 41, 40, 41, 41, 40, 41, 41] 18, .str [40, 40, 40, 40, 41, 40, 41, 41, 40, 40, 41, 40, 41, 41, 41, 40, 41, 41] 18, .str [40, 40, 40, 40, 41, 40, 41, 41, 40, 41, 41, 40, 40, 41, 40, 41, 41, 41] 18])) := by kernel_rfl
theorem all_impl_besides : ∀ p ∈ T_impl_besides, ∀ h, rwC (c_impl_besides 20000 20) (.str p.1 (lenL p.1)) h = some (.osl h.n 0 p.2.length 1, h.push (.cells 0 p.2)) := by
  intro p hp h
  simp only [T_impl_besides, List.mem_cons, List.not_mem_nil, or_false] at hp
  rcases hp with rfl | rfl | rfl | rfl | rfl | rfl | rfl | rfl | rfl | rfl | rfl | rfl | rfl | rfl | rfl | rfl | rfl | rfl | rfl | rfl | rfl | rfl | rfl
  · exact t_impl_besides_0 h
  · exact t_impl_besides_1 h
  · exact t_impl_besides_2 h
  · exact t_impl_besides_3 h
  · exact t_impl_besides_4 h
  · exact t_impl_besides_5 h
  · exact t_impl_besides_6 h
  · exact t_impl_besides_7 h
  · exact t_impl_besides_8 h
  · exact t_impl_besides_9 h
  · exact t_impl_besides_10 h
  · exact t_impl_besides_11 h
  · exact t_impl_besides_12 h
  · exact t_impl_besides_13 h
  · exact t_impl_besides_14 h
  · exact t_impl_besides_15 h
  · exact t_impl_besides_16 h
  · exact t_impl_besides_17 h
  · exact t_impl_besides_18 h
  · exact t_impl_besides_19 h
  · exact t_impl_besides_20 h
  · exact t_impl_besides_21 h
  · exact t_impl_besides_22 h
def T_spec_l8Turns : List (List Nat × List AV) := [([40, 41], []), ([40, 40, 41, 40, 41, 41], []), ([40, 40, 41, 40, 40, 41, 40, 41, 41, 41], []), ([40, 40, 40, 41, 40, 41, 41, 40, 41, 41], [.str [40, 40, 41, 40, 40, 41, 40, 41, 41, 41] 10]), ([40, 40, 41, 40, 40, 41, 40, 40, 41, 40, 41, 41, 41, 41], []), ([40, 40, 41, 40, 40, 40, 41, 40, 41, 41, 40, 41, 41, 41], [.str [40, 40, 41, 40, 40, 41, 40, 40, 41, 40, 41, 41, 41, 41] 14]), ([40, 40, 40, 41, 40, 41, 41, 40, 40, 41, 40, 41, 41, 41], [.str [40, 40, 41, 40, 40, 41, 40, 40, 41, 40, 41, 41, 41, 41] 14]), ([40, 40, 40, 41, 40, 40, 41, 40, 41, 41, 41, 40, 41, 41], [.str [40, 40, 41, 40, 40, 40, 41, 40, 41, 41, 40, 41, 41, 41] 14]), ([40, 40, 40, 40, 41, 40, 41, 41, 40, 41, 41, 40, 41, 41], [.str [40, 40, 40, 41, 40, 40, 41, 40, 41, 41, 41, 40, 41, 41] 14, .str [40, 40, 40, 41, 40, 41, 41, 40, 40, 41, 40, 41, 41, 41] 14]), ([40, 40, 41, 40, 40, 41, 40, 40, 41, 40, 40, 41, 40, 41, 41, 41, 41, 41], []), ([40, 40, 41, 40, 40, 41, 40, 40, 40, 41, 40, 41, 41, 40, 41, 41, 41, 41], [.str [40, 40, 41, 40, 40, 41, 40, 40, 41, 40, 40, 41, 40, 41, 41, 41, 41, 41] 18]), ([40, 40, 41, 40, 40, 40, 41, 40, 41, 41, 40, 40, 41, 40, 41, 41, 41, 41], [.str [40, 40, 41, 40, 40, 41, 40, 40, 41, 40, 40, 41, 40, 41, 41, 41, 41, 41] 18]), ([40, 40, 41, 40, 40, 40, 41, 40, 40, 41, 40, 41, 41, 41, 40, 41, 41, 41], [.str [40, 40, 41, 40, 40, 41, 40, 40, 40, 41, 40, 41, 41, 40, 41, 41, 41, 41] 18]), ([40, 40, 41, 40, 40, 40, 40, 41, 40, 41, 41, 40, 41, 41, 40, 41, 41, 41], [.str [40, 40, 41, 40, 40, 40, 41, 40, 40, 41, 40, 41, 41, 41, 40, 41, 41, 41] 18, .str [40, 40, 41, 40, 40, 40, 41, 40, 41, 41, 40, 40, 41, 40, 41, 41, 41, 41] 18]), ([40, 40, 40, 41, 40, 41, 41, 40, 40, 41, 40, 40, 41, 40, 41, 41, 41, 41], [.str [40, 40, 41, 40, 40, 41, 40, 40, 41, 40, 40, 41, 40, 41, 41, 41, 41, 41] 18]), ([40, 40, 40, 41, 40, 41, 41, 40, 40, 40, 41, 40, 41, 41, 40, 41, 41, 41], [.str [40, 40, 40, 41, 40, 41, 41, 40, 40, 41, 40, 40, 41, 40, 41, 41, 41, 41] 18, .str [40, 40, 41, 40, 40, 41, 40, 40, 40, 41, 40, 41, 41, 40, 41, 41, 41, 41] 18]), ([40, 40, 40, 41, 40, 40, 41, 40, 41, 41, 41, 40, 40, 41, 40, 41, 41, 41], [.str [40, 40, 41, 40, 40, 40, 41, 40, 41, 41, 40, 40, 41, 40, 41, 41, 41, 41] 18]), ([40, 40, 40, 40, 41, 40, 41, 41, 40, 41, 41, 40, 40, 41, 40, 41, 41, 41], [.str [40, 40, 40, 41, 40, 40, 41, 40, 41, 41, 41, 40, 40, 41, 40, 41, 41, 41] 18, .str [40, 40, 40, 41, 40, 41, 41, 40, 40, 41, 40, 40, 41, 40, 41, 41, 41, 41] 18]), ([40, 40, 40, 41, 40, 40, 41, 40, 40, 41, 40, 41, 41, 41, 41, 40, 41, 41], [.str [40, 40, 41, 40, 40, 40, 41, 40, 40, 41, 40, 41, 41, 41, 40, 41, 41, 41] 18]), ([40, 40, 40, 41, 40, 40, 40, 41, 40, 41, 41, 40, 41, 41, 41, 40, 41, 41], [.str [40, 40, 40, 41, 40, 40, 41, 40, 40, 41, 40, 41, 41, 41, 41, 40, 41, 41] 18, .str [40, 40, 41, 40, 40, 40, 40, 41, 40, 41, 41, 40, 41, 41, 40, 41, 41, 41] 18]), ([40, 40, 40, 40, 41, 40, 41, 41, 40, 40, 41, 40, 41, 41, 41, 40, 41, 41], [.str [40, 40, 40, 41, 40, 40, 41, 40, 40, 41, 40, 41, 41, 41, 41, 40, 41, 41] 18, .str [40, 40, 40, 41, 40, 41, 41, 40, 40, 40, 41, 40, 41, 41, 40, 41, 41, 41] 18]), ([40, 40, 40, 40, 41, 40, 40, 41, 40, 41, 41, 41, 40, 41, 41, 40, 41, 41], [.str [40, 40, 40, 41, 40, 40, 40, 41, 40, 41, 41, 40, 41, 41, 41, 40, 41, 41] 18, .str [40, 40, 40, 41, 40, 40, 41, 40, 41, 41, 41, 40, 40, 41, 40, 41, 41, 41] 18]), ([40, 40, 40, 40, 40, 41, 40, 41, 41, 40, 41, 41, 40, 41, 41, 40, 41, 41], [.str [40, 40, 40, 40, 41, 40, 40, 41, 40, 41, 41, 41, 40, 41, 41, 40, 41, 41] 18, .str [40, 40, 40, 40, 41, 40, 41, 41, 40, 40, 41, 40, 41, 41, 41, 40, 41, 41] 18, .str [40, 40, 40, 40, 41, 40, 41, 41, 40, 41, 41, 40, 40, 41, 40, 41, 41, 41] 18])]
theorem t_spec_l8Turns_0 (h : H) : rwC (c_spec_l8Turns 20000 20) (.str [40, 41] 2) h = some (.osl h.n 0 0 1, h.push (.cells 0 [])) := by kernel_rfl
theorem t_spec_l8Turns_1 (h : H) : rwC (c_spec_l8Turns 20000 20) (.str [40, 40, 41, 40, 41, 41] 6) h = some (.osl h.n 0 0 1, h.push (.cells 0 [])) := by kernel_rfl
theorem t_spec_l8Turns_2 (h : H) : rwC (c_spec_l8Turns 20000 20) (.str [40, 40, 41, 40, 40, 41, 40, 41, 41, 41] 10) h = some (.osl h.n 0 0 1, h.push (.cells 0 [])) := by kernel_rfl
theorem t_spec_l8Turns_3 (h : H) : rwC (c_spec_l8Turns 20000 20) (.str [40, 40, 40, 41, 40, 41, 41, 40, 41, 41] 10) h = some (.osl h.n 0 1 1, h.push (.cells 0 [.str [40, 40, 41, 40, 40, 41, 40, 41, 41, 41] 10])) := by kernel_rfl
theorem t_spec_l8Turns_4 (h : H) : rwC (c_spec_l8Turns 20000 20) (.str [40, 40, 41, 40, 40, 41, 40, 40, 41, 40, 41, 41, 41, 41] 14) h = some (.osl h.n 0 0 1, h.push (.cells 0 [])) := by kernel_rfl
theorem t_spec_l8Turns_5 (h : H) : rwC (c_spec_l8Turns 20000 20) (.str [40, 40, 41, 40, 40, 40, 41, 40, 41, 41, 40, 41, 41, 41] 14) h = some (.osl h.n 0 1 1, h.push (.cells 0 [.str [40, 40, 41, 40, 40, 41, 40, 40, 41, 40, 41, 41, 41, 41] 14])) := by kernel_rfl
theorem t_spec_l8Turns_6 (h : H) : rwC (c_spec_l8Turns 20000 20) (.str [40, 40, 40, 41, 40, 41, 41, 40, 40, 41, 40, 41, 41, 41] 14) h = some (.osl h.n 0 1 1, h.push (.cells 0 [.str [40, 40, 41, 40, 40, 41, 40, 40, 41, 40, 41, 41, 41, 41] 14])) := by kernel_rfl
theorem t_spec_l8Turns_7 (h : H) : rwC (c_spec_l8Turns 20000 20) (.str [40, 40, 40, 41, 40, 40, 41, 40, 41, 41, 41, 40, 41, 41] 14) h = some (.osl h.n 0 1 1, h.push (.cells 0 [.str [40, 40, 41, 40, 40, 40, 41, 40, 41, 41, 40, 41, 41, 41] 14])) := by kernel_rfl
theorem t_spec_l8Turns_8 (h : H) : rwC (c_spec_l8Turns 20000 20) (.str [40, 40, 40, 40, 41, 40, 41, 41, 40, 41, 41, 40, 41, 41] 14) h = some (.osl h.n 0 2 1, h.push (.cells 0 [.str [40, 40, 40, 41, 40, 40, 41, 40, 41, 41, 41, 40, 41, 41] 14, .str [40, 40, 40, 41, 40, 41, 41, 40, 40, 41, 40, 41, 41, 41] 14])) := by kernel_rfl
theorem t_spec_l8Turns_9 (h : H) : rwC (c_spec_l8Turns 20000 20) (.str [40, 40, 41, 40, 40, 41, 40, 40, 41, 40, 40, 41, 40, 41, 41, 41, 41, 41] 18) h = some (.osl h.n 0 0 1, h.push (.cells 0 [])) := by kernel_rfl
theorem t_spec_l8Turns_10 (h : H) : rwC (c_spec_l8Turns 20000 20) (.str [40, 40, 41, 40, 40, 41, 40, 40, 40, 41, 40, 41, 41, 40, 41, 41, 41, 41] 18) h = some (.osl h.n 0 1 1, h.push (.cells 0 [.str [40, 40, 41, 40, 40, 41, 40, 40, 41, 40, 40, 41, 40, 41, 41, 41, 41, 41] 18])) := by kernel_rfl
theorem t_spec_l8Turns_11 (h : H) : rwC (c_spec_l8Turns 20000 20) (.str [40, 40, 41, 40, 40, 40, 41, 40, 41, 41, 40, 40, 41, 40, 41, 41, 41, 41] 18) h = some (.osl h.n 0 1 1, h.push (.cells 0 [.str [40, 40, 41, 40, 40, 41, 40, 40, 41, 40, 40, 41, 40, 41, 41, 41, 41, 41] 18])) := by kernel_rfl
theorem t_spec_l8Turns_12 (h : H) : rwC (c_spec_l8Turns 20000 20) (.str [40, 40, 41, 40, 40, 40, 41, 40, 40, 41, 40, 41, 41, 41, 40, 41, 41, 41] 18) h = some (.osl h.n 0 1 1, h.push (.cells 0 [.str [40, 40, 41, 40, 40, 41, 40, 40, 40, 41, 40, 41, 41, 40, 41, 41, 41, 41] 18])) := by kernel_rfl
theorem t_spec_l8Turns_13 (h : H) : rwC (c_spec_l8Turns 20000 20) (.str [40, 40, 41, 40, 40, 40, 40, 41, 40, 41, 41, 40, 41, 41, 40, 41, 41, 41] 18) h = some (.osl h.n 0 2 1, h.push (.cells 0 [.str [40, 40, 41, 40, 40, 40, 41, 40, 40, 41, 40, 41, 41, 41, 40, 41, 41, 41] 18, .str [40, 40, 41, 40, 40, 40, 41, 40, 41, 41, 40, 40, 41, 40, 41, 41, 41, 41] 18])) := by kernel_rfl
theorem t_spec_l8Turns_14 (h : H) : rwC (c_spec_l8Turns 20000 20) (.str [40, 40, 40, 41, 40, 41, 41, 40, 40, 41, 40, 40, 41, 40, 41, 41, 41, 41] 18) h = some (.osl h.n 0 1 1, h.push (.cells 0 [.str [40, 40, 41, 40, 40, 41, 40, 40, 41, 40, 40, 41, 40, 41, 41, 41, 41, 41] 18])) := by kernel_rfl
theorem t_spec_l8Turns_15 (h : H) : rwC (c_spec_l8Turns 20000 20) (.str [40, 40, 40, 41, 40, 41, 41, 40, 40, 40, 41, 40, 41, 41, 40, 41, 41, 41] 18) h = some (.osl h.n 0 2 1, h.push (.cells 0 [.str [40, 40, 40, 41, 40, 41, 41, 40, 40, 41, 40, 40, 41, 40, 41, 41, 41, 41] 18, .str [40, 40, 41, 40, 40, 41, 40, 40, 40, 41, 40, 41, 41, 40, 41, 41, 41, 41] 18])) := by kernel_rfl
theorem t_spec_l8Turns_16 (h : H) : rwC (c_spec_l8Turns 20000 20) (.str [40, 40, 40, 41, 40, 40, 41, 40, 41, 41, 41, 40, 40, 41, 40, 41, 41, 41] 18) h = some (.osl h.n 0 1 1, h.push (.cells 0 [.str [40, 40, 41, 40, 40, 40, 41, 40, 41, 41, 40, 40, 41, 40, 41, 41, 41, 41] 18])) := by kernel_rfl
theorem t_spec_l8Turns_17 (h : H) : rwC (c_spec_l8Turns 20000 20) (.str [40, 40, 40, 40, 41, 40, 41, 41, 40, 41, 41, 40, 40, 41, 40, 41, 41, 41] 18) h = some (.osl h.n 0 2 1, h.push (.cells 0 [.str [40, 40, 40, 41, 40, 40, 41, 40, 41, 41, 41, 40, 40, 41, 40, 41, 41, 41] 18, .str [40, 40, 40, 41, 40, 41, 41, 40, 40, 41, 40, 40, 41, 40, 41, 41, 41, 41] 18])) := by kernel_rfl
theorem t_spec_l8Turns_18 (h : H) : rwC (c_spec_l8Turns 20000 20) (.str [40, 40, 40, 41, 40, 40, 41, 40, 40, 41, 40, 41, 41, 41, 41, 40, 41, 41] 18) h = some (.osl h.n 0 1 1, h.push (.cells 0 [.str [40, 40, 41, 40, 40, 40, 41, 40, 40, 41, 40, 41, 41, 41, 40, 41, 41, 41] 18])) := by kernel_rfl
theorem t_spec_l8Turns_19 (h : H) : rwC (c_spec_l8Turns 20000 20) (.str [40, 40, 40, 41, 40, 40, 40, 41, 40, 41, 41, 40, 41, 41, 41, 40, 41, 41] 18) h = some (.osl h.n 0 2 1, h.push (.cells 0 [.str [40, 40, 40, 41, 40, 40, 41, 40, 40, 41, 40, 41, 41, 41, 41, 40, 41, 41] 18, .str [40, 40, 41, 40, 40, 40, 40, 41, 40, 41, 41, 40, 41, 41, 40, 41, 41, 41] 18])) := by kernel_rfl
theorem t_spec_l8Turns_20 (h : H) : rwC (c_spec_l8Turns 20000 20) (.str [40, 40, 40, 40, 41, 40, 41, 41, 40, 40, 41, 40, 41, 41, 41, 40, 41, 41] 18) h = some (.osl h.n 0 2 1, h.push (.cells 0 [.str [40, 40, 40, 41, 40, 40, 41, 40, 40, 41, 40, 41, 41, 41, 41, 40, 41, 41] 18, .str [40, 40, 40, 41, 40, 41, 41, 40, 40, 40, 41, 40, 41, 41, 40, 41, 41, 41] 18])) := by kernel_rfl
theorem t_spec_l8Turns_21 (h : H) : rwC (c_spec_l8Turns 20000 20) (.str [40, 40, 40, 40, 41, 40, 40, 41, 40, 41, 41, 41, 40, 41, 41, 40, 41, 41] 18) h = some (.osl h.n 0 2 1, h.push (.cells 0 [.str [40, 40, 40, 41, 40, 40, 40, 41, 40, 41, 41, 40, 41, 41, 41, 40, 41, 41] 18, .str [40, 40, 40, 41, 40, 40, 41, 40, 41, 41, 41, 40, 40, 41, 40, 41, 41, 41] 18])) := by kernel_rfl
theorem t_spec_l8Turns_22 (h : H) : rwC (c_spec_l8Turns 20000 20) (.str [40, 40, 40, 40, 40, 41, 40, 41, 41, 40, 41, 41, 40, 41, 41, 40, 41, 41] 18) h = some (.osl h.n 0 3 1, h.push (.cells 0 [.str [40, 40, 40, 40, 41, 40, 40, 41, 40, 41, 41, 41, 40, 41, 41, 40, 41, 41] 18, .str [40, 40, 40, 40, 41, 40, 41, 41, 40, 40, 41, 40, 41, 41, 41, 40, 41, 41] 18, .str [40, 40, 40, 40, 41, 40, 41, 41, 40, 41, 41, 40, 40, 41, 40, 41, 41, 41] 18])) := by kernel_rfl
theorem all_spec_l8Turns : ∀ p ∈ T_spec_l8Turns, ∀ h, rwC (c_spec_l8Turns 20000 20) (.str p.1 (lenL p.1)) h = some (.osl h.n 0 p.2.length 1, h.push (.cells 0 p.2)) := by
  intro p hp h
  simp only [T_spec_l8Turns, List.mem_cons, List.not_mem_nil, or_false] at hp
  rcases hp with rfl | rfl | rfl | rfl | rfl | rfl | rfl | rfl | rfl | rfl | rfl | rfl | rfl | rfl | rfl | rfl | rfl | rfl | rfl | rfl | rfl | rfl | rfl
  · exact t_spec_l8Turns_0 h
  · exact t_spec_l8Turns_1 h
  · exact t_spec_l8Turns_2 h
  · exact t_spec_l8Turns_3 h
  · exact t_spec_l8Turns_4 h
  · exact t_spec_l8Turns_5 h
  · exact t_spec_l8Turns_6 h
  · exact t_spec_l8Turns_7 h
  · exact t_spec_l8Turns_8 h
  · exact t_spec_l8Turns_9 h
  · exact t_spec_l8Turns_10 h
  · exact t_spec_l8Turns_11 h
  · exact t_spec_l8Turns_12 h
  · exact t_spec_l8Turns_13 h
  · exact t_spec_l8Turns_14 h
  · exact t_spec_l8Turns_15 h
  · exact t_spec_l8Turns_16 h
  · exact t_spec_l8Turns_17 h
  · exact t_spec_l8Turns_18 h
  · exact t_spec_l8Turns_19 h
  · exact t_spec_l8Turns_20 h
  · exact t_spec_l8Turns_21 h
  · exact t_spec_l8Turns_22 h
def T_spec_l8Undone : List (List Nat × List AV) := [([40, 41], []), ([40, 40, 41, 40, 41, 41], []), ([40, 40, 41, 40, 40, 41, 40, 41, 41, 41], [.str [40, 40, 40, 41, 40, 41, 41, 40, 41, 41] 10]), ([40, 40, 40, 41, 40, 41, 41, 40, 41, 41], []), ([40, 40, 41, 40, 40, 41, 40, 40, 41, 40, 41, 41, 41, 41], [.str [40, 40, 41, 40, 40, 40, 41, 40, 41, 41, 40, 41, 41, 41] 14, .str [40, 40, 40, 41, 40, 41, 41, 40, 40, 41, 40, 41, 41, 41] 14]), ([40, 40, 41, 40, 40, 40, 41, 40, 41, 41, 40, 41, 41, 41], [.str [40, 40, 40, 41, 40, 40, 41, 40, 41, 41, 41, 40, 41, 41] 14]), ([40, 40, 40, 41, 40, 41, 41, 40, 40, 41, 40, 41, 41, 41], [.str [40, 40, 40, 40, 41, 40, 41, 41, 40, 41, 41, 40, 41, 41] 14]), ([40, 40, 40, 41, 40, 40, 41, 40, 41, 41, 41, 40, 41, 41], [.str [40, 40, 40, 40, 41, 40, 41, 41, 40, 41, 41, 40, 41, 41] 14]), ([40, 40, 40, 40, 41, 40, 41, 41, 40, 41, 41, 40, 41, 41], []), ([40, 40, 41, 40, 40, 41, 40, 40, 41, 40, 40, 41, 40, 41, 41, 41, 41, 41], [.str [40, 40, 41, 40, 40, 41, 40, 40, 40, 41, 40, 41, 41, 40, 41, 41, 41, 41] 18, .str [40, 40, 41, 40, 40, 40, 41, 40, 41, 41, 40, 40, 41, 40, 41, 41, 41, 41] 18, .str [40, 40, 40, 41, 40, 41, 41, 40, 40, 41, 40, 40, 41, 40, 41, 41, 41, 41] 18]), ([40, 40, 41, 40, 40, 41, 40, 40, 40, 41, 40, 41, 41, 40, 41, 41, 41, 41], [.str [40, 40, 41, 40, 40, 40, 41, 40, 40, 41, 40, 41, 41, 41, 40, 41, 41, 41] 18, .str [40, 40, 40, 41, 40, 41, 41, 40, 40, 40, 41, 40, 41, 41, 40, 41, 41, 41] 18]), ([40, 40, 41, 40, 40, 40, 41, 40, 41, 41, 40, 40, 41, 40, 41, 41, 41, 41], [.str [40, 40, 41, 40, 40, 40, 40, 41, 40, 41, 41, 40, 41, 41, 40, 41, 41, 41] 18, .str [40, 40, 40, 41, 40, 40, 41, 40, 41, 41, 41, 40, 40, 41, 40, 41, 41, 41] 18]), ([40, 40, 41, 40, 40, 40, 41, 40, 40, 41, 40, 41, 41, 41, 40, 41, 41, 41], [.str [40, 40, 41, 40, 40, 40, 40, 41, 40, 41, 41, 40, 41, 41, 40, 41, 41, 41] 18, .str [40, 40, 40, 41, 40, 40, 41, 40, 40, 41, 40, 41, 41, 41, 41, 40, 41, 41] 18]), ([40, 40, 41, 40, 40, 40, 40, 41, 40, 41, 41, 40, 41, 41, 40, 41, 41, 41], [.str [40, 40, 40, 41, 40, 40, 40, 41, 40, 41, 41, 40, 41, 41, 41, 40, 41, 41] 18]), ([40, 40, 40, 41, 40, 41, 41, 40, 40, 41, 40, 40, 41, 40, 41, 41, 41, 41], [.str [40, 40, 40, 41, 40, 41, 41, 40, 40, 40, 41, 40, 41, 41, 40, 41, 41, 41] 18, .str [40, 40, 40, 40, 41, 40, 41, 41, 40, 41, 41, 40, 40, 41, 40, 41, 41, 41] 18]), ([40, 40, 40, 41, 40, 41, 41, 40, 40, 40, 41, 40, 41, 41, 40, 41, 41, 41], [.str [40, 40, 40, 40, 41, 40, 41, 41, 40, 40, 41, 40, 41, 41, 41, 40, 41, 41] 18]), ([40, 40, 40, 41, 40, 40, 41, 40, 41, 41, 41, 40, 40, 41, 40, 41, 41, 41], [.str [40, 40, 40, 40, 41, 40, 41, 41, 40, 41, 41, 40, 40, 41, 40, 41, 41, 41] 18, .str [40, 40, 40, 40, 41, 40, 40, 41, 40, 41, 41, 41, 40, 41, 41, 40, 41, 41] 18]), ([40, 40, 40, 40, 41, 40, 41, 41, 40, 41, 41, 40, 40, 41, 40, 41, 41, 41], [.str [40, 40, 40, 40, 40, 41, 40, 41, 41, 40, 41, 41, 40, 41, 41, 40, 41, 41] 18]), ([40, 40, 40, 41, 40, 40, 41, 40, 40, 41, 40, 41, 41, 41, 41, 40, 41, 41], [.str [40, 40, 40, 41, 40, 40, 40, 41, 40, 41, 41, 40, 41, 41, 41, 40, 41, 41] 18, .str [40, 40, 40, 40, 41, 40, 41, 41, 40, 40, 41, 40, 41, 41, 41, 40, 41, 41] 18]), ([40, 40, 40, 41, 40, 40, 40, 41, 40, 41, 41, 40, 41, 41, 41, 40, 41, 41], [.str [40, 40, 40, 40, 41, 40, 40, 41, 40, 41, 41, 41, 40, 41, 41, 40, 41, 41] 18]), ([40, 40, 40, 40, 41, 40, 41, 41, 40, 40, 41, 40, 41, 41, 41, 40, 41, 41], [.str [40, 40, 40, 40, 40, 41, 40, 41, 41, 40, 41, 41, 40, 41, 41, 40, 41, 41] 18]), ([40, 40, 40, 40, 41, 40, 40, 41, 40, 41, 41, 41, 40, 41, 41, 40, 41, 41], [.str [40, 40, 40, 40, 40, 41, 40, 41, 41, 40, 41, 41, 40, 41, 41, 40, 41, 41] 18]), ([40, 40, 40, 40, 40, 41, 40, 41, 41, 40, 41, 41, 40, 41, 41, 40, 41, 41], [])]
theorem t_spec_l8Undone_0 (h : H) : rwC (c_spec_l8Undone 20000 20) (.str [40, 41] 2) h = some (.osl h.n 0 0 1, h.push (.cells 0 [])) := by kernel_rfl
theorem t_spec_l8Undone_1 (h : H) : rwC (c_spec_l8Undone 20000 20) (.str [40, 40, 41, 40, 41, 41] 6) h = some (.osl h.n 0 0 1, h.push (.cells 0 [])) := by kernel_rfl
theorem t_spec_l8Undone_2 (h : H) : rwC (c_spec_l8Undone 20000 20) (.str [40, 40, 41, 40, 40, 41, 40, 41, 41, 41] 10) h = some (.osl h.n 0 1 1, h.push (.cells 0 [.str [40, 40, 40, 41, 40, 41, 41, 40, 41, 41] 10])) := by kernel_rfl
theorem t_spec_l8Undone_3 (h : H) : rwC (c_spec_l8Undone 20000 20) (.str [40, 40, 40, 41, 40, 41, 41, 40, 41, 41] 10) h = some (.osl h.n 0 0 1, h.push (.cells 0 [])) := by kernel_rfl
theorem t_spec_l8Undone_4 (h : H) : rwC (c_spec_l8Undone 20000 20) (.str [40, 40, 41, 40, 40, 41, 40, 40, 41, 40, 41, 41, 41, 41] 14) h = some (.osl h.n 0 2 1, h.push (.cells 0 [.str [40, 40, 41, 40, 40, 40, 41, 40, 41, 41, 40, 41, 41, 41] 14, .str [40, 40, 40, 41, 40, 41, 41, 40, 40, 41, 40, 41, 41, 41] 14])) := by kernel_rfl
theorem t_spec_l8Undone_5 (h : H) : rwC (c_spec_l8Undone 20000 20) (.str [40, 40, 41, 40, 40, 40, 41, 40, 41, 41, 40, 41, 41, 41] 14) h = some (.osl h.n 0 1 1, h.push (.cells 0 [.str [40, 40, 40, 41, 40, 40, 41, 40, 41, 41, 41, 40, 41, 41] 14])) := by kernel_rfl
theorem t_spec_l8Undone_6 (h : H) : rwC (c_spec_l8Undone 20000 20) (.str [40, 40, 40, 41, 40, 41, 41, 40, 40, 41, 40, 41, 41, 41] 14) h = some (.osl h.n 0 1 1, h.push (.cells 0 [.str [40, 40, 40, 40, 41, 40, 41, 41, 40, 41, 41, 40, 41, 41] 14])) := by kernel_rfl
theorem t_spec_l8Undone_7 (h : H) : rwC (c_spec_l8Undone 20000 20) (.str [40, 40, 40, 41, 40, 40, 41, 40, 41, 41, 41, 40, 41, 41] 14) h = some (.osl h.n 0 1 1, h.push (.cells 0 [.str [40, 40, 40, 40, 41, 40, 41, 41, 40, 41, 41, 40, 41, 41] 14])) := by kernel_rfl
theorem t_spec_l8Undone_8 (h : H) : rwC (c_spec_l8Undone 20000 20) (.str [40, 40, 40, 40, 41, 40, 41, 41, 40, 41, 41, 40, 41, 41] 14) h = some (.osl h.n 0 0 1, h.push (.cells 0 [])) := by kernel_rfl
theorem t_spec_l8Undone_9 (h : H) : rwC (c_spec_l8Undone 20000 20) (.str [40, 40, 41, 40, 40, 41, 40, 40, 41, 40, 40, 41, 40, 41, 41, 41, 41, 41] 18) h = some (.osl h.n 0 3 1, h.push (.cells 0 [.str [40, 40, 41, 40, 40, 41, 40, 40, 40, 41, 40, 41, 41, 40, 41, 41, 41, 41] 18, .str [40, 40, 41, 40, 40, 40, 41, 40, 41, 41, 40, 40, 41, 40, 41, 41, 41, 41] 18, .str [40, 40, 40, 41, 40, 41, 41, 40, 40, 41, 40, 40, 41, 40, 41, 41, 41, 41] 18])) := by kernel_rfl
theorem t_spec_l8Undone_10 (h : H) : rwC (c_spec_l8Undone 20000 20) (.str [40, 40, 41, 40, 40, 41, 40, 40, 40, 41, 40, 41, 41, 40, 41, 41, 41, 41] 18) h = some (.osl h.n 0 2 1, h.push (.cells 0 [.str [40, 40, 41, 40, 40, 40, 41, 40, 40, 41, 40, 41, 41, 41, 40, 41, 41, 41] 18, .str [40, 40, 40, 41, 40, 41, 41, 40, 40, 40, 41, 40, 41, 41, 40, 41, 41, 41] 18])) := by kernel_rfl
theorem t_spec_l8Undone_11 (h : H) : rwC (c_spec_l8Undone 20000 20) (.str [40, 40, 41, 40, 40, 40, 41, 40, 41, 41, 40, 40, 41, 40, 41, 41, 41, 41] 18) h = some (.osl h.n 0 2 1, h.push (.cells 0 [.str [40, 40, 41, 40, 40, 40, 40, 41, 40, 41, 41, 40, 41, 41, 40, 41, 41, 41] 18, .str [40, 40, 40, 41, 40, 40, 41, 40, 41, 41, 41, 40, 40, 41, 40, 41, 41, 41] 18])) := by kernel_rfl
theorem t_spec_l8Undone_12 (h : H) : rwC (c_spec_l8Undone 20000 20) (.str [40, 40, 41, 40, 40, 40, 41, 40, 40, 41, 40, 41, 41, 41, 40, 41, 41, 41] 18) h = some (.osl h.n 0 2 1, h.push (.cells 0 [.str [40, 40, 41, 40, 40, 40, 40, 41, 40, 41, 41, 40, 41, 41, 40, 41, 41, 41] 18, .str [40, 40, 40, 41, 40, 40, 41, 40, 40, 41, 40, 41, 41, 41, 41, 40, 41, 41] 18])) := by kernel_rfl
theorem t_spec_l8Undone_13 (h : H) : rwC (c_spec_l8Undone 20000 20) (.str [40, 40, 41, 40, 40, 40, 40, 41, 40, 41, 41, 40, 41, 41, 40, 41, 41, 41] 18) h = some (.osl h.n 0 1 1, h.push (.cells 0 [.str [40, 40, 40, 41, 40, 40, 40, 41, 40, 41, 41, 40, 41, 41, 41, 40, 41, 41] 18])) := by kernel_rfl
theorem t_spec_l8Undone_14 (h : H) : rwC (c_spec_l8Undone 20000 20) (.str [40, 40, 40, 41, 40, 41, 41, 40, 40, 41, 40, 40, 41, 40, 41, 41, 41, 41] 18) h = some (.osl h.n 0 2 1, h.push (.cells 0 [.str [40, 40, 40, 41, 40, 41, 41, 40, 40, 40, 41, 40, 41, 41, 40, 41, 41, 41] 18, .str [40, 40, 40, 40, 41, 40, 41, 41, 40, 41, 41, 40, 40, 41, 40, 41, 41, 41] 18])) := by kernel_rfl
theorem t_spec_l8Undone_15 (h : H) : rwC (c_spec_l8Undone 20000 20) (.str [40, 40, 40, 41, 40, 41, 41, 40, 40, 40, 41, 40, 41, 41, 40, 41, 41, 41] 18) h = some (.osl h.n 0 1 1, h.push (.cells 0 [.str [40, 40, 40, 40, 41, 40, 41, 41, 40, 40, 41, 40, 41, 41, 41, 40, 41, 41] 18])) := by kernel_rfl
theorem t_spec_l8Undone_16 (h : H) : rwC (c_spec_l8Undone 20000 20) (.str [40, 40, 40, 41, 40, 40, 41, 40, 41, 41, 41, 40, 40, 41, 40, 41, 41, 41] 18) h = some (.osl h.n 0 2 1, h.push (.cells 0 [.str [40, 40, 40, 40, 41, 40, 41, 41, 40, 41, 41, 40, 40, 41, 40, 41, 41, 41] 18, .str [40, 40, 40, 40, 41, 40, 40, 41, 40, 41, 41, 41, 40, 41, 41, 40, 41, 41] 18])) := by kernel_rfl
theorem t_spec_l8Undone_17 (h : H) : rwC (c_spec_l8Undone 20000 20) (.str [40, 40, 40, 40, 41, 40, 41, 41, 40, 41, 41, 40, 40, 41, 40, 41, 41, 41] 18) h = some (.osl h.n 0 1 1, h.push (.cells 0 [.str [40, 40, 40, 40, 40, 41, 40, 41, 41, 40, 41, 41, 40, 41, 41, 40, 41, 41] 18])) := by kernel_rfl
theorem t_spec_l8Undone_18 (h : H) : rwC (c_spec_l8Undone 20000 20) (.str [40, 40, 40, 41, 40, 40, 41, 40, 40, 41, 40, 41, 41, 41, 41, 40, 41, 41] 18) h = some (.osl h.n 0 2 1, h.push (.cells 0 [.str [40, 40, 40, 41, 40, 40, 40, 41, 40, 41, 41, 40, 41, 41, 41, 40, 41, 41] 18, .str [40, 40, 40, 40, 41, 40, 41, 41, 40, 40, 41, 40, 41, 41, 41, 40, 41, 41] 18])) := by kernel_rfl
theorem t_spec_l8Undone_19 (h : H) : rwC (c_spec_l8Undone 20000 20) (.str [40, 40, 40, 41, 40, 40, 40, 41, 40, 41, 41, 40, 41, 41, 41, 40, 41, 41] 18) h = some (.osl h.n 0 1 1, h.push (.cells 0 [.str [40, 40, 40, 40, 41, 40, 40, 41, 40, 41, 41, 41, 40, 41, 41, 40, 41, 41] 18])) := by kernel_rfl
theorem t_spec_l8Undone_20 (h : H) : rwC (c_spec_l8Undone 20000 20) (.str [40, 40, 40, 40, 41, 40, 41, 41, 40, 40, 41, 40, 41, 41, 41, 40, 41, 41] 18) h = some (.osl h.n 0 1 1, h.push (.cells 0 [.str [40, 40, 40, 40, 40, 41, 40, 41, 41, 40, 41, 41, 40, 41, 41, 40, 41, 41] 18])) := by kernel_rfl
theorem t_spec_l8Undone_21 (h : H) : rwC (c_spec_l8Undone 20000 20) (.str [40, 40, 40, 40, 41, 40, 40, 41, 40, 41, 41, 41, 40, 41, 41, 40, 41, 41] 18) h = some (.osl h.n 0 1 1, h.push (.cells 0 [.str [40, 40, 40, 40, 40, 41, 40, 41, 41, 40, 41, 41, 40, 41, 41, 40, 41, 41] 18])) := by kernel_rfl
theorem t_spec_l8Undone_22 (h : H) : rwC (c_spec_l8Undone 20000 20) (.str [40, 40, 40, 40, 40, 41, 40, 41, 41, 40, 41, 41, 40, 41, 41, 40, 41, 41] 18) h = some (.osl h.n 0 0 1, h.push (.cells 0 [])) := by kernel_rfl
theorem all_spec_l8Undone : ∀ p ∈ T_spec_l8Undone, ∀ h, rwC (c_spec_l8Undone 20000 20) (.str p.1 (lenL p.1)) h = some (.osl h.n 0 p.2.length 1, h.push (.cells 0 p.2)) := by
  intro p hp h
  simp only [T_spec_l8Undone, List.mem_cons, List.not_mem_nil, or_false] at hp
  rcases hp with rfl | rfl | rfl | rfl | rfl | rfl | rfl | rfl | rfl | rfl | rfl | rfl | rfl | rfl | rfl | rfl | rfl | rfl | rfl | rfl | rfl | rfl | rfl
  · exact t_spec_l8Undone_0 h
  · exact t_spec_l8Undone_1 h
  · exact t_spec_l8Undone_2 h
  · exact t_spec_l8Undone_3 h
  · exact t_spec_l8Undone_4 h
  · exact t_spec_l8Undone_5 h
  · exact t_spec_l8Undone_6 h
  · exact t_spec_l8Undone_7 h
  · exact t_spec_l8Undone_8 h
  · exact t_spec_l8Undone_9 h
  · exact t_spec_l8Undone_10 h
  · exact t_spec_l8Undone_11 h
  · exact t_spec_l8Undone_12 h
  · exact t_spec_l8Undone_13 h
  · exact t_spec_l8Undone_14 h
  · exact t_spec_l8Undone_15 h
  · exact t_spec_l8Undone_16 h
  · exact t_spec_l8Undone_17 h
  · exact t_spec_l8Undone_18 h
  · exact t_spec_l8Undone_19 h
  · exact t_spec_l8Undone_20 h
  · exact t_spec_l8Undone_21 h
  · exact t_spec_l8Undone_22 h
end
end Go.AI.T.BB
namespace Go.AI.T
open Go Go.RowKit Go.AI
set_option linter.unusedVariables false
set_option linter.unusedSimpArgs false
set_option maxRecDepth 100000
noncomputable section
def c_impl_besides (F g : Nat) (a0 : AV) (h : H) : Option R := BB.tabC 0 BB.T_impl_besides a0 h
theorem s_impl_besides (F g : Nat) : ∀ args h r, u1 (c_impl_besides F g) args h = some r → Tri Go.Proofs.Try.prog id_impl_besides args h r := BB.tabC_sound (BB.rwC_sound (BB.s_impl_besides 20000 20)) BB.all_impl_besides
def c_spec_l8Turns (F g : Nat) (a0 : AV) (h : H) : Option R := BB.tabC 0 BB.T_spec_l8Turns a0 h
theorem s_spec_l8Turns (F g : Nat) : ∀ args h r, u1 (c_spec_l8Turns F g) args h = some r → Tri Go.Proofs.Try.prog id_spec_l8Turns args h r := BB.tabC_sound (BB.rwC_sound (BB.s_spec_l8Turns 20000 20)) BB.all_spec_l8Turns
def c_spec_l8Undone (F g : Nat) (a0 : AV) (h : H) : Option R := BB.tabC 0 BB.T_spec_l8Undone a0 h
theorem s_spec_l8Undone (F g : Nat) : ∀ args h r, u1 (c_spec_l8Undone F g) args h = some r → Tri Go.Proofs.Try.prog id_spec_l8Undone args h r := BB.tabC_sound (BB.rwC_sound (BB.s_spec_l8Undone 20000 20)) BB.all_spec_l8Undone
end
end Go.AI.T
