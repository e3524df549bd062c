/- The functions that the law FnPairBelow reaches, as the evaluator reads them. -/
import Derived.Test.YtjdhiljnablogaaPa2
import Derived.Test.YtjdhiljnablogaaProg
import Derived.KernelRfl
namespace Go.AI.Q
open Go Go.RowKit Go.AI
set_option linter.unusedVariables false
set_option linter.unusedSimpArgs false
set_option maxRecDepth 100000
noncomputable section
-- "loop.example/treenumbers/spec.DrawPairBelow"
noncomputable def c_spec_DrawPairBelow (F g : Nat) (a0 : AV) (h : H) : Option R := bindR (c_spec_l92Two F g a0 h) fun x1 h => aExtract x1 0 h fun x2 h => aExtract x1 1 h fun x3 h => some (AV.one .tup (AV.cons x2 (AV.cons x3 (AV.leaf .nil))), h)
noncomputable def A_spec_DrawPairBelow : An := (.two .o (.two .o .o))
noncomputable def b_spec_DrawPairBelow : Code := bodyOf Go.Proofs.Try.f12
theorem k_spec_DrawPairBelow (F g : Nat) (a0 : AV) (h : H) : callD Go.Proofs.Try.prog (Env.add (fun _ _ _ => none : Env) 28 (u1 (c_spec_l92Two F g))) 8 F b_spec_DrawPairBelow [2, 3] A_spec_DrawPairBelow [a0] h = c_spec_DrawPairBelow F g a0 h := by kernel_rfl
theorem s_spec_DrawPairBelow (F g : Nat) : ∀ args h r, u1 (c_spec_DrawPairBelow F g) args h = some r → Tri Go.Proofs.Try.prog 12 args h r := by
  intro args h r e; obtain ⟨a0, rfl, e1⟩ := u1_some e; exact fn_sound Go.Proofs.Try.func12 rfl rfl rfl Go.Proofs.Try.ntmps12 (Sound.add (Sound.none _) (s_spec_l92Two F g)) ((k_spec_DrawPairBelow F g a0 h).trans e1)

end
end Go.AI.Q
namespace Go.AI.T
open Go Go.RowKit Go.AI
set_option linter.unusedVariables false
set_option linter.unusedSimpArgs false
set_option maxRecDepth 100000
noncomputable section
def c_spec_DrawPairBelow (F g : Nat) (a0 : AV) (h : H) : Option R := quietC (Go.AI.Q.c_spec_DrawPairBelow 20000 20) a0 h
theorem s_spec_DrawPairBelow (F g : Nat) : ∀ args h r, u1 (c_spec_DrawPairBelow F g) args h = some r → Tri Go.Proofs.Try.prog id_spec_DrawPairBelow args h r := quietC_sound (Go.AI.Q.s_spec_DrawPairBelow 20000 20)
theorem draw_FnPairBelow {a0 : AV} {n : Nat} {L : List AV} {B : Blk} (F g : Nat) (ha : (a0 = .leaf .nils ∧ n = 0) ∨ a0 = .osl 0 0 n 1) (hB : 0 < n → B = .cells 2 L) (hb : ∀ i, i < n → ∃ v, L[i]? = some (.int 4 (.ofNat v)) ∧ v < 256) :
    ∃ s t, s ∈ Go.AI.Q.PLx ∧ t ∈ Go.AI.Q.PLx ∧ c_spec_DrawPairBelow F g a0 (hCode B) = some (Go.AI.Q.pair s t, hCode B) := by
  obtain ⟨s, t, h', hs, ht, e2, hlo⟩ := Go.AI.Q.two_ok (F := 20000) (g := 20) (h := hCode B) (by omega) ha (fun hn => ⟨2, hB hn⟩) hb (Nat.le_refl _) (Nat.le_refl _)
  refine ⟨s, t, hs, ht, quietC_ok (h' := h') ?_ rfl hlo⟩
  show Go.AI.Q.c_spec_DrawPairBelow 20000 20 a0 (hCode B) = _
  delta Go.AI.Q.c_spec_DrawPairBelow
  rw [e2, bindR_some']
  rfl
end
end Go.AI.T
namespace Go.AI.T
open Go Go.RowKit Go.AI
set_option linter.unusedVariables false
set_option linter.unusedSimpArgs false
set_option maxRecDepth 100000
noncomputable section
-- "loop.example/treenumbers/impl.pairsIn"
noncomputable def c_impl_pairsIn_j1 (F g : Nat) (vs : List AV) (h : H) : Option R := (fun x29 x30 x31 => aPick x30 x31 (AV.bool false) h fun x32 h => some (AV.one .tup (AV.cons x29 (AV.cons x32 (AV.leaf .nil))), h)) (hd vs) (hd (tl vs)) (hd (tl (tl vs)))
noncomputable def c_impl_pairsIn (F g : Nat) : AV → H → Option R := Nat.rec (motive := fun _ => AV → H → Option R) (fun _ _ => none) (fun g self a0 h => aNilCheck a0 h fun x1 h => aField 2 x1 h fun x2 h => aLoad x2 h fun x3 h => aLenK 1 x3 h fun x4 h => aCmpI ieq x4 (AV.int 3 (Int.ofNat 0)) h fun x5 h => withBool x5 fun t6 => bc t6 (aBuild [] [] h fun x7 h => aMkIface 93 x7 h fun x8 h => some (AV.one .tup (AV.cons x8 (AV.cons (AV.bool true) (AV.leaf .nil))), h)) (aCmpI ieq x4 (AV.int 3 (Int.ofNat 2)) h fun x9 h => withBool x9 fun t10 => bc t10 (aNilCheck a0 h fun x11 h => aField 2 x11 h fun x12 h => aLoad x12 h fun x13 h => aIdxAddr 1 x13 (AV.int 3 (Int.ofNat 0)) h fun x14 h => aLoad x14 h fun x15 h => bindR (self x15 h) fun x16 h => aExtract x16 0 h fun x17 h => aExtract x16 1 h fun x18 h => aNilCheck a0 h fun x19 h => aField 2 x19 h fun x20 h => aLoad x20 h fun x21 h => aIdxAddr 1 x21 (AV.int 3 (Int.ofNat 1)) h fun x22 h => aLoad x22 h fun x23 h => bindR (self x23 h) fun x24 h => aExtract x24 0 h fun x25 h => aExtract x24 1 h fun x26 h => aBuild [(AV.leaf .nili), (AV.leaf .nili)] [(0, 1, x17), (1, 1, x25)] h fun x27 h => aMkIface 95 x27 h fun x28 h => guardB true x18 ((c_impl_pairsIn_j1 F g) [x28, x18, x26] h) ((c_impl_pairsIn_j1 F g) [x28, x18, (AV.one .tup (AV.leaf .nil))] h)) (some (AV.one .tup (AV.cons (AV.leaf .nili) (AV.cons (AV.bool false) (AV.leaf .nil))), h)))) g
noncomputable def A_impl_pairsIn : An := (.two .o (.two .o (.two (.two .o (.two (.two .o .o) (.two .o (.two (.two .o (.two .o (.two (.at_ [42, 44, 45] .o .o) .o))) (.two .o .o))))) .o)))
noncomputable def b_impl_pairsIn : Code := bodyOf Go.Proofs.Try.f67
theorem k_impl_pairsIn (F g : Nat) (a0 : AV) (h : H) : callD Go.Proofs.Try.prog (Env.add (fun _ _ _ => none : Env) 67 (u1 (c_impl_pairsIn F g))) 47 F b_impl_pairsIn [2, 3] A_impl_pairsIn [a0] h = c_impl_pairsIn F (g + 1) a0 h := by kernel_rfl
theorem s_impl_pairsIn (F g : Nat) : ∀ args h r, u1 (c_impl_pairsIn F g) args h = some r → Tri Go.Proofs.Try.prog 67 args h r := by
  induction g with
  | zero => intro args h r e; obtain ⟨a0, rfl, e⟩ := u1_some e; cases e
  | succ g ih => intro args h r e; obtain ⟨a0, rfl, e1⟩ := u1_some e; exact fn_sound Go.Proofs.Try.func67 rfl rfl rfl Go.Proofs.Try.ntmps67 (Sound.add (Sound.none _) ih) ((k_impl_pairsIn F g a0 h).trans e1)

-- "loop.example/treenumbers/impl.readPairs"
noncomputable def c_impl_readPairs (F g : Nat) (a0 : AV) (h : H) : Option R := bindR (c_impl_readTree F g a0 h) fun x1 h => aExtract x1 0 h fun x2 h => aExtract x1 1 h fun x3 h => aNot x3 h fun x4 h => withBool x4 fun t5 => bc t5 (some (AV.one .tup (AV.cons (AV.leaf .nili) (AV.cons (AV.bool false) (AV.leaf .nil))), h)) (bindR (c_impl_pairsIn F g x2 h) fun x6 h => aExtract x6 0 h fun x7 h => aExtract x6 1 h fun x8 h => some (AV.one .tup (AV.cons x7 (AV.cons x8 (AV.leaf .nil))), h))
noncomputable def A_impl_readPairs : An := (.two .o (.two .o (.two (.two .o (.two (.two .o .o) .o)) (.two .o .o))))
noncomputable def b_impl_readPairs : Code := bodyOf Go.Proofs.Try.f49
theorem k_impl_readPairs (F g : Nat) (a0 : AV) (h : H) : callD Go.Proofs.Try.prog (Env.add (Env.add (fun _ _ _ => none : Env) 25 (u1 (c_impl_readTree F g))) 67 (u1 (c_impl_pairsIn F g))) 17 F b_impl_readPairs [2, 3] A_impl_readPairs [a0] h = c_impl_readPairs F g a0 h := by kernel_rfl
theorem s_impl_readPairs (F g : Nat) : ∀ args h r, u1 (c_impl_readPairs F g) args h = some r → Tri Go.Proofs.Try.prog 49 args h r := by
  intro args h r e; obtain ⟨a0, rfl, e1⟩ := u1_some e; exact fn_sound Go.Proofs.Try.func49 rfl rfl rfl Go.Proofs.Try.ntmps49 (Sound.add (Sound.add (Sound.none _) (s_impl_readTree F g)) (s_impl_pairsIn F g)) ((k_impl_readPairs F g a0 h).trans e1)

-- "loop.example/treenumbers/impl.PairIn"
noncomputable def c_impl_PairIn (F g : Nat) (a0 : AV) (h : H) : Option R := bindR (c_impl_readPairs F g a0 h) fun x1 h => aExtract x1 0 h fun x2 h => aExtract x1 1 h fun x3 h => some (x3, h)
noncomputable def A_impl_PairIn : An := (.two .o (.two .o (.two .o .o)))
noncomputable def b_impl_PairIn : Code := bodyOf Go.Proofs.Try.f29
theorem k_impl_PairIn (F g : Nat) (a0 : AV) (h : H) : callD Go.Proofs.Try.prog (Env.add (fun _ _ _ => none : Env) 49 (u1 (c_impl_readPairs F g))) 11 F b_impl_PairIn [2] A_impl_PairIn [a0] h = c_impl_PairIn F g a0 h := by kernel_rfl
theorem s_impl_PairIn (F g : Nat) : ∀ args h r, u1 (c_impl_PairIn F g) args h = some r → Tri Go.Proofs.Try.prog 29 args h r := by
  intro args h r e; obtain ⟨a0, rfl, e1⟩ := u1_some e; exact fn_sound Go.Proofs.Try.func29 rfl rfl rfl Go.Proofs.Try.ntmps29 (Sound.add (Sound.none _) (s_impl_readPairs F g)) ((k_impl_PairIn F g a0 h).trans e1)

-- "loop.example/treenumbers/impl.grown"
noncomputable def c_impl_grown (F g : Nat) : AV → H → Option R := Nat.rec (motive := fun _ => AV → H → Option R) (fun _ _ => none) (fun g self a0 h => aIdxAddr 1 a0 (AV.int 3 (Int.ofNat 0)) h fun x1 h => aLoad x1 h fun x2 h => aAssertC true 95 (AV.one .agg (AV.cons (AV.leaf .nili) (AV.cons (AV.leaf .nili) (AV.leaf .nil)))) x2 h fun x3 h => aExtract x3 1 h fun x4 h => aExtract x3 0 h fun x5 h => withBool x4 fun t6 => bc t6 (aSliceV 1 a0 (some (AV.int 3 (Int.ofNat 1))) none none h fun x7 h => bindR (self x7 h) fun x8 h => aExtract x8 0 h fun x9 h => aExtract x8 1 h fun x10 h => bindR (self x10 h) fun x11 h => aExtract x11 0 h fun x12 h => aExtract x11 1 h fun x13 h => aBuild [(AV.leaf .nili), (AV.leaf .nili)] [(0, 1, x9), (1, 1, x12)] h fun x14 h => aMkIface 95 x14 h fun x15 h => some (AV.one .tup (AV.cons x15 (AV.cons x13 (AV.leaf .nil))), h)) (aBuild [] [] h fun x16 h => aMkIface 93 x16 h fun x17 _ => aSliceV 1 a0 (some (AV.int 3 (Int.ofNat 1))) none none h fun x18 _ => some (AV.one .tup (AV.cons x17 (AV.cons x18 (AV.leaf .nil))), h))) g
noncomputable def A_impl_grown : An := (.two .o (.two .o (.two (.two .o (.two (.two .o (.two .o (.two .o .o))) (.two .o .o))) .o)))
noncomputable def b_impl_grown : Code := bodyOf Go.Proofs.Try.f74
theorem k_impl_grown (F g : Nat) (a0 : AV) (h : H) : callD Go.Proofs.Try.prog (Env.add (fun _ _ _ => none : Env) 74 (u1 (c_impl_grown F g))) 34 F b_impl_grown [2, 3] A_impl_grown [a0] h = c_impl_grown F (g + 1) a0 h := by kernel_rfl
theorem s_impl_grown (F g : Nat) : ∀ args h r, u1 (c_impl_grown F g) args h = some r → Tri Go.Proofs.Try.prog 74 args h r := by
  induction g with
  | zero => intro args h r e; obtain ⟨a0, rfl, e⟩ := u1_some e; cases e
  | succ g ih => intro args h r e; obtain ⟨a0, rfl, e1⟩ := u1_some e; exact fn_sound Go.Proofs.Try.func74 rfl rfl rfl Go.Proofs.Try.ntmps74 (Sound.add (Sound.none _) ih) ((k_impl_grown F g a0 h).trans e1)

-- "(*loop.example/treenumbers/impl.node).nodes"
noncomputable def c_impl_node_nodes_l1 (F g : Nat) (self : AV → H → Option R) : List AV → H → (List AV → H → Option R) → Option R := fun vs h kc6 => (fun x7 x8 x9 x10 => aCmpI ilt x10 x9 h fun x11 h => withBool x11 fun t12 => bc t12 (aIdxAddr 1 x8 x10 h fun x13 h => aLoad x13 h fun x14 h => bindR (self x14 h) fun x15 h => aAppend 1 8 x7 x15 h fun x16 h => aArith iadd x10 (AV.int 3 (Int.ofNat 1)) h fun x17 h => kc6 [x16, x8, x9, x17] h) (some (x7, h))) (hd vs) (hd (tl vs)) (hd (tl (tl vs))) (hd (tl (tl (tl vs))))
noncomputable def c_impl_node_nodes (F g : Nat) : AV → H → Option R := Nat.rec (motive := fun _ => AV → H → Option R) (fun _ _ => none) (fun g self a0 h => aBuildSlice 1 1 [(0, 1, a0)] h fun x1 h => aNilCheck a0 h fun x2 h => aField 2 x2 h fun x3 h => aLoad x3 h fun x4 h => aLenK 1 x4 h fun x5 h => loopD F (c_impl_node_nodes_l1 F g self) [x1, x4, x5, (AV.int 3 (Int.ofNat 0))] h) g
noncomputable def A_impl_node_nodes : An := (.two .o (.two .o (.two (.two .o (.two (.at_ [3, 11, 12, 13] (.two .o (.two (.two .o .o) (.two (.two (.two .o .o) .o) .o))) .o) .o)) (.two .o .o))))
noncomputable def b_impl_node_nodes : Code := bodyOf Go.Proofs.Try.f27
theorem k_impl_node_nodes (F g : Nat) (a0 : AV) (h : H) : callD Go.Proofs.Try.prog (Env.add (fun _ _ _ => none : Env) 27 (u1 (c_impl_node_nodes F g))) 23 F b_impl_node_nodes [2] A_impl_node_nodes [a0] h = c_impl_node_nodes F (g + 1) a0 h := by kernel_rfl
theorem s_impl_node_nodes (F g : Nat) : ∀ args h r, u1 (c_impl_node_nodes F g) args h = some r → Tri Go.Proofs.Try.prog 27 args h r := by
  induction g with
  | zero => intro args h r e; obtain ⟨a0, rfl, e⟩ := u1_some e; cases e
  | succ g ih => intro args h r e; obtain ⟨a0, rfl, e1⟩ := u1_some e; exact fn_sound Go.Proofs.Try.func27 rfl rfl rfl Go.Proofs.Try.ntmps27 (Sound.add (Sound.none _) ih) ((k_impl_node_nodes F g a0 h).trans e1)

-- "(loop.example/treenumbers/impl.lone).nodes"
noncomputable def c_impl_lone_nodes (F g : Nat) (a0 : AV) (h : H) : Option R := aBox a0 h fun x1 h => aLoadN 0 x1 h fun x2 h => aMkIface 93 x2 h fun x3 h => aBuildSlice 1 1 [(0, 1, x3)] h fun x4 h => some (x4, h)
noncomputable def A_impl_lone_nodes : An := (.two .o (.two .o .o))
noncomputable def b_impl_lone_nodes : Code := bodyOf Go.Proofs.Try.f110
theorem k_impl_lone_nodes (F g : Nat) (a0 : AV) (h : H) : callD Go.Proofs.Try.prog (fun _ _ _ => none : Env) 6 F b_impl_lone_nodes [2] A_impl_lone_nodes [a0] h = c_impl_lone_nodes F g a0 h := by kernel_rfl
theorem s_impl_lone_nodes (F g : Nat) : ∀ args h r, u1 (c_impl_lone_nodes F g) args h = some r → Tri Go.Proofs.Try.prog 110 args h r := by
  intro args h r e; obtain ⟨a0, rfl, e1⟩ := u1_some e; exact fn_sound Go.Proofs.Try.func110 rfl rfl rfl Go.Proofs.Try.ntmps110 (Sound.none _) ((k_impl_lone_nodes F g a0 h).trans e1)

-- "slices.Grow[[]loop.example/treenumbers/impl.pairTree,loop.example/treenumbers/impl.pairTree]"
noncomputable def c_slices_Grow_11b6_j1 (F g : Nat) (vs : List AV) (h : H) : Option R := (fun x3 => some (x3, h)) (hd vs)
noncomputable def c_slices_Grow_11b6_j2 (F g : Nat) (vs : List AV) (h : H) : Option R := (fun x1 x2 => aCap x1 h fun x4 h => aLenK 1 x1 h fun x5 h => aArith isub x4 x5 h fun x6 h => aArith isub x2 x6 h fun x7 h => aCmpI (fun a b => ilt b a) x7 (AV.int 3 (Int.ofNat 0)) h fun x8 h => withBool x8 fun t9 => bc t9 (aCap x1 h fun x10 h => aSliceV 1 x1 none (some x10) none h fun x11 h => aAppZ 1 16 [(AV.leaf .nili)] x11 x7 h fun x12 h => aLenK 1 x1 h fun x13 h => aSliceV 1 x12 none (some x13) none h fun x14 h => (c_slices_Grow_11b6_j1 F g) [x14] h) ((c_slices_Grow_11b6_j1 F g) [x1] h)) (hd vs) (hd (tl vs))
noncomputable def c_slices_Grow_11b6 (F g : Nat) (a0 a1 : AV) (h : H) : Option R := aCmpI ilt a1 (AV.int 3 (Int.ofNat 0)) h fun x15 h => withBool x15 fun t16 => bc t16 (aMkIface 9 (AV.str [99, 97, 110, 110, 111, 116, 32, 98, 101, 32, 110, 101, 103, 97, 116, 105, 118, 101] 18) h fun x17 h => none) ((c_slices_Grow_11b6_j2 F g) [a0, a1] h)
noncomputable def A_slices_Grow_11b6 : An := (.two .o (.at_ [0, 1] (.two .o (.two .o .o)) (.at_ [0] (.two .o (.two .o (.two .o .o))) (.two .o .o))))
noncomputable def b_slices_Grow_11b6 : Code := bodyOf Go.Proofs.Try.f116
theorem k_slices_Grow_11b6 (F g : Nat) (a0 a1 : AV) (h : H) : callD Go.Proofs.Try.prog (fun _ _ _ => none : Env) 27 F b_slices_Grow_11b6 [4] A_slices_Grow_11b6 [a0, a1] h = c_slices_Grow_11b6 F g a0 a1 h := by kernel_rfl
theorem s_slices_Grow_11b6 (F g : Nat) : ∀ args h r, u2 (c_slices_Grow_11b6 F g) args h = some r → Tri Go.Proofs.Try.prog 116 args h r := by
  intro args h r e; obtain ⟨a0, a1, rfl, e1⟩ := u2_some e; exact fn_sound Go.Proofs.Try.func116 rfl rfl rfl Go.Proofs.Try.ntmps116 (Sound.none _) ((k_slices_Grow_11b6 F g a0 a1 h).trans e1)

-- "slices.Concat[[]loop.example/treenumbers/impl.pairTree,loop.example/treenumbers/impl.pairTree]"
noncomputable def c_slices_Concat_11b6_j1 (F g : Nat) (kc2 : List AV → H → Option R) (vs : List AV) (h : H) : Option R := (fun x10 x11 x12 x13 x14 => aArith iadd x14 (AV.int 3 (Int.ofNat 1)) h fun x15 h => kc2 [x10, x11, x12, x13, x15] h) (hd vs) (hd (tl vs)) (hd (tl (tl vs))) (hd (tl (tl (tl vs)))) (hd (tl (tl (tl (tl vs)))))
noncomputable def c_slices_Concat_11b6_l2 (F g : Nat) : List AV → H → (List AV → H → Option R) → Option R := fun vs h kc25 => (fun x26 x27 x28 x29 => aCmpI ilt x29 x28 h fun x30 h => withBool x30 fun t31 => bc t31 (aIdxAddr 1 x27 x29 h fun x32 h => aLoad x32 h fun x33 h => aAppend 1 16 x26 x33 h fun x34 h => aArith iadd x29 (AV.int 3 (Int.ofNat 1)) h fun x35 h => kc25 [x34, x27, x28, x35] h) (some (x26, h))) (hd vs) (hd (tl vs)) (hd (tl (tl vs))) (hd (tl (tl (tl vs))))
noncomputable def c_slices_Concat_11b6_l3 (F g : Nat) : List AV → H → (List AV → H → Option R) → Option R := fun vs h kc2 => (fun x3 x4 x5 x6 x7 => aCmpI ilt x7 x6 h fun x8 h => withBool x8 fun t9 => bc t9 (aIdxAddr 1 x5 x7 h fun x16 h => aLoad x16 h fun x17 h => aLenK 1 x17 h fun x18 h => aArith iadd x4 x18 h fun x19 h => aCmpI ilt x19 (AV.int 3 (Int.ofNat 0)) h fun x20 h => withBool x20 fun t21 => bc t21 (aMkIface 9 (AV.str [108, 101, 110, 32, 111, 117, 116, 32, 111, 102, 32, 114, 97, 110, 103, 101] 16) h fun x22 h => none) ((c_slices_Concat_11b6_j1 F g kc2) [x3, x19, x5, x6, x7] h)) (bindR (c_slices_Grow_11b6 F g (AV.leaf .nils) x4 h) fun x23 h => aLenK 1 x3 h fun x24 h => loopD F (c_slices_Concat_11b6_l2 F g) [x23, x3, x24, (AV.int 3 (Int.ofNat 0))] h)) (hd vs) (hd (tl vs)) (hd (tl (tl vs))) (hd (tl (tl (tl vs)))) (hd (tl (tl (tl (tl vs)))))
noncomputable def c_slices_Concat_11b6 (F g : Nat) (a0 : AV) (h : H) : Option R := aLenK 1 a0 h fun x1 h => loopD F (c_slices_Concat_11b6_l3 F g) [a0, (AV.int 3 (Int.ofNat 0)), a0, x1, (AV.int 3 (Int.ofNat 0))] h
noncomputable def A_slices_Concat_11b6 : An := (.two .o (.two .o (.two (.two .o (.two (.at_ [0, 3, 9, 10, 11] (.two .o (.two (.two .o .o) (.at_ [0, 3, 9, 10, 11] (.two (.two .o (.two .o (.two .o (.two .o .o)))) .o) .o))) .o) .o)) (.two .o (.two (.two .o (.two (.at_ [6, 25, 26, 27] (.two .o (.two (.two .o .o) (.two (.two (.two .o .o) .o) .o))) .o) .o)) (.two .o .o))))))
noncomputable def b_slices_Concat_11b6 : Code := bodyOf Go.Proofs.Try.f115
theorem k_slices_Concat_11b6 (F g : Nat) (a0 : AV) (h : H) : callD Go.Proofs.Try.prog (Env.add (fun _ _ _ => none : Env) 116 (u2 (c_slices_Grow_11b6 F g))) 36 F b_slices_Concat_11b6 [2] A_slices_Concat_11b6 [a0] h = c_slices_Concat_11b6 F g a0 h := by kernel_rfl
theorem s_slices_Concat_11b6 (F g : Nat) : ∀ args h r, u1 (c_slices_Concat_11b6 F g) args h = some r → Tri Go.Proofs.Try.prog 115 args h r := by
  intro args h r e; obtain ⟨a0, rfl, e1⟩ := u1_some e; exact fn_sound Go.Proofs.Try.func115 rfl rfl rfl Go.Proofs.Try.ntmps115 (Sound.add (Sound.none _) (s_slices_Grow_11b6 F g)) ((k_slices_Concat_11b6 F g a0 h).trans e1)

-- "(loop.example/treenumbers/impl.inner).nodes"
noncomputable def c_impl_inner_nodes (F g : Nat) : AV → H → Option R := Nat.rec (motive := fun _ => AV → H → Option R) (fun _ _ => none) (fun g self a0 h => aBox a0 h fun x1 h => (fun (W2 : List (Nat × List AV)) (lo3 : Nat) => (fun h => aLoadN4 2 W2 x1 h fun x4 h => aMkIface 95 x4 h fun x5 _ => bc (okL W2 h) (aField 0 x1 h fun x6 _ => bc (okL W2 h) (aLoad4 W2 x6 h fun x7 h => dInv (Env.add (Env.add (Env.add (fun _ _ _ => none : Env) 27 (u1 (c_impl_node_nodes F g))) 110 (u1 (c_impl_lone_nodes F g))) 113 (u1 self)) [(40, 27), (93, 110), (95, 113)] x7 [] h fun x8 h => bc (okL W2 h) (aField 1 x1 h fun x9 _ => bc (okL W2 h) (aLoad4 W2 x9 h fun x10 h => dInv (Env.add (Env.add (Env.add (fun _ _ _ => none : Env) 27 (u1 (c_impl_node_nodes F g))) 110 (u1 (c_impl_lone_nodes F g))) 113 (u1 self)) [(40, 27), (93, 110), (95, 113)] x10 [] h fun x11 h => bc (okL W2 h) (aBuildSlice 1 1 [(0, 1, x5)] h fun x12 h => bc (okL W2 h) (aBuildSlice 3 1 [(0, 1, x12), (1, 1, x8), (2, 1, x11)] h fun x13 h => bc (okL W2 h) (bindR (c_slices_Concat_11b6 F g x13 h) fun x14 h => bc (okL W2 h) (bc (okL W2 h) ((fun h => some (x14, h)) (H.unmark h lo3)) none) none) none) none) none) none) none) none) none) (H.mark h)) (watchP h [x1, x1, (AV.leaf .undef), x1, (AV.leaf .undef)]) h.lo) g
noncomputable def A_impl_inner_nodes : An := (.two .o (.two (.at_ [0, 1, 3, 4, 5, 6, 7, 8, 2, 9, 10, 11] .o .o) .o))
noncomputable def b_impl_inner_nodes : Code := bodyOf Go.Proofs.Try.f113
theorem k_impl_inner_nodes (F g : Nat) (a0 : AV) (h : H) : callD Go.Proofs.Try.prog (Env.add (Env.add (Env.add (Env.add (fun _ _ _ => none : Env) 27 (u1 (c_impl_node_nodes F g))) 110 (u1 (c_impl_lone_nodes F g))) 115 (u1 (c_slices_Concat_11b6 F g))) 113 (u1 (c_impl_inner_nodes F g))) 14 F b_impl_inner_nodes [2] A_impl_inner_nodes [a0] h = c_impl_inner_nodes F (g + 1) a0 h := by kernel_rfl
theorem s_impl_inner_nodes (F g : Nat) : ∀ args h r, u1 (c_impl_inner_nodes F g) args h = some r → Tri Go.Proofs.Try.prog 113 args h r := by
  induction g with
  | zero => intro args h r e; obtain ⟨a0, rfl, e⟩ := u1_some e; cases e
  | succ g ih => intro args h r e; obtain ⟨a0, rfl, e1⟩ := u1_some e; exact fn_sound Go.Proofs.Try.func113 rfl rfl rfl Go.Proofs.Try.ntmps113 (Sound.add (Sound.add (Sound.add (Sound.add (Sound.none _) (s_impl_node_nodes F g)) (s_impl_lone_nodes F g)) (s_slices_Concat_11b6 F g)) ih) ((k_impl_inner_nodes F g a0 h).trans e1)

-- "(*loop.example/treenumbers/impl.node).text"
noncomputable def c_impl_node_text_l1 (F g : Nat) (self : AV → H → Option R) : List AV → H → (List AV → H → Option R) → Option R := fun vs h kc5 => (fun x6 x7 x8 x9 => aCmpI ilt x9 x8 h fun x10 h => withBool x10 fun t11 => bc t11 (aIdxAddr 1 x7 x9 h fun x12 h => aLoad x12 h fun x13 h => bindR (self x13 h) fun x14 h => aSAdd x6 x14 h fun x15 h => aArith iadd x9 (AV.int 3 (Int.ofNat 1)) h fun x16 h => kc5 [x15, x7, x8, x16] h) (aSAdd x6 (AV.str [41] 1) h fun x17 h => some (x17, h))) (hd vs) (hd (tl vs)) (hd (tl (tl vs))) (hd (tl (tl (tl vs))))
noncomputable def c_impl_node_text (F g : Nat) : AV → H → Option R := Nat.rec (motive := fun _ => AV → H → Option R) (fun _ _ => none) (fun g self a0 h => aNilCheck a0 h fun x1 h => aField 2 x1 h fun x2 h => aLoad x2 h fun x3 h => aLenK 1 x3 h fun x4 h => loopD F (c_impl_node_text_l1 F g self) [(AV.str [40] 1), x3, x4, (AV.int 3 (Int.ofNat 0))] h) g
noncomputable def A_impl_node_text : An := (.two .o (.two .o (.two (.two .o (.two (.at_ [3, 9, 10, 11] (.two .o (.two (.two .o .o) (.two (.two (.two .o .o) .o) .o))) .o) .o)) (.two .o .o))))
noncomputable def b_impl_node_text : Code := bodyOf Go.Proofs.Try.f35
theorem k_impl_node_text (F g : Nat) (a0 : AV) (h : H) : callD Go.Proofs.Try.prog (Env.add (fun _ _ _ => none : Env) 35 (u1 (c_impl_node_text F g))) 22 F b_impl_node_text [2] A_impl_node_text [a0] h = c_impl_node_text F (g + 1) a0 h := by kernel_rfl
theorem s_impl_node_text (F g : Nat) : ∀ args h r, u1 (c_impl_node_text F g) args h = some r → Tri Go.Proofs.Try.prog 35 args h r := by
  induction g with
  | zero => intro args h r e; obtain ⟨a0, rfl, e⟩ := u1_some e; cases e
  | succ g ih => intro args h r e; obtain ⟨a0, rfl, e1⟩ := u1_some e; exact fn_sound Go.Proofs.Try.func35 rfl rfl rfl Go.Proofs.Try.ntmps35 (Sound.add (Sound.none _) ih) ((k_impl_node_text F g a0 h).trans e1)

-- "(loop.example/treenumbers/impl.lone).text"
noncomputable def c_impl_lone_text (F g : Nat) (a0 : AV) (h : H) : Option R := aBox a0 h fun x1 h => some ((AV.str [40, 41] 2), h)
noncomputable def A_impl_lone_text : An := (.two .o (.two .o .o))
noncomputable def b_impl_lone_text : Code := bodyOf Go.Proofs.Try.f111
theorem k_impl_lone_text (F g : Nat) (a0 : AV) (h : H) : callD Go.Proofs.Try.prog (fun _ _ _ => none : Env) 3 F b_impl_lone_text [2] A_impl_lone_text [a0] h = c_impl_lone_text F g a0 h := by kernel_rfl
theorem s_impl_lone_text (F g : Nat) : ∀ args h r, u1 (c_impl_lone_text F g) args h = some r → Tri Go.Proofs.Try.prog 111 args h r := by
  intro args h r e; obtain ⟨a0, rfl, e1⟩ := u1_some e; exact fn_sound Go.Proofs.Try.func111 rfl rfl rfl Go.Proofs.Try.ntmps111 (Sound.none _) ((k_impl_lone_text F g a0 h).trans e1)

-- "(loop.example/treenumbers/impl.inner).text"
noncomputable def c_impl_inner_text (F g : Nat) : AV → H → Option R := Nat.rec (motive := fun _ => AV → H → Option R) (fun _ _ => none) (fun g self a0 h => aBox a0 h fun x1 h => aField 0 x1 h fun x2 _ => aLoad x2 h fun x3 _ => dInvF (Env.add (Env.add (Env.add (fun _ _ _ => none : Env) 35 (u1 (c_impl_node_text F g))) 111 (u1 (c_impl_lone_text F g))) 114 (u1 self)) [(40, 35), (93, 111), (95, 114)] x3 [] h fun x4 _ => aSAdd (AV.str [40] 1) x4 h fun x5 _ => aField 1 x1 h fun x6 _ => aLoad x6 h fun x7 _ => dInvF (Env.add (Env.add (Env.add (fun _ _ _ => none : Env) 35 (u1 (c_impl_node_text F g))) 111 (u1 (c_impl_lone_text F g))) 114 (u1 self)) [(40, 35), (93, 111), (95, 114)] x7 [] h fun x8 _ => aSAdd x5 x8 h fun x9 _ => aSAdd x9 (AV.str [41] 1) h fun x10 _ => some (x10, h)) g
noncomputable def A_impl_inner_text : An := (.two .o (.two .o .o))
noncomputable def b_impl_inner_text : Code := bodyOf Go.Proofs.Try.f114
theorem k_impl_inner_text (F g : Nat) (a0 : AV) (h : H) : callD Go.Proofs.Try.prog (Env.add (Env.add (Env.add (fun _ _ _ => none : Env) 35 (u1 (c_impl_node_text F g))) 111 (u1 (c_impl_lone_text F g))) 114 (u1 (c_impl_inner_text F g))) 12 F b_impl_inner_text [2] A_impl_inner_text [a0] h = c_impl_inner_text F (g + 1) a0 h := by kernel_rfl
theorem s_impl_inner_text (F g : Nat) : ∀ args h r, u1 (c_impl_inner_text F g) args h = some r → Tri Go.Proofs.Try.prog 114 args h r := by
  induction g with
  | zero => intro args h r e; obtain ⟨a0, rfl, e⟩ := u1_some e; cases e
  | succ g ih => intro args h r e; obtain ⟨a0, rfl, e1⟩ := u1_some e; exact fn_sound Go.Proofs.Try.func114 rfl rfl rfl Go.Proofs.Try.ntmps114 (Sound.add (Sound.add (Sound.add (Sound.none _) (s_impl_node_text F g)) (s_impl_lone_text F g)) ih) ((k_impl_inner_text F g a0 h).trans e1)

-- "loop.example/treenumbers/impl.turnedAt"
noncomputable def c_impl_turnedAt (F g : Nat) (a0 a1 : AV) (h : H) : Option R := aIdxAddr 1 a0 a1 h fun x1 h => aLoad x1 h fun x2 h => aAssertC true 95 (AV.one .agg (AV.cons (AV.leaf .nili) (AV.cons (AV.leaf .nili) (AV.leaf .nil)))) x2 h fun x3 h => aExtract x3 0 h fun x4 h => aExtract x3 1 h fun x5 h => aAlloc [(AV.leaf .nili), (AV.leaf .nili)] h fun x6 h => aStoreN 2 x6 x4 h fun x7 h => aNot x5 h fun x8 h => withBool x8 fun t9 => bc t9 (some (AV.one .tup (AV.cons (AV.str [] 0) (AV.cons (AV.bool false) (AV.leaf .nil))), h)) (aField 0 x6 h fun x10 h => aLoad x10 h fun x11 h => aAssertC true 95 (AV.one .agg (AV.cons (AV.leaf .nili) (AV.cons (AV.leaf .nili) (AV.leaf .nil)))) x11 h fun x12 h => aExtract x12 0 h fun x13 h => aExtract x12 1 h fun x14 h => aAlloc [(AV.leaf .nili), (AV.leaf .nili)] h fun x15 h => aStoreN 2 x15 x13 h fun x16 h => aNot x14 h fun x17 h => withBool x17 fun t18 => bc t18 (some (AV.one .tup (AV.cons (AV.str [] 0) (AV.cons (AV.bool false) (AV.leaf .nil))), h)) (aLenK 1 a0 h fun x19 h => aMake 16 [(AV.leaf .nili)] x19 x19 h fun x20 h => aCopy 1 x20 a0 h fun x21 h => aArith iadd a1 (AV.int 3 (Int.ofNat 2)) h fun x22 h => aField 0 x15 h fun x23 h => aLoad x23 h fun x24 h => dInv (Env.add (Env.add (Env.add (fun _ _ _ => none : Env) 27 (u1 (c_impl_node_nodes F g))) 110 (u1 (c_impl_lone_nodes F g))) 113 (u1 (c_impl_inner_nodes F g))) [(40, 27), (93, 110), (95, 113)] x24 [] h fun x25 h => aLenK 1 x25 h fun x26 h => aArith iadd x22 x26 h fun x27 h => aArith iadd a1 (AV.int 3 (Int.ofNat 1)) h fun x28 h => aSliceV 1 x20 (some x28) (some x27) (some x27) h fun x29 h => aSliceV 1 x29 (some (AV.int 3 (Int.ofNat 1))) none none h fun x30 _ => aIdxAddr 1 x29 (AV.int 3 (Int.ofNat 0)) h fun x31 _ => aLoad x31 h fun x32 _ => aBuildSlice 1 1 [(0, 1, x32)] h fun x33 h => aAppend 1 16 x30 x33 h fun x34 h => aCopy 1 x29 x34 h fun x35 h => bindR (c_impl_grown F g x20 h) fun x36 h => aExtract x36 0 h fun x37 h => aExtract x36 1 h fun x38 h => dInv (Env.add (Env.add (Env.add (fun _ _ _ => none : Env) 35 (u1 (c_impl_node_text F g))) 111 (u1 (c_impl_lone_text F g))) 114 (u1 (c_impl_inner_text F g))) [(40, 35), (93, 111), (95, 114)] x37 [] h fun x39 h => some (AV.one .tup (AV.cons x39 (AV.cons (AV.bool true) (AV.leaf .nil))), h)))
noncomputable def A_impl_turnedAt : An := (.two .o (.two .o (.two (.two .o (.two (.two .o .o) .o)) (.two .o (.two (.two .o (.two (.two .o .o) .o)) (.two .o (.two .o (.two .o (.two .o (.two .o (.two .o (.two .o .o))))))))))))
noncomputable def b_impl_turnedAt : Code := bodyOf Go.Proofs.Try.f68
theorem k_impl_turnedAt (F g : Nat) (a0 a1 : AV) (h : H) : callD Go.Proofs.Try.prog (Env.add (Env.add (Env.add (Env.add (Env.add (Env.add (Env.add (fun _ _ _ => none : Env) 27 (u1 (c_impl_node_nodes F g))) 110 (u1 (c_impl_lone_nodes F g))) 113 (u1 (c_impl_inner_nodes F g))) 74 (u1 (c_impl_grown F g))) 35 (u1 (c_impl_node_text F g))) 111 (u1 (c_impl_lone_text F g))) 114 (u1 (c_impl_inner_text F g))) 67 F b_impl_turnedAt [4, 5] A_impl_turnedAt [a0, a1] h = c_impl_turnedAt F g a0 a1 h := by kernel_rfl
theorem s_impl_turnedAt (F g : Nat) : ∀ args h r, u2 (c_impl_turnedAt F g) args h = some r → Tri Go.Proofs.Try.prog 68 args h r := by
  intro args h r e; obtain ⟨a0, a1, rfl, e1⟩ := u2_some e; exact fn_sound Go.Proofs.Try.func68 rfl rfl rfl Go.Proofs.Try.ntmps68 (Sound.add (Sound.add (Sound.add (Sound.add (Sound.add (Sound.add (Sound.add (Sound.none _) (s_impl_node_nodes F g)) (s_impl_lone_nodes F g)) (s_impl_inner_nodes F g)) (s_impl_grown F g)) (s_impl_node_text F g)) (s_impl_lone_text F g)) (s_impl_inner_text F g)) ((k_impl_turnedAt F g a0 a1 h).trans e1)

-- "math/bits.Len32"
noncomputable def c_math_bits_Len32_j1 (F g : Nat) (vs : List AV) (h : H) : Option R := (fun x3 x4 => aConvI 4 x3 h fun x5 h => aIdxStr (AV.str [0, 1, 2, 2, 3, 3, 3, 3, 4, 4, 4, 4, 4, 4, 4, 4, 5, 5, 5, 5, 5, 5, 5, 5, 5, 5, 5, 5, 5, 5, 5, 5, 6, 6, 6, 6, 6, 6, 6, 6, 6, 6, 6, 6, 6, 6, 6, 6, 6, 6, 6, 6, 6, 6, 6, 6, 6, 6, 6, 6, 6, 6, 6, 6, 7, 7, 7, 7, 7, 7, 7, 7, 7, 7, 7, 7, 7, 7, 7, 7, 7, 7, 7, 7, 7, 7, 7, 7, 7, 7, 7, 7, 7, 7, 7, 7, 7, 7, 7, 7, 7, 7, 7, 7, 7, 7, 7, 7, 7, 7, 7, 7, 7, 7, 7, 7, 7, 7, 7, 7, 7, 7, 7, 7, 7, 7, 7, 7, 8, 8, 8, 8, 8, 8, 8, 8, 8, 8, 8, 8, 8, 8, 8, 8, 8, 8, 8, 8, 8, 8, 8, 8, 8, 8, 8, 8, 8, 8, 8, 8, 8, 8, 8, 8, 8, 8, 8, 8, 8, 8, 8, 8, 8, 8, 8, 8, 8, 8, 8, 8, 8, 8, 8, 8, 8, 8, 8, 8, 8, 8, 8, 8, 8, 8, 8, 8, 8, 8, 8, 8, 8, 8, 8, 8, 8, 8, 8, 8, 8, 8, 8, 8, 8, 8, 8, 8, 8, 8, 8, 8, 8, 8, 8, 8, 8, 8, 8, 8, 8, 8, 8, 8, 8, 8, 8, 8, 8, 8, 8, 8, 8, 8, 8, 8, 8, 8, 8, 8, 8, 8, 8, 8, 8, 8, 8, 8] 256) x5 h fun x6 h => aConvI 3 x6 h fun x7 h => aArith iadd x4 x7 h fun x8 h => some (x8, h)) (hd vs) (hd (tl vs))
noncomputable def c_math_bits_Len32_j2 (F g : Nat) (vs : List AV) (h : H) : Option R := (fun x1 x2 => aCmpI (fun a b => ile b a) x1 (AV.int 6 (Int.ofNat 256)) h fun x9 h => withBool x9 fun t10 => bc t10 (aShr x1 (AV.int 7 (Int.ofNat 8)) h fun x11 h => aArith iadd x2 (AV.int 3 (Int.ofNat 8)) h fun x12 h => (c_math_bits_Len32_j1 F g) [x11, x12] h) ((c_math_bits_Len32_j1 F g) [x1, x2] h)) (hd vs) (hd (tl vs))
noncomputable def c_math_bits_Len32 (F g : Nat) (a0 : AV) (h : H) : Option R := aCmpI (fun a b => ile b a) a0 (AV.int 6 (Int.ofNat 65536)) h fun x13 h => withBool x13 fun t14 => bc t14 (aShr a0 (AV.int 7 (Int.ofNat 16)) h fun x15 h => (c_math_bits_Len32_j2 F g) [x15, (AV.int 3 (Int.ofNat 16))] h) ((c_math_bits_Len32_j2 F g) [a0, (AV.int 3 (Int.ofNat 0))] h)
noncomputable def A_math_bits_Len32 : An := (.two .o (.at_ [0, 2] (.two .o (.two (.two .o .o) .o)) (.at_ [0, 2] (.two .o (.two (.two .o .o) .o)) (.two .o .o))))
noncomputable def b_math_bits_Len32 : Code := bodyOf Go.Proofs.Try.f84
theorem k_math_bits_Len32 (F g : Nat) (a0 : AV) (h : H) : callD Go.Proofs.Try.prog (fun _ _ _ => none : Env) 19 F b_math_bits_Len32 [2] A_math_bits_Len32 [a0] h = c_math_bits_Len32 F g a0 h := by kernel_rfl
theorem s_math_bits_Len32 (F g : Nat) : ∀ args h r, u1 (c_math_bits_Len32 F g) args h = some r → Tri Go.Proofs.Try.prog 84 args h r := by
  intro args h r e; obtain ⟨a0, rfl, e1⟩ := u1_some e; exact fn_sound Go.Proofs.Try.func84 rfl rfl rfl Go.Proofs.Try.ntmps84 (Sound.none _) ((k_math_bits_Len32 F g a0 h).trans e1)

-- "math/bits.Len64"
noncomputable def c_math_bits_Len64_j1 (F g : Nat) (vs : List AV) (h : H) : Option R := (fun x5 x6 => aConvI 4 x5 h fun x7 h => aIdxStr (AV.str [0, 1, 2, 2, 3, 3, 3, 3, 4, 4, 4, 4, 4, 4, 4, 4, 5, 5, 5, 5, 5, 5, 5, 5, 5, 5, 5, 5, 5, 5, 5, 5, 6, 6, 6, 6, 6, 6, 6, 6, 6, 6, 6, 6, 6, 6, 6, 6, 6, 6, 6, 6, 6, 6, 6, 6, 6, 6, 6, 6, 6, 6, 6, 6, 7, 7, 7, 7, 7, 7, 7, 7, 7, 7, 7, 7, 7, 7, 7, 7, 7, 7, 7, 7, 7, 7, 7, 7, 7, 7, 7, 7, 7, 7, 7, 7, 7, 7, 7, 7, 7, 7, 7, 7, 7, 7, 7, 7, 7, 7, 7, 7, 7, 7, 7, 7, 7, 7, 7, 7, 7, 7, 7, 7, 7, 7, 7, 7, 8, 8, 8, 8, 8, 8, 8, 8, 8, 8, 8, 8, 8, 8, 8, 8, 8, 8, 8, 8, 8, 8, 8, 8, 8, 8, 8, 8, 8, 8, 8, 8, 8, 8, 8, 8, 8, 8, 8, 8, 8, 8, 8, 8, 8, 8, 8, 8, 8, 8, 8, 8, 8, 8, 8, 8, 8, 8, 8, 8, 8, 8, 8, 8, 8, 8, 8, 8, 8, 8, 8, 8, 8, 8, 8, 8, 8, 8, 8, 8, 8, 8, 8, 8, 8, 8, 8, 8, 8, 8, 8, 8, 8, 8, 8, 8, 8, 8, 8, 8, 8, 8, 8, 8, 8, 8, 8, 8, 8, 8, 8, 8, 8, 8, 8, 8, 8, 8, 8, 8, 8, 8, 8, 8, 8, 8, 8, 8] 256) x7 h fun x8 h => aConvI 3 x8 h fun x9 h => aArith iadd x6 x9 h fun x10 h => some (x10, h)) (hd vs) (hd (tl vs))
noncomputable def c_math_bits_Len64_j2 (F g : Nat) (vs : List AV) (h : H) : Option R := (fun x3 x4 => aCmpI (fun a b => ile b a) x3 (AV.int 7 (Int.ofNat 256)) h fun x11 h => withBool x11 fun t12 => bc t12 (aShr x3 (AV.int 7 (Int.ofNat 8)) h fun x13 h => aArith iadd x4 (AV.int 3 (Int.ofNat 8)) h fun x14 h => (c_math_bits_Len64_j1 F g) [x13, x14] h) ((c_math_bits_Len64_j1 F g) [x3, x4] h)) (hd vs) (hd (tl vs))
noncomputable def c_math_bits_Len64_j3 (F g : Nat) (vs : List AV) (h : H) : Option R := (fun x1 x2 => aCmpI (fun a b => ile b a) x1 (AV.int 7 (Int.ofNat 65536)) h fun x15 h => withBool x15 fun t16 => bc t16 (aShr x1 (AV.int 7 (Int.ofNat 16)) h fun x17 h => aArith iadd x2 (AV.int 3 (Int.ofNat 16)) h fun x18 h => (c_math_bits_Len64_j2 F g) [x17, x18] h) ((c_math_bits_Len64_j2 F g) [x1, x2] h)) (hd vs) (hd (tl vs))
noncomputable def c_math_bits_Len64 (F g : Nat) (a0 : AV) (h : H) : Option R := aCmpI (fun a b => ile b a) a0 (AV.int 7 (Int.ofNat 4294967296)) h fun x19 h => withBool x19 fun t20 => bc t20 (aShr a0 (AV.int 7 (Int.ofNat 32)) h fun x21 h => (c_math_bits_Len64_j3 F g) [x21, (AV.int 3 (Int.ofNat 32))] h) ((c_math_bits_Len64_j3 F g) [a0, (AV.int 3 (Int.ofNat 0))] h)
noncomputable def A_math_bits_Len64 : An := (.two .o (.at_ [0, 2] (.two .o (.two (.two .o .o) .o)) (.at_ [0, 2] (.two .o (.two (.two .o .o) .o)) (.at_ [0, 2] (.two .o (.two (.two .o .o) .o)) (.two .o .o)))))
noncomputable def b_math_bits_Len64 : Code := bodyOf Go.Proofs.Try.f85
theorem k_math_bits_Len64 (F g : Nat) (a0 : AV) (h : H) : callD Go.Proofs.Try.prog (fun _ _ _ => none : Env) 25 F b_math_bits_Len64 [2] A_math_bits_Len64 [a0] h = c_math_bits_Len64 F g a0 h := by kernel_rfl
theorem s_math_bits_Len64 (F g : Nat) : ∀ args h r, u1 (c_math_bits_Len64 F g) args h = some r → Tri Go.Proofs.Try.prog 85 args h r := by
  intro args h r e; obtain ⟨a0, rfl, e1⟩ := u1_some e; exact fn_sound Go.Proofs.Try.func85 rfl rfl rfl Go.Proofs.Try.ntmps85 (Sound.none _) ((k_math_bits_Len64 F g a0 h).trans e1)

-- "math/bits.Len"
noncomputable def c_math_bits_Len (F g : Nat) (a0 : AV) (h : H) : Option R := withBool (AV.bool false) fun t1 => bc t1 (aConvI 6 a0 h fun x2 h => bindR (c_math_bits_Len32 F g x2 h) fun x3 h => some (x3, h)) (bindR (c_math_bits_Len64 F g a0 h) fun x4 h => some (x4, h))
noncomputable def A_math_bits_Len : An := (.two .o (.two (.two (.two .o .o) .o) (.two .o .o)))
noncomputable def b_math_bits_Len : Code := bodyOf Go.Proofs.Try.f73
theorem k_math_bits_Len (F g : Nat) (a0 : AV) (h : H) : callD Go.Proofs.Try.prog (Env.add (Env.add (fun _ _ _ => none : Env) 84 (u1 (c_math_bits_Len32 F g))) 85 (u1 (c_math_bits_Len64 F g))) 8 F b_math_bits_Len [2] A_math_bits_Len [a0] h = c_math_bits_Len F g a0 h := by kernel_rfl
theorem s_math_bits_Len (F g : Nat) : ∀ args h r, u1 (c_math_bits_Len F g) args h = some r → Tri Go.Proofs.Try.prog 73 args h r := by
  intro args h r e; obtain ⟨a0, rfl, e1⟩ := u1_some e; exact fn_sound Go.Proofs.Try.func73 rfl rfl rfl Go.Proofs.Try.ntmps73 (Sound.add (Sound.add (Sound.none _) (s_math_bits_Len32 F g)) (s_math_bits_Len64 F g)) ((k_math_bits_Len F g a0 h).trans e1)

-- "cmp.isNaN[string]"
noncomputable def c_cmp_isNaN_ecb2 (F g : Nat) (a0 : AV) (h : H) : Option R := aCmpS (fun a b => bnot (eqL a b)) a0 a0 h fun x1 h => some (x1, h)
noncomputable def A_cmp_isNaN_ecb2 : An := (.two .o (.two .o .o))
noncomputable def b_cmp_isNaN_ecb2 : Code := bodyOf Go.Proofs.Try.f91
theorem k_cmp_isNaN_ecb2 (F g : Nat) (a0 : AV) (h : H) : callD Go.Proofs.Try.prog (fun _ _ _ => none : Env) 6 F b_cmp_isNaN_ecb2 [2] A_cmp_isNaN_ecb2 [a0] h = c_cmp_isNaN_ecb2 F g a0 h := by kernel_rfl
theorem s_cmp_isNaN_ecb2 (F g : Nat) : ∀ args h r, u1 (c_cmp_isNaN_ecb2 F g) args h = some r → Tri Go.Proofs.Try.prog 91 args h r := by
  intro args h r e; obtain ⟨a0, rfl, e1⟩ := u1_some e; exact fn_sound Go.Proofs.Try.func91 rfl rfl rfl Go.Proofs.Try.ntmps91 (Sound.none _) ((k_cmp_isNaN_ecb2 F g a0 h).trans e1)

-- "cmp.Less[string]"
noncomputable def c_cmp_Less_ecb2_j1 (F g : Nat) (vs : List AV) (h : H) : Option R := (fun x7 x8 => aPick x7 (AV.bool true) x8 h fun x9 h => some (x9, h)) (hd vs) (hd (tl vs))
noncomputable def c_cmp_Less_ecb2_j2 (F g : Nat) (vs : List AV) (h : H) : Option R := (fun x2 x3 x4 x5 => aPick x4 x5 (AV.bool false) h fun x6 h => guardB false x6 (aCmpS ltL x2 x3 h fun x10 h => (c_cmp_Less_ecb2_j1 F g) [x6, x10] h) ((c_cmp_Less_ecb2_j1 F g) [x6, (AV.one .tup (AV.leaf .nil))] h)) (hd vs) (hd (tl vs)) (hd (tl (tl vs))) (hd (tl (tl (tl vs))))
noncomputable def c_cmp_Less_ecb2 (F g : Nat) (a0 a1 : AV) (h : H) : Option R := bindR (c_cmp_isNaN_ecb2 F g a0 h) fun x1 h => guardB true x1 (bindR (c_cmp_isNaN_ecb2 F g a1 h) fun x11 h => aNot x11 h fun x12 h => (c_cmp_Less_ecb2_j2 F g) [a0, a1, x1, x12] h) ((c_cmp_Less_ecb2_j2 F g) [a0, a1, x1, (AV.one .tup (AV.leaf .nil))] h)
noncomputable def A_cmp_Less_ecb2 : An := (.two .o (.two (.at_ [0, 1, 7, 10] .o (.at_ [12, 15] .o .o)) .o))
noncomputable def b_cmp_Less_ecb2 : Code := bodyOf Go.Proofs.Try.f81
theorem k_cmp_Less_ecb2 (F g : Nat) (a0 a1 : AV) (h : H) : callD Go.Proofs.Try.prog (Env.add (fun _ _ _ => none : Env) 91 (u1 (c_cmp_isNaN_ecb2 F g))) 17 F b_cmp_Less_ecb2 [4] A_cmp_Less_ecb2 [a0, a1] h = c_cmp_Less_ecb2 F g a0 a1 h := by kernel_rfl
theorem s_cmp_Less_ecb2 (F g : Nat) : ∀ args h r, u2 (c_cmp_Less_ecb2 F g) args h = some r → Tri Go.Proofs.Try.prog 81 args h r := by
  intro args h r e; obtain ⟨a0, a1, rfl, e1⟩ := u2_some e; exact fn_sound Go.Proofs.Try.func81 rfl rfl rfl Go.Proofs.Try.ntmps81 (Sound.add (Sound.none _) (s_cmp_isNaN_ecb2 F g)) ((k_cmp_Less_ecb2 F g a0 a1 h).trans e1)

-- "slices.insertionSortOrdered[string]"
noncomputable def c_slices_insertionSortOrdered_ecb2_j1 (F g : Nat) (kc2 : List AV → H → Option R) (kc9 : List AV → H → Option R) (vs : List AV) (h : H) : Option R := (fun x16 x17 x18 x19 x20 x21 x22 => aPick x21 x22 (AV.bool false) h fun x23 _ => withBool x23 fun t24 => bc t24 (aArith isub x20 (AV.int 3 (Int.ofNat 1)) h fun x25 _ => aArith isub x20 (AV.int 3 (Int.ofNat 1)) h fun x26 _ => aIdxAddr 1 x16 x26 h fun x27 _ => aLoad x27 h fun x28 _ => aIdxAddr 1 x16 x20 h fun x29 _ => aLoad x29 h fun x30 _ => aIdxAddr 1 x16 x20 h fun x31 _ => aStore x31 x28 h fun x32 h => aIdxAddr 1 x16 x25 h fun x33 _ => aStore x33 x30 h fun x34 h => aArith isub x20 (AV.int 3 (Int.ofNat 1)) h fun x35 h => kc9 [x16, x17, x18, x19, x35] h) (aArith iadd x19 (AV.int 3 (Int.ofNat 1)) h fun x36 h => kc2 [x16, x17, x18, x36] h)) (hd vs) (hd (tl vs)) (hd (tl (tl vs))) (hd (tl (tl (tl vs)))) (hd (tl (tl (tl (tl vs))))) (hd (tl (tl (tl (tl (tl vs)))))) (hd (tl (tl (tl (tl (tl (tl vs)))))))
noncomputable def c_slices_insertionSortOrdered_ecb2_l2 (F g : Nat) (kc2 : List AV → H → Option R) : List AV → H → (List AV → H → Option R) → Option R := fun vs h kc9 => (fun x10 x11 x12 x13 x14 => aCmpI (fun a b => ilt b a) x14 x11 h fun x15 _ => guardB true x15 (aIdxAddr 1 x10 x14 h fun x37 _ => aLoad x37 h fun x38 _ => aArith isub x14 (AV.int 3 (Int.ofNat 1)) h fun x39 _ => aIdxAddr 1 x10 x39 h fun x40 _ => aLoad x40 h fun x41 _ => bindR (c_cmp_Less_ecb2 F g x38 x41 h) fun x42 h => (c_slices_insertionSortOrdered_ecb2_j1 F g kc2 kc9) [x10, x11, x12, x13, x14, x15, x42] h) ((c_slices_insertionSortOrdered_ecb2_j1 F g kc2 kc9) [x10, x11, x12, x13, x14, x15, (AV.one .tup (AV.leaf .nil))] h)) (hd vs) (hd (tl vs)) (hd (tl (tl vs))) (hd (tl (tl (tl vs)))) (hd (tl (tl (tl (tl vs)))))
noncomputable def c_slices_insertionSortOrdered_ecb2_l3 (F g : Nat) : List AV → H → (List AV → H → Option R) → Option R := fun vs h kc2 => (fun x3 x4 x5 x6 => aCmpI ilt x6 x5 h fun x7 h => withBool x7 fun t8 => bc t8 (loopD F (c_slices_insertionSortOrdered_ecb2_l2 F g kc2) [x3, x4, x5, x6, x6] h) (some (AV.one .tup (AV.leaf .nil), h))) (hd vs) (hd (tl vs)) (hd (tl (tl vs))) (hd (tl (tl (tl vs))))
noncomputable def c_slices_insertionSortOrdered_ecb2 (F g : Nat) (a0 a1 a2 : AV) (h : H) : Option R := aArith iadd a1 (AV.int 3 (Int.ofNat 1)) h fun x1 h => loopD F (c_slices_insertionSortOrdered_ecb2_l3 F g) [a0, a1, a2, x1] h
noncomputable def A_slices_insertionSortOrdered_ecb2 : An := (.two .o (.two (.at_ [0, 1, 2, 6] (.two (.two .o (.two .o .o)) (.two (.two (.two .o (.two (.at_ [0, 1, 2, 6, 7] (.two (.two (.at_ [0, 1, 2, 6, 7, 19, 29] .o .o) (.two .o .o)) (.two (.two .o .o) .o)) .o) .o)) .o) .o)) .o) .o))
noncomputable def b_slices_insertionSortOrdered_ecb2 : Code := bodyOf Go.Proofs.Try.f75
theorem k_slices_insertionSortOrdered_ecb2 (F g : Nat) (a0 a1 a2 : AV) (h : H) : callD Go.Proofs.Try.prog (Env.add (fun _ _ _ => none : Env) 81 (u2 (c_cmp_Less_ecb2 F g))) 49 F b_slices_insertionSortOrdered_ecb2 [] A_slices_insertionSortOrdered_ecb2 [a0, a1, a2] h = c_slices_insertionSortOrdered_ecb2 F g a0 a1 a2 h := by kernel_rfl
theorem s_slices_insertionSortOrdered_ecb2 (F g : Nat) : ∀ args h r, u3 (c_slices_insertionSortOrdered_ecb2 F g) args h = some r → Tri Go.Proofs.Try.prog 75 args h r := by
  intro args h r e; obtain ⟨a0, a1, a2, rfl, e1⟩ := u3_some e; exact fn_sound Go.Proofs.Try.func75 rfl rfl rfl Go.Proofs.Try.ntmps75 (Sound.add (Sound.none _) (s_cmp_Less_ecb2 F g)) ((k_slices_insertionSortOrdered_ecb2 F g a0 a1 a2 h).trans e1)

-- "slices.pdqsortOrdered[string]"
noncomputable def c_slices_pdqsortOrdered_ecb2_j1 (F g : Nat) (vs : List AV) (h : H) : Option R := (fun x14 x15 x16 x17 x18 x19 x20 => none) (hd vs) (hd (tl vs)) (hd (tl (tl vs))) (hd (tl (tl (tl vs)))) (hd (tl (tl (tl (tl vs))))) (hd (tl (tl (tl (tl (tl vs)))))) (hd (tl (tl (tl (tl (tl (tl vs)))))))
noncomputable def c_slices_pdqsortOrdered_ecb2_l2 (F g : Nat) : List AV → H → (List AV → H → Option R) → Option R := fun vs h kc1 => (fun x2 x3 x4 x5 x6 x7 => aArith isub x4 x3 h fun x8 h => aCmpI ile x8 (AV.int 3 (Int.ofNat 12)) h fun x9 h => withBool x9 fun t10 => bc t10 (bindR (c_slices_insertionSortOrdered_ecb2 F g x2 x3 x4 h) fun x11 h => some (AV.one .tup (AV.leaf .nil), h)) (aCmpI ieq x5 (AV.int 3 (Int.ofNat 0)) h fun x12 h => withBool x12 fun t13 => bc t13 (none) (aNot x6 h fun x21 h => withBool x21 fun t22 => bc t22 (none) ((c_slices_pdqsortOrdered_ecb2_j1 F g) [x2, x3, x4, x5, x6, x7, x8] h)))) (hd vs) (hd (tl vs)) (hd (tl (tl vs))) (hd (tl (tl (tl vs)))) (hd (tl (tl (tl (tl vs))))) (hd (tl (tl (tl (tl (tl vs))))))
noncomputable def c_slices_pdqsortOrdered_ecb2 (F g : Nat) (a0 a1 a2 a3 : AV) (h : H) : Option R := loopD F (c_slices_pdqsortOrdered_ecb2_l2 F g) [a0, a1, a2, a3, (AV.bool true), (AV.bool true)] h
noncomputable def A_slices_pdqsortOrdered_ecb2 : An := (.two .o (.two .o (.two (.at_ [0, 1, 2, 3, 8, 9] (.two (.two .o (.two (.two .o (.two (.two .o .o) .o)) (.two (.two .o (.two (.two .o .o) .o)) (.at_ [0, 1, 2, 3, 8, 9, 10] (.two .o (.two (.two .o .o) .o)) (.two .o (.at_ [0, 1, 2, 3, 8, 9, 10, 11, 12] (.two .o (.two (.two .o (.two .o .o)) .o)) (.at_ [0, 1, 2, 3, 8, 9, 10, 11] (.two (.at_ [0, 1, 2, 3, 8, 9, 10, 11, 12, 62, 63] .o (.at_ [0, 1, 2, 3, 8, 9, 10, 11, 65, 67] .o .o)) (.two (.two .o (.two .o .o)) .o)) (.two (.two (.at_ [0, 1, 2, 3, 8, 9, 10, 11, 75, 86] .o .o) (.two (.two .o (.two .o .o)) .o)) (.two .o (.two .o (.two .o (.two .o (.two .o (.two (.two .o (.two .o .o)) (.two .o (.two .o .o)))))))))))))))) .o) .o) .o)))
noncomputable def b_slices_pdqsortOrdered_ecb2 : Code := bodyOf Go.Proofs.Try.f72
theorem k_slices_pdqsortOrdered_ecb2 (F g : Nat) (a0 a1 a2 a3 : AV) (h : H) : callD Go.Proofs.Try.prog (Env.add (fun _ _ _ => none : Env) 75 (u3 (c_slices_insertionSortOrdered_ecb2 F g))) 134 F b_slices_pdqsortOrdered_ecb2 [] A_slices_pdqsortOrdered_ecb2 [a0, a1, a2, a3] h = c_slices_pdqsortOrdered_ecb2 F g a0 a1 a2 a3 h := by kernel_rfl
theorem s_slices_pdqsortOrdered_ecb2 (F g : Nat) : ∀ args h r, u4 (c_slices_pdqsortOrdered_ecb2 F g) args h = some r → Tri Go.Proofs.Try.prog 72 args h r := by
  intro args h r e; obtain ⟨a0, a1, a2, a3, rfl, e1⟩ := u4_some e; exact fn_sound Go.Proofs.Try.func72 rfl rfl rfl Go.Proofs.Try.ntmps72 (Sound.add (Sound.none _) (s_slices_insertionSortOrdered_ecb2 F g)) ((k_slices_pdqsortOrdered_ecb2 F g a0 a1 a2 a3 h).trans e1)

-- "slices.Sort[[]string,string]"
noncomputable def c_slices_Sort_49de (F g : Nat) (a0 : AV) (h : H) : Option R := aLenK 1 a0 h fun x1 h => aConvI 7 x1 h fun x2 h => bindR (c_math_bits_Len F g x2 h) fun x3 h => bindR (c_slices_pdqsortOrdered_ecb2 F g a0 (AV.int 3 (Int.ofNat 0)) x1 x3 h) fun x4 h => some (AV.one .tup (AV.leaf .nil), h)
noncomputable def A_slices_Sort_49de : An := (.two .o .o)
noncomputable def b_slices_Sort_49de : Code := bodyOf Go.Proofs.Try.f60
theorem k_slices_Sort_49de (F g : Nat) (a0 : AV) (h : H) : callD Go.Proofs.Try.prog (Env.add (Env.add (fun _ _ _ => none : Env) 73 (u1 (c_math_bits_Len F g))) 72 (u4 (c_slices_pdqsortOrdered_ecb2 F g))) 11 F b_slices_Sort_49de [] A_slices_Sort_49de [a0] h = c_slices_Sort_49de F g a0 h := by kernel_rfl
theorem s_slices_Sort_49de (F g : Nat) : ∀ args h r, u1 (c_slices_Sort_49de F g) args h = some r → Tri Go.Proofs.Try.prog 60 args h r := by
  intro args h r e; obtain ⟨a0, rfl, e1⟩ := u1_some e; exact fn_sound Go.Proofs.Try.func60 rfl rfl rfl Go.Proofs.Try.ntmps60 (Sound.add (Sound.add (Sound.none _) (s_math_bits_Len F g)) (s_slices_pdqsortOrdered_ecb2 F g)) ((k_slices_Sort_49de F g a0 h).trans e1)

-- "loop.example/treenumbers/impl.PairTurns"
noncomputable def c_impl_PairTurns_j1 (F g : Nat) (kc9 : List AV → H → Option R) (vs : List AV) (h : H) : Option R := (fun x16 x17 x18 x19 => aArith iadd x19 (AV.int 3 (Int.ofNat 1)) h fun x20 h => kc9 [x16, x17, x18, x20] h) (hd vs) (hd (tl vs)) (hd (tl (tl vs))) (hd (tl (tl (tl vs))))
noncomputable def c_impl_PairTurns_l2 (F g : Nat) : List AV → H → (List AV → H → Option R) → Option R := fun vs h kc9 => (fun x10 x11 x12 x13 => aCmpI ilt x13 x12 h fun x14 h => withBool x14 fun t15 => bc t15 (bindR (c_impl_turnedAt F g x11 x13 h) fun x21 h => aExtract x21 0 h fun x22 h => aExtract x21 1 h fun x23 h => withBool x23 fun t24 => bc t24 (aBuildSlice 1 1 [(0, 1, x22)] h fun x25 h => aAppend 1 16 x10 x25 h fun x26 h => (c_impl_PairTurns_j1 F g kc9) [x26, x11, x12, x13] h) ((c_impl_PairTurns_j1 F g kc9) [x10, x11, x12, x13] h)) (bindR (c_slices_Sort_49de F g x10 h) fun x27 h => some (AV.one .tup (AV.cons x10 (AV.cons (AV.bool true) (AV.leaf .nil))), h))) (hd vs) (hd (tl vs)) (hd (tl (tl vs))) (hd (tl (tl (tl vs))))
noncomputable def c_impl_PairTurns (F g : Nat) (a0 : AV) (h : H) : Option R := bindR (c_impl_readPairs F g a0 h) fun x1 h => aExtract x1 0 h fun x2 h => aExtract x1 1 h fun x3 h => aNot x3 h fun x4 h => withBool x4 fun t5 => bc t5 (some (AV.one .tup (AV.cons (AV.leaf .nils) (AV.cons (AV.bool false) (AV.leaf .nil))), h)) (aBuildSlice 0 1 [] h fun x6 h => dInv (Env.add (Env.add (Env.add (fun _ _ _ => none : Env) 27 (u1 (c_impl_node_nodes F g))) 110 (u1 (c_impl_lone_nodes F g))) 113 (u1 (c_impl_inner_nodes F g))) [(40, 27), (93, 110), (95, 113)] x2 [] h fun x7 h => aLenK 1 x7 h fun x8 h => loopD F (c_impl_PairTurns_l2 F g) [x6, x7, x8, (AV.int 3 (Int.ofNat 0))] h)
noncomputable def A_impl_PairTurns : An := (.two .o (.two .o (.two (.two .o (.two (.two .o .o) .o)) (.two .o (.two .o (.two (.two .o (.two (.at_ [6, 7, 22, 23] (.two .o (.two (.two .o .o) (.at_ [6, 7, 22, 23] (.two (.two .o (.two .o (.two .o (.two .o .o)))) .o) .o))) .o) .o)) (.two .o (.two .o .o))))))))
noncomputable def b_impl_PairTurns : Code := bodyOf Go.Proofs.Try.f50
theorem k_impl_PairTurns (F g : Nat) (a0 : AV) (h : H) : callD Go.Proofs.Try.prog (Env.add (Env.add (Env.add (Env.add (Env.add (Env.add (fun _ _ _ => none : Env) 49 (u1 (c_impl_readPairs F g))) 27 (u1 (c_impl_node_nodes F g))) 110 (u1 (c_impl_lone_nodes F g))) 113 (u1 (c_impl_inner_nodes F g))) 68 (u2 (c_impl_turnedAt F g))) 60 (u1 (c_slices_Sort_49de F g))) 41 F b_impl_PairTurns [2, 3] A_impl_PairTurns [a0] h = c_impl_PairTurns F g a0 h := by kernel_rfl
theorem s_impl_PairTurns (F g : Nat) : ∀ args h r, u1 (c_impl_PairTurns F g) args h = some r → Tri Go.Proofs.Try.prog 50 args h r := by
  intro args h r e; obtain ⟨a0, rfl, e1⟩ := u1_some e; exact fn_sound Go.Proofs.Try.func50 rfl rfl rfl Go.Proofs.Try.ntmps50 (Sound.add (Sound.add (Sound.add (Sound.add (Sound.add (Sound.add (Sound.none _) (s_impl_readPairs F g)) (s_impl_node_nodes F g)) (s_impl_lone_nodes F g)) (s_impl_inner_nodes F g)) (s_impl_turnedAt F g)) (s_slices_Sort_49de F g)) ((k_impl_PairTurns F g a0 h).trans e1)

-- "slices.IndexFunc[[]string,string]"
noncomputable abbrev D_slices_IndexFunc_49de (F g : Nat) (E : Env) : Env := E
noncomputable abbrev G_slices_IndexFunc_49de (F g : Nat) (E : Env) : Env := (D_slices_IndexFunc_49de F g E)
noncomputable def c_slices_IndexFunc_49de_l1 (F g : Nat) (E : Env) : List AV → H → (List AV → H → Option R) → Option R := fun vs h kc2 => (fun x3 x4 x5 x6 => aCmpI ilt x6 x5 h fun x7 h => withBool x7 fun t8 => bc t8 (aIdxAddr 1 x3 x6 h fun x9 h => aLoad x9 h fun x10 h => dCall (G_slices_IndexFunc_49de F g E) x4 [x10] h fun x11 h => withBool x11 fun t12 => bc t12 (some (x6, h)) (aArith iadd x6 (AV.int 3 (Int.ofNat 1)) h fun x13 h => kc2 [x3, x4, x5, x13] h)) (some ((AV.int 3 (Int.negSucc 0)), h))) (hd vs) (hd (tl vs)) (hd (tl (tl vs))) (hd (tl (tl (tl vs))))
noncomputable def c_slices_IndexFunc_49de (F g : Nat) (E : Env) (a0 a1 : AV) (h : H) : Option R := aLenK 1 a0 h fun x1 h => loopD F (c_slices_IndexFunc_49de_l1 F g E) [a0, a1, x1, (AV.int 3 (Int.ofNat 0))] h
noncomputable def A_slices_IndexFunc_49de : An := (.two .o (.two (.two .o (.two (.at_ [0, 1, 7, 8] (.two .o (.two (.two .o .o) (.two (.two (.two .o (.two .o (.two (.two .o .o) .o))) .o) .o))) .o) .o)) (.two .o .o)))
noncomputable def b_slices_IndexFunc_49de : Code := bodyOf Go.Proofs.Try.f69
theorem k_slices_IndexFunc_49de (F g : Nat) (E : Env) (a0 a1 : AV) (h : H) : callD Go.Proofs.Try.prog (G_slices_IndexFunc_49de F g E) 19 F b_slices_IndexFunc_49de [4] A_slices_IndexFunc_49de [a0, a1] h = c_slices_IndexFunc_49de F g E a0 a1 h := by kernel_rfl
theorem s_slices_IndexFunc_49de (F g : Nat) (E : Env) (hE : Sound Go.Proofs.Try.prog E) : ∀ args h r, u2 (c_slices_IndexFunc_49de F g E) args h = some r → Tri Go.Proofs.Try.prog 69 args h r := by
  intro args h r e; obtain ⟨a0, a1, rfl, e1⟩ := u2_some e; exact fn_sound Go.Proofs.Try.func69 rfl rfl rfl Go.Proofs.Try.ntmps69 hE ((k_slices_IndexFunc_49de F g E a0 a1 h).trans e1)

-- "slices.ContainsFunc[[]string,string]"
noncomputable abbrev D_slices_ContainsFunc_49de (F g : Nat) (E : Env) : Env := E
noncomputable abbrev G_slices_ContainsFunc_49de (F g : Nat) (E : Env) : Env := (Env.add (D_slices_ContainsFunc_49de F g E) 69 (u2 (c_slices_IndexFunc_49de F g (D_slices_ContainsFunc_49de F g E))))
noncomputable def c_slices_ContainsFunc_49de (F g : Nat) (E : Env) (a0 a1 : AV) (h : H) : Option R := bindR (c_slices_IndexFunc_49de F g (D_slices_ContainsFunc_49de F g E) a0 a1 h) fun x1 h => aCmpI (fun a b => ile b a) x1 (AV.int 3 (Int.ofNat 0)) h fun x2 h => some (x2, h)
noncomputable def A_slices_ContainsFunc_49de : An := (.two .o (.two .o .o))
noncomputable def b_slices_ContainsFunc_49de : Code := bodyOf Go.Proofs.Try.f51
theorem k_slices_ContainsFunc_49de (F g : Nat) (E : Env) (a0 a1 : AV) (h : H) : callD Go.Proofs.Try.prog (G_slices_ContainsFunc_49de F g E) 9 F b_slices_ContainsFunc_49de [4] A_slices_ContainsFunc_49de [a0, a1] h = c_slices_ContainsFunc_49de F g E a0 a1 h := by kernel_rfl
theorem s_slices_ContainsFunc_49de (F g : Nat) (E : Env) (hE : Sound Go.Proofs.Try.prog E) : ∀ args h r, u2 (c_slices_ContainsFunc_49de F g E) args h = some r → Tri Go.Proofs.Try.prog 51 args h r := by
  intro args h r e; obtain ⟨a0, a1, rfl, e1⟩ := u2_some e; exact fn_sound Go.Proofs.Try.func51 rfl rfl rfl Go.Proofs.Try.ntmps51 (Sound.add hE (s_slices_IndexFunc_49de F g (D_slices_ContainsFunc_49de F g E) hE)) ((k_slices_ContainsFunc_49de F g E a0 a1 h).trans e1)

-- "loop.example/treenumbers/impl.leads$1"
noncomputable def c_impl_leads_d1 (F g : Nat) (f : AV → AV → H → Option R) (a0 a1 : AV) (h : H) : Option R := aLoad a1 h fun x1 h => bindR (f a0 x1 h) fun x2 h => some (x2, h)
noncomputable def A_impl_leads_d1 : An := (.two .o (.two .o .o))
noncomputable def b_impl_leads_d1 : Code := bodyOf Go.Proofs.Try.f52
theorem k_impl_leads_d1 (F g : Nat) (f : AV → AV → H → Option R) (a0 a1 : AV) (h : H) : callD Go.Proofs.Try.prog (Env.add (fun _ _ _ => none : Env) 30 (u2 f)) 7 F b_impl_leads_d1 [3] A_impl_leads_d1 [a0, a1] h = c_impl_leads_d1 F g f a0 a1 h := by kernel_rfl
theorem s_impl_leads_d1 (F g : Nat) (f : AV → AV → H → Option R) (hf : ∀ args h r, u2 f args h = some r → Tri Go.Proofs.Try.prog 30 args h r) : ∀ args h r, u2 (c_impl_leads_d1 F g f) args h = some r → Tri Go.Proofs.Try.prog 52 args h r := by
  intro args h r e; obtain ⟨a0, a1, rfl, e1⟩ := u2_some e; exact fn_sound Go.Proofs.Try.func52 rfl rfl rfl Go.Proofs.Try.ntmps52 (Sound.add (Sound.none _) hf) ((k_impl_leads_d1 F g f a0 a1 h).trans e1)

-- "loop.example/treenumbers/impl.leads"
noncomputable abbrev D_impl_leads (F g : Nat) (f : AV → AV → H → Option R) (E : Env) : Env := (Env.add E 52 (u2 (c_impl_leads_d1 F g f)))
noncomputable abbrev G_impl_leads (F g : Nat) (f : AV → AV → H → Option R) (E : Env) : Env := (Env.add (Env.add (D_impl_leads F g f E) 50 (u1 (c_impl_PairTurns F g))) 51 (u2 (c_slices_ContainsFunc_49de F g (D_impl_leads F g f E))))
noncomputable def c_impl_leads_j1 (F g : Nat) (vs : List AV) (h : H) : Option R := (fun x7 x8 => aPick x7 (AV.bool true) x8 h fun x9 h => some (x9, h)) (hd vs) (hd (tl vs))
noncomputable def c_impl_leads (F g : Nat) (f : AV → AV → H → Option R) (E : Env) (a0 a1 : AV) (h : H) : Option R := aBox a1 h fun x1 h => bindR (c_impl_PairTurns F g a0 h) fun x2 h => aExtract x2 0 h fun x3 h => aExtract x2 1 h fun x4 h => aLoad x1 h fun x5 h => aCmpS eqL a0 x5 h fun x6 h => guardB false x6 (aMakeF (.func 52) [] [x1] h fun x10 h => bindR (c_slices_ContainsFunc_49de F g (D_impl_leads F g f E) x3 x10 h) fun x11 h => (c_impl_leads_j1 F g) [x6, x11] h) ((c_impl_leads_j1 F g) [x6, (AV.one .tup (AV.leaf .nil))] h)
noncomputable def A_impl_leads : An := (.two .o (.two .o (.two (.at_ [15, 18] .o .o) .o)))
noncomputable def b_impl_leads : Code := bodyOf Go.Proofs.Try.f30
theorem k_impl_leads (F g : Nat) (f : AV → AV → H → Option R) (E : Env) (a0 a1 : AV) (h : H) : callD Go.Proofs.Try.prog (G_impl_leads F g f E) 20 F b_impl_leads [4] A_impl_leads [a0, a1] h = c_impl_leads F g f E a0 a1 h := by kernel_rfl
theorem s_impl_leads (F g : Nat) (f : AV → AV → H → Option R) (hf : ∀ args h r, u2 f args h = some r → Tri Go.Proofs.Try.prog 30 args h r) (E : Env) (hE : Sound Go.Proofs.Try.prog E) : ∀ args h r, u2 (c_impl_leads F g f E) args h = some r → Tri Go.Proofs.Try.prog 30 args h r := by
  intro args h r e; obtain ⟨a0, a1, rfl, e1⟩ := u2_some e; exact fn_sound Go.Proofs.Try.func30 rfl rfl rfl Go.Proofs.Try.ntmps30 (Sound.add (Sound.add (Sound.add hE (s_impl_leads_d1 F g f hf)) (s_impl_PairTurns F g)) (s_slices_ContainsFunc_49de F g (D_impl_leads F g f E) (Sound.add hE (s_impl_leads_d1 F g f hf)))) ((k_impl_leads F g f E a0 a1 h).trans e1)
noncomputable def leadsR (F g : Nat) (E : Env) : Nat → AV → AV → H → Option R := Nat.rec (motive := fun _ => AV → AV → H → Option R) (fun _ _ _ => none) (fun _ r => c_impl_leads F g r E)
theorem s_leadsR (F g : Nat) (E : Env) (hE : Sound Go.Proofs.Try.prog E) : ∀ k, ∀ args h r, u2 (leadsR F g E k) args h = some r → Tri Go.Proofs.Try.prog 30 args h r
  | 0 => fun args h r e => by obtain ⟨a0, a1, rfl, e⟩ := u2_some e; cases e
  | k + 1 => s_impl_leads F g (leadsR F g E k) (s_leadsR F g E hE k) E hE


-- "loop.example/treenumbers/impl.PairBelow"
noncomputable abbrev D_impl_PairBelow (F g : Nat) : Env := (fun _ _ _ => none : Env)
noncomputable def c_impl_PairBelow_j1 (F g : Nat) (vs : List AV) (h : H) : Option R := (fun x7 x8 => aPick x7 x8 (AV.bool false) h fun x9 h => some (x9, h)) (hd vs) (hd (tl vs))
noncomputable def c_impl_PairBelow_j2 (F g : Nat) (vs : List AV) (h : H) : Option R := (fun x2 x3 x4 x5 => aPick x4 x5 (AV.bool false) h fun x6 h => guardB true x6 (bindR (leadsR F g (D_impl_PairBelow F g) 12 x2 x3 h) fun x10 h => (c_impl_PairBelow_j1 F g) [x6, x10] h) ((c_impl_PairBelow_j1 F g) [x6, (AV.one .tup (AV.leaf .nil))] h)) (hd vs) (hd (tl vs)) (hd (tl (tl vs))) (hd (tl (tl (tl vs))))
noncomputable def c_impl_PairBelow (F g : Nat) (a0 a1 : AV) (h : H) : Option R := bindR (c_impl_PairIn F g a0 h) fun x1 h => guardB true x1 (bindR (c_impl_PairIn F g a1 h) fun x11 h => (c_impl_PairBelow_j2 F g) [a0, a1, x1, x11] h) ((c_impl_PairBelow_j2 F g) [a0, a1, x1, (AV.one .tup (AV.leaf .nil))] h)
noncomputable def A_impl_PairBelow : An := (.two .o (.two (.at_ [0, 1, 7, 9] .o (.at_ [11, 14] .o .o)) .o))
noncomputable def b_impl_PairBelow : Code := bodyOf Go.Proofs.Try.f13
theorem k_impl_PairBelow (F g : Nat) (a0 a1 : AV) (h : H) : callD Go.Proofs.Try.prog (Env.add (Env.add (fun _ _ _ => none : Env) 29 (u1 (c_impl_PairIn F g))) 30 (u2 (leadsR F g (D_impl_PairBelow F g) 12))) 16 F b_impl_PairBelow [4] A_impl_PairBelow [a0, a1] h = c_impl_PairBelow F g a0 a1 h := by kernel_rfl
theorem s_impl_PairBelow (F g : Nat) : ∀ args h r, u2 (c_impl_PairBelow F g) args h = some r → Tri Go.Proofs.Try.prog 13 args h r := by
  intro args h r e; obtain ⟨a0, a1, rfl, e1⟩ := u2_some e; exact fn_sound Go.Proofs.Try.func13 rfl rfl rfl Go.Proofs.Try.ntmps13 (Sound.add (Sound.add (Sound.none _) (s_impl_PairIn F g)) (s_leadsR F g (D_impl_PairBelow F g) (Sound.none _) 12)) ((k_impl_PairBelow F g a0 a1 h).trans e1)

-- "loop.example/treenumbers/spec.l1End"
noncomputable def c_spec_l1End_j1 (F g : Nat) (kc1 : List AV → H → Option R) (vs : List AV) (h : H) : Option R := (fun x8 x9 x10 => aCmpI ieq x9 (AV.int 3 (Int.ofNat 0)) h fun x11 h => withBool x11 fun t12 => bc t12 (aArith iadd x10 (AV.int 3 (Int.ofNat 1)) h fun x13 h => some (x13, h)) (aCmpI ilt x9 (AV.int 3 (Int.ofNat 0)) h fun x14 h => withBool x14 fun t15 => bc t15 (some ((AV.int 3 (Int.negSucc 0)), h)) (aArith iadd x10 (AV.int 3 (Int.ofNat 1)) h fun x16 h => kc1 [x8, x9, x16] h))) (hd vs) (hd (tl vs)) (hd (tl (tl vs)))
noncomputable def c_spec_l1End_l2 (F g : Nat) : List AV → H → (List AV → H → Option R) → Option R := fun vs h kc1 => (fun x2 x3 x4 => aLenK 0 x2 h fun x5 h => aCmpI ilt x4 x5 h fun x6 h => withBool x6 fun t7 => bc t7 (aIdxStr x2 x4 h fun x17 h => aCmpI ieq x17 (AV.int 4 (Int.ofNat 40)) h fun x18 h => withBool x18 fun t19 => bc t19 (aArith iadd x3 (AV.int 3 (Int.ofNat 1)) h fun x20 h => (c_spec_l1End_j1 F g kc1) [x2, x20, x4] h) (aCmpI ieq x17 (AV.int 4 (Int.ofNat 41)) h fun x21 h => withBool x21 fun t22 => bc t22 (aArith isub x3 (AV.int 3 (Int.ofNat 1)) h fun x23 h => (c_spec_l1End_j1 F g kc1) [x2, x23, x4] h) (some ((AV.int 3 (Int.negSucc 0)), h)))) (some ((AV.int 3 (Int.negSucc 0)), h))) (hd vs) (hd (tl vs)) (hd (tl (tl vs)))
noncomputable def c_spec_l1End (F g : Nat) (a0 a1 : AV) (h : H) : Option R := loopD F (c_spec_l1End_l2 F g) [a0, (AV.int 3 (Int.ofNat 0)), a1] h
noncomputable def A_spec_l1End : An := (.two .o (.two .o (.two (.two .o (.two (.at_ [0, 5, 6] (.two (.two .o (.two .o .o)) (.two (.two (.at_ [0, 5, 6] (.two .o (.two (.two .o (.two .o (.two .o (.two .o (.two .o .o))))) .o)) (.two (.two .o (.two (.two .o .o) .o)) (.two .o (.two (.two .o .o) .o)))) .o) .o)) .o) .o)) (.two .o .o))))
noncomputable def b_spec_l1End : Code := bodyOf Go.Proofs.Try.f42
theorem k_spec_l1End (F g : Nat) (a0 a1 : AV) (h : H) : callD Go.Proofs.Try.prog (fun _ _ _ => none : Env) 31 F b_spec_l1End [4] A_spec_l1End [a0, a1] h = c_spec_l1End F g a0 a1 h := by kernel_rfl
theorem s_spec_l1End (F g : Nat) : ∀ args h r, u2 (c_spec_l1End F g) args h = some r → Tri Go.Proofs.Try.prog 42 args h r := by
  intro args h r e; obtain ⟨a0, a1, rfl, e1⟩ := u2_some e; exact fn_sound Go.Proofs.Try.func42 rfl rfl rfl Go.Proofs.Try.ntmps42 (Sound.none _) ((k_spec_l1End F g a0 a1 h).trans e1)

-- "loop.example/treenumbers/spec.l1Kids"
noncomputable def c_spec_l1Kids_l1 (F g : Nat) : List AV → H → (List AV → H → Option R) → Option R := fun vs h kc2 => (fun x3 x4 x5 => aLenK 0 x3 h fun x6 h => aArith isub x6 (AV.int 3 (Int.ofNat 1)) h fun x7 h => aCmpI ilt x5 x7 h fun x8 h => withBool x8 fun t9 => bc t9 (bindR (c_spec_l1End F g x3 x5 h) fun x10 h => aSliceS x3 (some x5) (some x10) none h fun x11 h => aBuildSlice 1 1 [(0, 1, x11)] h fun x12 h => aAppend 1 16 x4 x12 h fun x13 h => kc2 [x3, x13, x10] h) (some (x4, h))) (hd vs) (hd (tl vs)) (hd (tl (tl vs)))
noncomputable def c_spec_l1Kids (F g : Nat) (a0 : AV) (h : H) : Option R := aBuildSlice 0 1 [] h fun x1 h => loopD F (c_spec_l1Kids_l1 F g) [a0, x1, (AV.int 3 (Int.ofNat 1))] h
noncomputable def A_spec_l1Kids : An := (.two .o (.two .o (.two .o (.two (.two (.at_ [0, 3, 4] (.two (.two .o (.two .o .o)) (.two (.two .o (.two .o .o)) .o)) .o) .o) (.two .o .o)))))
noncomputable def b_spec_l1Kids : Code := bodyOf Go.Proofs.Try.f43
theorem k_spec_l1Kids (F g : Nat) (a0 : AV) (h : H) : callD Go.Proofs.Try.prog (Env.add (fun _ _ _ => none : Env) 42 (u2 (c_spec_l1End F g))) 24 F b_spec_l1Kids [2] A_spec_l1Kids [a0] h = c_spec_l1Kids F g a0 h := by kernel_rfl
theorem s_spec_l1Kids (F g : Nat) : ∀ args h r, u1 (c_spec_l1Kids F g) args h = some r → Tri Go.Proofs.Try.prog 43 args h r := by
  intro args h r e; obtain ⟨a0, rfl, e1⟩ := u1_some e; exact fn_sound Go.Proofs.Try.func43 rfl rfl rfl Go.Proofs.Try.ntmps43 (Sound.add (Sound.none _) (s_spec_l1End F g)) ((k_spec_l1Kids F g a0 h).trans e1)

-- "loop.example/treenumbers/spec.l8In"
noncomputable def c_spec_l8In_j1 (F g : Nat) (vs : List AV) (h : H) : Option R := (fun x16 x17 => aPick x16 (AV.bool true) x17 h fun x18 h => some (x18, h)) (hd vs) (hd (tl vs))
noncomputable def c_spec_l8In_l2 (F g : Nat) (self : AV → H → Option R) : List AV → H → (List AV → H → Option R) → Option R := fun vs h kc2 => (fun x3 x4 => aLenK 1 x3 h fun x5 h => aCmpI ilt x4 x5 h fun x6 h => withBool x6 fun t7 => bc t7 (aIdxAddr 1 x3 x4 h fun x8 h => aLoad x8 h fun x9 h => bindR (self x9 h) fun x10 h => aNot x10 h fun x11 h => withBool x11 fun t12 => bc t12 (some ((AV.bool false), h)) (aArith iadd x4 (AV.int 3 (Int.ofNat 1)) h fun x13 h => kc2 [x3, x13] h)) (aLenK 1 x3 h fun x14 h => aCmpI ieq x14 (AV.int 3 (Int.ofNat 0)) h fun x15 h => guardB false x15 (aLenK 1 x3 h fun x19 h => aCmpI ieq x19 (AV.int 3 (Int.ofNat 2)) h fun x20 h => (c_spec_l8In_j1 F g) [x15, x20] h) ((c_spec_l8In_j1 F g) [x15, (AV.one .tup (AV.leaf .nil))] h))) (hd vs) (hd (tl vs))
noncomputable def c_spec_l8In (F g : Nat) : AV → H → Option R := Nat.rec (motive := fun _ => AV → H → Option R) (fun _ _ => none) (fun g self a0 h => bindR (c_spec_l1Kids F g a0 h) fun x1 h => loopD F (c_spec_l8In_l2 F g self) [x1, (AV.int 3 (Int.ofNat 0))] h) g
noncomputable def A_spec_l8In : An := (.two .o (.two .o (.two (.two .o (.two (.at_ [3, 4] (.two (.two .o (.two .o .o)) (.two (.two (.two .o (.two (.two .o .o) .o)) .o) .o)) .o) .o)) (.two (.at_ [22, 25] .o .o) .o))))
noncomputable def b_spec_l8In : Code := bodyOf Go.Proofs.Try.f53
theorem k_spec_l8In (F g : Nat) (a0 : AV) (h : H) : callD Go.Proofs.Try.prog (Env.add (Env.add (fun _ _ _ => none : Env) 43 (u1 (c_spec_l1Kids F g))) 53 (u1 (c_spec_l8In F g))) 27 F b_spec_l8In [2] A_spec_l8In [a0] h = c_spec_l8In F (g + 1) a0 h := by kernel_rfl
theorem s_spec_l8In (F g : Nat) : ∀ args h r, u1 (c_spec_l8In F g) args h = some r → Tri Go.Proofs.Try.prog 53 args h r := by
  induction g with
  | zero => intro args h r e; obtain ⟨a0, rfl, e⟩ := u1_some e; cases e
  | succ g ih => intro args h r e; obtain ⟨a0, rfl, e1⟩ := u1_some e; exact fn_sound Go.Proofs.Try.func53 rfl rfl rfl Go.Proofs.Try.ntmps53 (Sound.add (Sound.add (Sound.none _) (s_spec_l1Kids F g)) ih) ((k_spec_l8In F g a0 h).trans e1)

-- "loop.example/treenumbers/spec.PairIn"
noncomputable def c_spec_PairIn_j1 (F g : Nat) (vs : List AV) (h : H) : Option R := (fun x2 x3 => aPick x2 x3 (AV.bool false) h fun x4 h => some (x4, h)) (hd vs) (hd (tl vs))
noncomputable def c_spec_PairIn (F g : Nat) (a0 : AV) (h : H) : Option R := bindR (c_spec_TreeIn F g a0 h) fun x1 h => guardB true x1 (bindR (c_spec_l8In F g a0 h) fun x5 h => (c_spec_PairIn_j1 F g) [x1, x5] h) ((c_spec_PairIn_j1 F g) [x1, (AV.one .tup (AV.leaf .nil))] h)
noncomputable def A_spec_PairIn : An := (.two .o (.two (.at_ [5, 7] .o .o) .o))
noncomputable def b_spec_PairIn : Code := bodyOf Go.Proofs.Try.f31
theorem k_spec_PairIn (F g : Nat) (a0 : AV) (h : H) : callD Go.Proofs.Try.prog (Env.add (Env.add (fun _ _ _ => none : Env) 23 (u1 (c_spec_TreeIn F g))) 53 (u1 (c_spec_l8In F g))) 9 F b_spec_PairIn [2] A_spec_PairIn [a0] h = c_spec_PairIn F g a0 h := by kernel_rfl
theorem s_spec_PairIn (F g : Nat) : ∀ args h r, u1 (c_spec_PairIn F g) args h = some r → Tri Go.Proofs.Try.prog 31 args h r := by
  intro args h r e; obtain ⟨a0, rfl, e1⟩ := u1_some e; exact fn_sound Go.Proofs.Try.func31 rfl rfl rfl Go.Proofs.Try.ntmps31 (Sound.add (Sound.add (Sound.none _) (s_spec_TreeIn F g)) (s_spec_l8In F g)) ((k_spec_PairIn F g a0 h).trans e1)

-- "loop.example/treenumbers/spec.l1Opens"
noncomputable def c_spec_l1Opens_j1 (F g : Nat) (kc2 : List AV → H → Option R) (vs : List AV) (h : H) : Option R := (fun x9 x10 x11 => aArith iadd x11 (AV.int 3 (Int.ofNat 1)) h fun x12 h => kc2 [x9, x10, x12] h) (hd vs) (hd (tl vs)) (hd (tl (tl vs)))
noncomputable def c_spec_l1Opens_l2 (F g : Nat) : List AV → H → (List AV → H → Option R) → Option R := fun vs h kc2 => (fun x3 x4 x5 => aLenK 0 x3 h fun x6 h => aCmpI ilt x5 x6 h fun x7 h => withBool x7 fun t8 => bc t8 (aIdxStr x3 x5 h fun x13 h => aCmpI ieq x13 (AV.int 4 (Int.ofNat 40)) h fun x14 h => withBool x14 fun t15 => bc t15 (aBuildSlice 1 1 [(0, 1, x5)] h fun x16 h => aAppend 1 8 x4 x16 h fun x17 h => (c_spec_l1Opens_j1 F g kc2) [x3, x17, x5] h) ((c_spec_l1Opens_j1 F g kc2) [x3, x4, x5] h)) (some (x4, h))) (hd vs) (hd (tl vs)) (hd (tl (tl vs)))
noncomputable def c_spec_l1Opens (F g : Nat) (a0 : AV) (h : H) : Option R := aBuildSlice 0 1 [] h fun x1 h => loopD F (c_spec_l1Opens_l2 F g) [a0, x1, (AV.int 3 (Int.ofNat 0))] h
noncomputable def A_spec_l1Opens : An := (.two .o (.two .o (.two (.two .o (.two (.at_ [0, 3, 4] (.two (.two .o (.two .o .o)) (.at_ [0, 3, 4] (.two (.two .o (.two .o .o)) .o) .o)) .o) .o)) (.two .o .o))))
noncomputable def b_spec_l1Opens : Code := bodyOf Go.Proofs.Try.f70
theorem k_spec_l1Opens (F g : Nat) (a0 : AV) (h : H) : callD Go.Proofs.Try.prog (fun _ _ _ => none : Env) 21 F b_spec_l1Opens [2] A_spec_l1Opens [a0] h = c_spec_l1Opens F g a0 h := by kernel_rfl
theorem s_spec_l1Opens (F g : Nat) : ∀ args h r, u1 (c_spec_l1Opens F g) args h = some r → Tri Go.Proofs.Try.prog 70 args h r := by
  intro args h r e; obtain ⟨a0, rfl, e1⟩ := u1_some e; exact fn_sound Go.Proofs.Try.func70 rfl rfl rfl Go.Proofs.Try.ntmps70 (Sound.none _) ((k_spec_l1Opens F g a0 h).trans e1)

-- "loop.example/treenumbers/spec.l8Turn"
noncomputable def c_spec_l8Turn_j1 (F g : Nat) (vs : List AV) (h : H) : Option R := (fun x4 x5 x6 => aPick x5 (AV.bool true) x6 h fun x7 h => withBool x7 fun t8 => bc t8 (some ((AV.str [] 0), h)) (aIdxAddr 1 x4 (AV.int 3 (Int.ofNat 0)) h fun x9 h => aLoad x9 h fun x10 h => bindR (c_spec_l1Kids F g x10 h) fun x11 h => aIdxAddr 1 x11 (AV.int 3 (Int.ofNat 0)) h fun x12 _ => aLoad x12 h fun x13 _ => aSAdd (AV.str [40] 1) x13 h fun x14 _ => aSAdd x14 (AV.str [40] 1) h fun x15 _ => aIdxAddr 1 x11 (AV.int 3 (Int.ofNat 1)) h fun x16 _ => aLoad x16 h fun x17 _ => aSAdd x15 x17 h fun x18 _ => aIdxAddr 1 x4 (AV.int 3 (Int.ofNat 1)) h fun x19 _ => aLoad x19 h fun x20 _ => aSAdd x18 x20 h fun x21 _ => aSAdd x21 (AV.str [41, 41] 2) h fun x22 _ => some (x22, h))) (hd vs) (hd (tl vs)) (hd (tl (tl vs)))
noncomputable def c_spec_l8Turn (F g : Nat) (a0 : AV) (h : H) : Option R := bindR (c_spec_l1Kids F g a0 h) fun x1 h => aLenK 1 x1 h fun x2 h => aCmpI ieq x2 (AV.int 3 (Int.ofNat 0)) h fun x3 h => guardB false x3 (aIdxAddr 1 x1 (AV.int 3 (Int.ofNat 0)) h fun x23 h => aLoad x23 h fun x24 h => aLenK 0 x24 h fun x25 h => aCmpI ieq x25 (AV.int 3 (Int.ofNat 2)) h fun x26 h => (c_spec_l8Turn_j1 F g) [x1, x3, x26] h) ((c_spec_l8Turn_j1 F g) [x1, x3, (AV.one .tup (AV.leaf .nil))] h)
noncomputable def A_spec_l8Turn : An := (.two .o (.two .o (.two (.two (.at_ [3, 10, 15] .o .o) (.two (.two .o .o) .o)) (.two .o (.two .o .o)))))
noncomputable def b_spec_l8Turn : Code := bodyOf Go.Proofs.Try.f71
theorem k_spec_l8Turn (F g : Nat) (a0 : AV) (h : H) : callD Go.Proofs.Try.prog (Env.add (fun _ _ _ => none : Env) 43 (u1 (c_spec_l1Kids F g))) 35 F b_spec_l8Turn [2] A_spec_l8Turn [a0] h = c_spec_l8Turn F g a0 h := by kernel_rfl
theorem s_spec_l8Turn (F g : Nat) : ∀ args h r, u1 (c_spec_l8Turn F g) args h = some r → Tri Go.Proofs.Try.prog 71 args h r := by
  intro args h r e; obtain ⟨a0, rfl, e1⟩ := u1_some e; exact fn_sound Go.Proofs.Try.func71 rfl rfl rfl Go.Proofs.Try.ntmps71 (Sound.add (Sound.none _) (s_spec_l1Kids F g)) ((k_spec_l8Turn F g a0 h).trans e1)

-- "loop.example/treenumbers/spec.l8At"
noncomputable def c_spec_l8At (F g : Nat) (a0 a1 : AV) (h : H) : Option R := bindR (c_spec_l1Opens F g a0 h) fun x1 h => aIdxAddr 1 x1 a1 h fun x2 h => aLoad x2 h fun x3 h => bindR (c_spec_l1End F g a0 x3 h) fun x4 h => aSliceS a0 (some x3) (some x4) none h fun x5 h => bindR (c_spec_l8Turn F g x5 h) fun x6 h => aCmpS eqL x6 (AV.str [] 0) h fun x7 h => withBool x7 fun t8 => bc t8 (some ((AV.str [] 0), h)) (aSliceS a0 none (some x3) none h fun x9 _ => aSAdd x9 x6 h fun x10 _ => aSliceS a0 (some x4) none none h fun x11 _ => aSAdd x10 x11 h fun x12 _ => some (x12, h))
noncomputable def A_spec_l8At : An := (.two .o (.two .o (.two .o (.two .o (.two (.two .o (.two (.two .o .o) .o)) (.two .o .o))))))
noncomputable def b_spec_l8At : Code := bodyOf Go.Proofs.Try.f54
theorem k_spec_l8At (F g : Nat) (a0 a1 : AV) (h : H) : callD Go.Proofs.Try.prog (Env.add (Env.add (Env.add (fun _ _ _ => none : Env) 70 (u1 (c_spec_l1Opens F g))) 42 (u2 (c_spec_l1End F g))) 71 (u1 (c_spec_l8Turn F g))) 32 F b_spec_l8At [4] A_spec_l8At [a0, a1] h = c_spec_l8At F g a0 a1 h := by kernel_rfl
theorem s_spec_l8At (F g : Nat) : ∀ args h r, u2 (c_spec_l8At F g) args h = some r → Tri Go.Proofs.Try.prog 54 args h r := by
  intro args h r e; obtain ⟨a0, a1, rfl, e1⟩ := u2_some e; exact fn_sound Go.Proofs.Try.func54 rfl rfl rfl Go.Proofs.Try.ntmps54 (Sound.add (Sound.add (Sound.add (Sound.none _) (s_spec_l1Opens F g)) (s_spec_l1End F g)) (s_spec_l8Turn F g)) ((k_spec_l8At F g a0 a1 h).trans e1)

-- "loop.example/treenumbers/spec.l8Put"
noncomputable def c_spec_l8Put_j1 (F g : Nat) (vs : List AV) (h : H) : Option R := (fun x16 x17 x18 x19 x20 => aPick x19 x20 (AV.bool false) h fun x21 h => withBool x21 fun t22 => bc t22 (some (x16, h)) (aBuildSlice 0 1 [] h fun x23 h => aSliceV 1 x16 none (some x18) none h fun x24 _ => aAppend 1 16 x23 x24 h fun x25 h => aBuildSlice 1 1 [(0, 1, x17)] h fun x26 h => aAppend 1 16 x25 x26 h fun x27 h => aSliceV 1 x16 (some x18) none none h fun x28 _ => aAppend 1 16 x27 x28 h fun x29 h => some (x29, h))) (hd vs) (hd (tl vs)) (hd (tl (tl vs))) (hd (tl (tl (tl vs)))) (hd (tl (tl (tl (tl vs)))))
noncomputable def c_spec_l8Put_j2 (F g : Nat) (kc2 : List AV → H → Option R) (vs : List AV) (h : H) : Option R := (fun x7 x8 x9 x10 x11 => aPick x10 x11 (AV.bool false) h fun x12 h => withBool x12 fun t13 => bc t13 (aArith isub x9 (AV.int 3 (Int.ofNat 1)) h fun x14 h => kc2 [x7, x8, x14] h) (aCmpI (fun a b => ilt b a) x9 (AV.int 3 (Int.ofNat 0)) h fun x15 h => guardB true x15 (aArith isub x9 (AV.int 3 (Int.ofNat 1)) h fun x30 h => aIdxAddr 1 x7 x30 h fun x31 h => aLoad x31 h fun x32 h => aCmpS eqL x32 x8 h fun x33 h => (c_spec_l8Put_j1 F g) [x7, x8, x9, x15, x33] h) ((c_spec_l8Put_j1 F g) [x7, x8, x9, x15, (AV.one .tup (AV.leaf .nil))] h))) (hd vs) (hd (tl vs)) (hd (tl (tl vs))) (hd (tl (tl (tl vs)))) (hd (tl (tl (tl (tl vs)))))
noncomputable def c_spec_l8Put_l3 (F g : Nat) : List AV → H → (List AV → H → Option R) → Option R := fun vs h kc2 => (fun x3 x4 x5 => aCmpI (fun a b => ilt b a) x5 (AV.int 3 (Int.ofNat 0)) h fun x6 h => guardB true x6 (aArith isub x5 (AV.int 3 (Int.ofNat 1)) h fun x34 h => aIdxAddr 1 x3 x34 h fun x35 h => aLoad x35 h fun x36 h => aCmpS ltL x4 x36 h fun x37 h => (c_spec_l8Put_j2 F g kc2) [x3, x4, x5, x6, x37] h) ((c_spec_l8Put_j2 F g kc2) [x3, x4, x5, x6, (AV.one .tup (AV.leaf .nil))] h)) (hd vs) (hd (tl vs)) (hd (tl (tl vs)))
noncomputable def c_spec_l8Put (F g : Nat) (a0 a1 : AV) (h : H) : Option R := aLenK 1 a0 h fun x1 h => loopD F (c_spec_l8Put_l3 F g) [a0, a1, x1] h
noncomputable def A_spec_l8Put : An := (.two .o (.two .o (.two (.two (.at_ [0, 1, 5] (.two (.two (.at_ [0, 1, 5, 10, 17] .o .o) (.two .o .o)) (.two .o .o)) .o) .o) (.two (.two (.at_ [0, 1, 5, 23, 30] .o .o) (.two (.two .o .o) .o)) (.two .o .o)))))
noncomputable def b_spec_l8Put : Code := bodyOf Go.Proofs.Try.f55
theorem k_spec_l8Put (F g : Nat) (a0 a1 : AV) (h : H) : callD Go.Proofs.Try.prog (fun _ _ _ => none : Env) 45 F b_spec_l8Put [4] A_spec_l8Put [a0, a1] h = c_spec_l8Put F g a0 a1 h := by kernel_rfl
theorem s_spec_l8Put (F g : Nat) : ∀ args h r, u2 (c_spec_l8Put F g) args h = some r → Tri Go.Proofs.Try.prog 55 args h r := by
  intro args h r e; obtain ⟨a0, a1, rfl, e1⟩ := u2_some e; exact fn_sound Go.Proofs.Try.func55 rfl rfl rfl Go.Proofs.Try.ntmps55 (Sound.none _) ((k_spec_l8Put F g a0 a1 h).trans e1)

-- "loop.example/treenumbers/spec.l8Turns"
noncomputable def c_spec_l8Turns_j1 (F g : Nat) (kc2 : List AV → H → Option R) (vs : List AV) (h : H) : Option R := (fun x10 x11 x12 => aArith iadd x12 (AV.int 3 (Int.ofNat 1)) h fun x13 h => kc2 [x10, x11, x13] h) (hd vs) (hd (tl vs)) (hd (tl (tl vs)))
noncomputable def c_spec_l8Turns_l2 (F g : Nat) : List AV → H → (List AV → H → Option R) → Option R := fun vs h kc2 => (fun x3 x4 x5 => aLenK 0 x3 h fun x6 h => aQuo x6 (AV.int 3 (Int.ofNat 2)) h fun x7 h => aCmpI ilt x5 x7 h fun x8 h => withBool x8 fun t9 => bc t9 (bindR (c_spec_l8At F g x3 x5 h) fun x14 h => aCmpS (fun a b => bnot (eqL a b)) x14 (AV.str [] 0) h fun x15 h => withBool x15 fun t16 => bc t16 (bindR (c_spec_l8Put F g x4 x14 h) fun x17 h => (c_spec_l8Turns_j1 F g kc2) [x3, x17, x5] h) ((c_spec_l8Turns_j1 F g kc2) [x3, x4, x5] h)) (some (x4, h))) (hd vs) (hd (tl vs)) (hd (tl (tl vs)))
noncomputable def c_spec_l8Turns (F g : Nat) (a0 : AV) (h : H) : Option R := aBuildSlice 0 1 [] h fun x1 h => loopD F (c_spec_l8Turns_l2 F g) [a0, x1, (AV.int 3 (Int.ofNat 0))] h
noncomputable def A_spec_l8Turns : An := (.two .o (.two .o (.two (.two .o (.two (.at_ [0, 3, 4] (.two (.two .o (.two .o .o)) (.at_ [0, 3, 4] (.two (.two .o (.two .o (.two .o .o))) .o) .o)) .o) .o)) (.two .o .o))))
noncomputable def b_spec_l8Turns : Code := bodyOf Go.Proofs.Try.f33
theorem k_spec_l8Turns (F g : Nat) (a0 : AV) (h : H) : callD Go.Proofs.Try.prog (Env.add (Env.add (fun _ _ _ => none : Env) 54 (u2 (c_spec_l8At F g))) 55 (u2 (c_spec_l8Put F g))) 23 F b_spec_l8Turns [2] A_spec_l8Turns [a0] h = c_spec_l8Turns F g a0 h := by kernel_rfl
theorem s_spec_l8Turns (F g : Nat) : ∀ args h r, u1 (c_spec_l8Turns F g) args h = some r → Tri Go.Proofs.Try.prog 33 args h r := by
  intro args h r e; obtain ⟨a0, rfl, e1⟩ := u1_some e; exact fn_sound Go.Proofs.Try.func33 rfl rfl rfl Go.Proofs.Try.ntmps33 (Sound.add (Sound.add (Sound.none _) (s_spec_l8At F g)) (s_spec_l8Put F g)) ((k_spec_l8Turns F g a0 h).trans e1)

-- "loop.example/treenumbers/spec.l8More"
noncomputable def c_spec_l8More_j1 (F g : Nat) (kc1 : List AV → H → Option R) (vs : List AV) (h : H) : Option R := (fun x8 x9 x10 => aArith iadd x10 (AV.int 3 (Int.ofNat 1)) h fun x11 h => kc1 [x8, x9, x11] h) (hd vs) (hd (tl vs)) (hd (tl (tl vs)))
noncomputable def c_spec_l8More_j2 (F g : Nat) (kc12 : List AV → H → Option R) (vs : List AV) (h : H) : Option R := (fun x21 x22 x23 x24 x25 x26 => aPick x25 x26 (AV.bool false) h fun x27 _ => aArith iadd x24 (AV.int 3 (Int.ofNat 1)) h fun x28 h => kc12 [x21, x22, x23, x27, x28] h) (hd vs) (hd (tl vs)) (hd (tl (tl vs))) (hd (tl (tl (tl vs)))) (hd (tl (tl (tl (tl vs))))) (hd (tl (tl (tl (tl (tl vs))))))
noncomputable def c_spec_l8More_l3 (F g : Nat) (kc1 : List AV → H → Option R) : List AV → H → (List AV → H → Option R) → Option R := fun vs h kc12 => (fun x13 x14 x15 x16 x17 => aLenK 1 x13 h fun x18 h => aCmpI ilt x17 x18 h fun x19 h => withBool x19 fun t20 => bc t20 (guardB true x16 (aIdxAddr 1 x13 x17 h fun x29 _ => aLoad x29 h fun x30 _ => aIdxAddr 1 x14 x15 h fun x31 _ => aLoad x31 h fun x32 _ => aCmpS (fun a b => bnot (eqL a b)) x30 x32 h fun x33 _ => (c_spec_l8More_j2 F g kc12) [x13, x14, x15, x17, x16, x33] h) ((c_spec_l8More_j2 F g kc12) [x13, x14, x15, x17, x16, (AV.one .tup (AV.leaf .nil))] h)) (withBool x16 fun t34 => bc t34 (aIdxAddr 1 x14 x15 h fun x35 h => aLoad x35 h fun x36 h => aBuildSlice 1 1 [(0, 1, x36)] h fun x37 h => aAppend 1 16 x13 x37 h fun x38 h => (c_spec_l8More_j1 F g kc1) [x38, x14, x15] h) ((c_spec_l8More_j1 F g kc1) [x13, x14, x15] h))) (hd vs) (hd (tl vs)) (hd (tl (tl vs))) (hd (tl (tl (tl vs)))) (hd (tl (tl (tl (tl vs)))))
noncomputable def c_spec_l8More_l4 (F g : Nat) : List AV → H → (List AV → H → Option R) → Option R := fun vs h kc1 => (fun x2 x3 x4 => aLenK 1 x3 h fun x5 h => aCmpI ilt x4 x5 h fun x6 h => withBool x6 fun t7 => bc t7 (loopD F (c_spec_l8More_l3 F g kc1) [x2, x3, x4, (AV.bool true), (AV.int 3 (Int.ofNat 0))] h) (some (x2, h))) (hd vs) (hd (tl vs)) (hd (tl (tl vs)))
noncomputable def c_spec_l8More (F g : Nat) (a0 a1 : AV) (h : H) : Option R := loopD F (c_spec_l8More_l4 F g) [a0, a1, (AV.int 3 (Int.ofNat 0))] h
noncomputable def A_spec_l8More : An := (.two .o (.two (.two .o (.two (.at_ [0, 1, 5] (.two (.two .o (.two .o .o)) (.at_ [0, 1, 5] (.two (.two .o (.two (.two .o (.two (.at_ [0, 1, 5, 6, 7] (.two (.two .o (.two .o .o)) (.two (.two (.at_ [0, 1, 5, 7, 21, 30] .o .o) .o) .o)) .o) .o)) (.two .o (.two .o .o)))) .o) .o)) .o) .o)) (.two .o .o)))
noncomputable def b_spec_l8More : Code := bodyOf Go.Proofs.Try.f32
theorem k_spec_l8More (F g : Nat) (a0 a1 : AV) (h : H) : callD Go.Proofs.Try.prog (fun _ _ _ => none : Env) 41 F b_spec_l8More [4] A_spec_l8More [a0, a1] h = c_spec_l8More F g a0 a1 h := by kernel_rfl
theorem s_spec_l8More (F g : Nat) : ∀ args h r, u2 (c_spec_l8More F g) args h = some r → Tri Go.Proofs.Try.prog 32 args h r := by
  intro args h r e; obtain ⟨a0, a1, rfl, e1⟩ := u2_some e; exact fn_sound Go.Proofs.Try.func32 rfl rfl rfl Go.Proofs.Try.ntmps32 (Sound.none _) ((k_spec_l8More F g a0 a1 h).trans e1)

-- "loop.example/treenumbers/spec.PairBelow"
noncomputable def c_spec_PairBelow_l1 (F g : Nat) : List AV → H → (List AV → H → Option R) → Option R := fun vs h kc10 => (fun x11 x12 x13 => aLenK 1 x12 h fun x14 h => aCmpI ilt x13 x14 h fun x15 h => withBool x15 fun t16 => bc t16 (aIdxAddr 1 x12 x13 h fun x17 h => aLoad x17 h fun x18 h => aCmpS eqL x18 x11 h fun x19 h => withBool x19 fun t20 => bc t20 (some ((AV.bool true), h)) (aIdxAddr 1 x12 x13 h fun x21 h => aLoad x21 h fun x22 h => bindR (c_spec_l8Turns F g x22 h) fun x23 h => bindR (c_spec_l8More F g x12 x23 h) fun x24 h => aArith iadd x13 (AV.int 3 (Int.ofNat 1)) h fun x25 h => kc10 [x11, x24, x25] h)) (some ((AV.bool false), h))) (hd vs) (hd (tl vs)) (hd (tl (tl vs)))
noncomputable def c_spec_PairBelow_j2 (F g : Nat) (vs : List AV) (h : H) : Option R := (fun x3 x4 x5 x6 => aPick x5 (AV.bool true) x6 h fun x7 h => withBool x7 fun t8 => bc t8 (some ((AV.bool false), h)) (aBuildSlice 1 1 [(0, 1, x3)] h fun x9 h => loopD F (c_spec_PairBelow_l1 F g) [x4, x9, (AV.int 3 (Int.ofNat 0))] h)) (hd vs) (hd (tl vs)) (hd (tl (tl vs))) (hd (tl (tl (tl vs))))
noncomputable def c_spec_PairBelow (F g : Nat) (a0 a1 : AV) (h : H) : Option R := bindR (c_spec_PairIn F g a0 h) fun x1 h => aNot x1 h fun x2 h => guardB false x2 (bindR (c_spec_PairIn F g a1 h) fun x26 h => aNot x26 h fun x27 h => (c_spec_PairBelow_j2 F g) [a0, a1, x2, x27] h) ((c_spec_PairBelow_j2 F g) [a0, a1, x2, (AV.one .tup (AV.leaf .nil))] h)
noncomputable def A_spec_PairBelow : An := (.two .o (.two (.two (.at_ [0, 1, 10, 13] .o .o) (.two (.two .o .o) .o)) (.two .o (.two (.two .o (.two (.at_ [1, 5, 6] (.two (.two .o (.two .o .o)) (.two (.two (.two (.two .o (.two (.two .o .o) .o)) .o) .o) .o)) .o) .o)) (.two .o .o)))))
noncomputable def b_spec_PairBelow : Code := bodyOf Go.Proofs.Try.f14
theorem k_spec_PairBelow (F g : Nat) (a0 a1 : AV) (h : H) : callD Go.Proofs.Try.prog (Env.add (Env.add (Env.add (fun _ _ _ => none : Env) 31 (u1 (c_spec_PairIn F g))) 33 (u1 (c_spec_l8Turns F g))) 32 (u2 (c_spec_l8More F g))) 36 F b_spec_PairBelow [4] A_spec_PairBelow [a0, a1] h = c_spec_PairBelow F g a0 a1 h := by kernel_rfl
theorem s_spec_PairBelow (F g : Nat) : ∀ args h r, u2 (c_spec_PairBelow F g) args h = some r → Tri Go.Proofs.Try.prog 14 args h r := by
  intro args h r e; obtain ⟨a0, a1, rfl, e1⟩ := u2_some e; exact fn_sound Go.Proofs.Try.func14 rfl rfl rfl Go.Proofs.Try.ntmps14 (Sound.add (Sound.add (Sound.add (Sound.none _) (s_spec_PairIn F g)) (s_spec_l8Turns F g)) (s_spec_l8More F g)) ((k_spec_PairBelow F g a0 a1 h).trans e1)

-- "slices.Reverse[[]*loop.example/treenumbers/impl.node,*loop.example/treenumbers/impl.node]"
noncomputable def c_slices_Reverse_4168_l1 (F g : Nat) : List AV → H → (List AV → H → Option R) → Option R := fun vs h kc3 => (fun x4 x5 x6 => aCmpI ilt x5 x6 h fun x7 h => withBool x7 fun t8 => bc t8 (aIdxAddr 1 x4 x6 h fun x9 _ => aLoad x9 h fun x10 _ => aIdxAddr 1 x4 x5 h fun x11 _ => aLoad x11 h fun x12 _ => aIdxAddr 1 x4 x5 h fun x13 _ => aStore x13 x10 h fun x14 h => aIdxAddr 1 x4 x6 h fun x15 _ => aStore x15 x12 h fun x16 h => aArith iadd x5 (AV.int 3 (Int.ofNat 1)) h fun x17 h => aArith isub x6 (AV.int 3 (Int.ofNat 1)) h fun x18 h => kc3 [x4, x17, x18] h) (some (AV.one .tup (AV.leaf .nil), h))) (hd vs) (hd (tl vs)) (hd (tl (tl vs)))
noncomputable def c_slices_Reverse_4168 (F g : Nat) (a0 : AV) (h : H) : Option R := aLenK 1 a0 h fun x1 h => aArith isub x1 (AV.int 3 (Int.ofNat 1)) h fun x2 h => loopD F (c_slices_Reverse_4168_l1 F g) [a0, (AV.int 3 (Int.ofNat 0)), x2] h
noncomputable def A_slices_Reverse_4168 : An := (.two .o (.two (.at_ [0, 2, 3] (.two (.two .o (.two .o .o)) (.two (.two .o .o) .o)) .o) .o))
noncomputable def b_slices_Reverse_4168 : Code := bodyOf Go.Proofs.Try.f56
theorem k_slices_Reverse_4168 (F g : Nat) (a0 : AV) (h : H) : callD Go.Proofs.Try.prog (fun _ _ _ => none : Env) 28 F b_slices_Reverse_4168 [] A_slices_Reverse_4168 [a0] h = c_slices_Reverse_4168 F g a0 h := by kernel_rfl
theorem s_slices_Reverse_4168 (F g : Nat) : ∀ args h r, u1 (c_slices_Reverse_4168 F g) args h = some r → Tri Go.Proofs.Try.prog 56 args h r := by
  intro args h r e; obtain ⟨a0, rfl, e1⟩ := u1_some e; exact fn_sound Go.Proofs.Try.func56 rfl rfl rfl Go.Proofs.Try.ntmps56 (Sound.none _) ((k_slices_Reverse_4168 F g a0 h).trans e1)

-- "(*loop.example/treenumbers/impl.node).turn"
noncomputable def c_impl_node_turn_l1 (F g : Nat) (self : AV → H → Option R) : List AV → H → (List AV → H → Option R) → Option R := fun vs h kc9 => (fun x10 x11 x12 => aCmpI ilt x12 x11 h fun x13 h => withBool x13 fun t14 => bc t14 (aIdxAddr 1 x10 x12 h fun x15 h => aLoad x15 h fun x16 h => bindR (self x16 h) fun x17 h => aArith iadd x12 (AV.int 3 (Int.ofNat 1)) h fun x18 h => kc9 [x10, x11, x18] h) (some (AV.one .tup (AV.leaf .nil), h))) (hd vs) (hd (tl vs)) (hd (tl (tl vs)))
noncomputable def c_impl_node_turn (F g : Nat) : AV → H → Option R := Nat.rec (motive := fun _ => AV → H → Option R) (fun _ _ => none) (fun g self a0 h => aNilCheck a0 h fun x1 h => aField 2 x1 h fun x2 h => aLoad x2 h fun x3 h => bindR (c_slices_Reverse_4168 F g x3 h) fun x4 h => aNilCheck a0 h fun x5 h => aField 2 x5 h fun x6 h => aLoad x6 h fun x7 h => aLenK 1 x7 h fun x8 h => loopD F (c_impl_node_turn_l1 F g self) [x7, x8, (AV.int 3 (Int.ofNat 0))] h) g
noncomputable def A_impl_node_turn : An := (.two .o (.two .o (.two (.at_ [12, 13, 14] (.two .o (.two (.two .o .o) (.two (.two (.two .o .o) .o) .o))) .o) .o)))
noncomputable def b_impl_node_turn : Code := bodyOf Go.Proofs.Try.f34
theorem k_impl_node_turn (F g : Nat) (a0 : AV) (h : H) : callD Go.Proofs.Try.prog (Env.add (Env.add (fun _ _ _ => none : Env) 56 (u1 (c_slices_Reverse_4168 F g))) 34 (u1 (c_impl_node_turn F g))) 21 F b_impl_node_turn [] A_impl_node_turn [a0] h = c_impl_node_turn F (g + 1) a0 h := by kernel_rfl
theorem s_impl_node_turn (F g : Nat) : ∀ args h r, u1 (c_impl_node_turn F g) args h = some r → Tri Go.Proofs.Try.prog 34 args h r := by
  induction g with
  | zero => intro args h r e; obtain ⟨a0, rfl, e⟩ := u1_some e; cases e
  | succ g ih => intro args h r e; obtain ⟨a0, rfl, e1⟩ := u1_some e; exact fn_sound Go.Proofs.Try.func34 rfl rfl rfl Go.Proofs.Try.ntmps34 (Sound.add (Sound.add (Sound.none _) (s_slices_Reverse_4168 F g)) ih) ((k_impl_node_turn F g a0 h).trans e1)

-- "loop.example/treenumbers/impl.TreeTurned"
noncomputable def c_impl_TreeTurned (F g : Nat) (a0 : AV) (h : H) : Option R := bindR (c_impl_readTree F g a0 h) fun x1 h => aExtract x1 0 h fun x2 h => aExtract x1 1 h fun x3 h => aNot x3 h fun x4 h => withBool x4 fun t5 => bc t5 (some (AV.one .tup (AV.cons (AV.str [] 0) (AV.cons (AV.bool false) (AV.leaf .nil))), h)) (bindR (c_impl_node_turn F g x2 h) fun x6 h => bindR (c_impl_node_text F g x2 h) fun x7 h => some (AV.one .tup (AV.cons x7 (AV.cons (AV.bool true) (AV.leaf .nil))), h))
noncomputable def A_impl_TreeTurned : An := (.two .o (.two .o (.two (.two .o (.two (.two .o .o) .o)) (.two .o (.two .o .o)))))
noncomputable def b_impl_TreeTurned : Code := bodyOf Go.Proofs.Try.f15
theorem k_impl_TreeTurned (F g : Nat) (a0 : AV) (h : H) : callD Go.Proofs.Try.prog (Env.add (Env.add (Env.add (fun _ _ _ => none : Env) 25 (u1 (c_impl_readTree F g))) 34 (u1 (c_impl_node_turn F g))) 35 (u1 (c_impl_node_text F g))) 17 F b_impl_TreeTurned [2, 3] A_impl_TreeTurned [a0] h = c_impl_TreeTurned F g a0 h := by kernel_rfl
theorem s_impl_TreeTurned (F g : Nat) : ∀ args h r, u1 (c_impl_TreeTurned F g) args h = some r → Tri Go.Proofs.Try.prog 15 args h r := by
  intro args h r e; obtain ⟨a0, rfl, e1⟩ := u1_some e; exact fn_sound Go.Proofs.Try.func15 rfl rfl rfl Go.Proofs.Try.ntmps15 (Sound.add (Sound.add (Sound.add (Sound.none _) (s_impl_readTree F g)) (s_impl_node_turn F g)) (s_impl_node_text F g)) ((k_impl_TreeTurned F g a0 h).trans e1)

-- "loop.example/treenumbers/laws.FnPairBelow"
noncomputable def c_laws_FnPairBelow_j1 (F g : Nat) (vs : List AV) (h : H) : Option R := (fun x41 x42 => aPick x41 x42 (AV.bool false) h fun x43 h => some (x43, h)) (hd vs) (hd (tl vs))
noncomputable def c_laws_FnPairBelow_j2 (F g : Nat) (vs : List AV) (h : H) : Option R := (fun x37 x38 x39 => aPick x38 x39 (AV.bool false) h fun x40 h => guardB true x40 (bindR (c_impl_PairBelow F g x37 x37 h) fun x44 h => (c_laws_FnPairBelow_j1 F g) [x40, x44] h) ((c_laws_FnPairBelow_j1 F g) [x40, (AV.one .tup (AV.leaf .nil))] h)) (hd vs) (hd (tl vs)) (hd (tl (tl vs)))
noncomputable def c_laws_FnPairBelow_j3 (F g : Nat) (vs : List AV) (h : H) : Option R := (fun x32 x33 x34 x35 => aPick x34 x35 (AV.bool false) h fun x36 h => guardB true x36 (bindR (c_impl_PairBelow F g x32 x32 h) fun x45 h => (c_laws_FnPairBelow_j2 F g) [x33, x36, x45] h) ((c_laws_FnPairBelow_j2 F g) [x33, x36, (AV.one .tup (AV.leaf .nil))] h)) (hd vs) (hd (tl vs)) (hd (tl (tl vs))) (hd (tl (tl (tl vs))))
noncomputable def c_laws_FnPairBelow_j4 (F g : Nat) (vs : List AV) (h : H) : Option R := (fun x25 x26 x27 x28 x29 x30 => aPick x29 x30 (AV.bool false) h fun x31 h => guardB true x31 (bindR (c_impl_PairBelow F g x28 x27 h) fun x46 h => (c_laws_FnPairBelow_j3 F g) [x25, x26, x31, x46] h) ((c_laws_FnPairBelow_j3 F g) [x25, x26, x31, (AV.one .tup (AV.leaf .nil))] h)) (hd vs) (hd (tl vs)) (hd (tl (tl vs))) (hd (tl (tl (tl vs)))) (hd (tl (tl (tl (tl vs))))) (hd (tl (tl (tl (tl (tl vs))))))
noncomputable def c_laws_FnPairBelow_j5 (F g : Nat) (vs : List AV) (h : H) : Option R := (fun x10 x11 x12 x13 x14 x15 => aPick x14 (AV.bool true) x15 h fun x16 h => withBool x16 fun t17 => bc t17 (aEq false 0 x12 x13 h fun x18 h => some (x18, h)) (bindR (c_impl_TreeTurned F g x10 h) fun x19 h => aExtract x19 0 h fun x20 h => aExtract x19 1 h fun x21 h => bindR (c_impl_TreeTurned F g x11 h) fun x22 h => aExtract x22 0 h fun x23 h => aExtract x22 1 h fun x24 h => guardB true x21 ((c_laws_FnPairBelow_j4 F g) [x10, x11, x20, x23, x21, x24] h) ((c_laws_FnPairBelow_j4 F g) [x10, x11, x20, x23, x21, (AV.one .tup (AV.leaf .nil))] h))) (hd vs) (hd (tl vs)) (hd (tl (tl vs))) (hd (tl (tl (tl vs)))) (hd (tl (tl (tl (tl vs))))) (hd (tl (tl (tl (tl (tl vs))))))
noncomputable def c_laws_FnPairBelow_r6 (F g : Nat) (x4 : AV) (h : H) : Option R := aExtract x4 0 h fun x5 h => aExtract x4 1 h fun x6 h => bindR (c_impl_PairBelow F g x5 x6 h) fun x7 h => bindR (c_spec_PairBelow F g x5 x6 h) fun x8 h => aEq true 0 x7 x8 h fun x9 h => guardB false x9 (aNot x7 h fun x47 h => (c_laws_FnPairBelow_j5 F g) [x5, x6, x7, x8, x9, x47] h) ((c_laws_FnPairBelow_j5 F g) [x5, x6, x7, x8, x9, (AV.one .tup (AV.leaf .nil))] h)
noncomputable def c_laws_FnPairBelow (F g : Nat) (a0 : AV) (h : H) : Option R := aLenK 1 a0 h fun x1 h => aCmpI (fun a b => ilt b a) x1 (AV.int 3 (Int.ofNat 1048576)) h fun x2 h => withBool x2 fun t3 => bc t3 (some ((AV.bool true), h)) (bindR (c_spec_DrawPairBelow F g a0 h) fun x4 h => c_laws_FnPairBelow_r6 F g x4 h)
noncomputable def A_laws_FnPairBelow : An := (.two .o (.two (.two .o (.two (.two .o .o) .o)) (.two .o (.two .o (.two .o (.two (.two (.at_ [3, 4, 5, 6, 28, 30] .o .o) (.two (.two .o .o) .o)) (.two .o (.two .o (.two (.at_ [3, 4, 7, 9, 46, 47] .o (.at_ [3, 4, 49, 52] .o (.at_ [4, 54, 57] .o (.at_ [59, 62] .o .o)))) .o)))))))))
noncomputable def b_laws_FnPairBelow : Code := bodyOf Go.Proofs.Try.f4
theorem k_laws_FnPairBelow (F g : Nat) (a0 : AV) (h : H) : callD Go.Proofs.Try.prog (Env.add (Env.add (Env.add (Env.add (fun _ _ _ => none : Env) 12 (u1 (c_spec_DrawPairBelow F g))) 13 (u2 (c_impl_PairBelow F g))) 14 (u2 (c_spec_PairBelow F g))) 15 (u1 (c_impl_TreeTurned F g))) 64 F b_laws_FnPairBelow [2] A_laws_FnPairBelow [a0] h = c_laws_FnPairBelow F g a0 h := by kernel_rfl
theorem s_laws_FnPairBelow (F g : Nat) : ∀ args h r, u1 (c_laws_FnPairBelow F g) args h = some r → Tri Go.Proofs.Try.prog 4 args h r := by
  intro args h r e; obtain ⟨a0, rfl, e1⟩ := u1_some e; exact fn_sound Go.Proofs.Try.func4 rfl rfl rfl Go.Proofs.Try.ntmps4 (Sound.add (Sound.add (Sound.add (Sound.add (Sound.none _) (s_spec_DrawPairBelow F g)) (s_impl_PairBelow F g)) (s_spec_PairBelow F g)) (s_impl_TreeTurned F g)) ((k_laws_FnPairBelow F g a0 h).trans e1)

end
end Go.AI.T
