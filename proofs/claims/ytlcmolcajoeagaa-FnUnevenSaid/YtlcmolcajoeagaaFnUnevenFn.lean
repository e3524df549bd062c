/- The functions that the law FnUneven reaches, as the evaluator reads them. -/
import Derived.Test.YtlcmolcajoeagaaRaw
import Derived.Test.YtlcmolcajoeagaaPai
import Derived.Test.YtlcmolcajoeagaaProg
import Derived.KernelRfl
namespace Go.AI.Q
open Go Go.RowKit Go.AI
set_option linter.unusedVariables false
set_option linter.unusedSimpArgs false
set_option maxRecDepth 100000
noncomputable section
-- "loop.example/treenumbers/spec.DrawPairUneven"
noncomputable def c_spec_DrawPairUneven (F g : Nat) (a0 : AV) (h : H) : Option R := bindR (c_spec_l92One F g a0 h) fun x1 h => some (x1, h)
noncomputable def A_spec_DrawPairUneven : An := (.two .o (.two .o .o))
noncomputable def b_spec_DrawPairUneven : Code := bodyOf Go.Proofs.Try.f57
theorem k_spec_DrawPairUneven (F g : Nat) (a0 : AV) (h : H) : callD Go.Proofs.Try.prog (Env.add (fun _ _ _ => none : Env) 86 (u1 (c_spec_l92One F g))) 5 F b_spec_DrawPairUneven [2] A_spec_DrawPairUneven [a0] h = c_spec_DrawPairUneven F g a0 h := by kernel_rfl
theorem s_spec_DrawPairUneven (F g : Nat) : ∀ args h r, u1 (c_spec_DrawPairUneven F g) args h = some r → Tri Go.Proofs.Try.prog 57 args h r := by
  intro args h r e; obtain ⟨a0, rfl, e1⟩ := u1_some e; exact fn_sound Go.Proofs.Try.func57 rfl rfl rfl Go.Proofs.Try.ntmps57 (Sound.add (Sound.none _) (s_spec_l92One F g)) ((k_spec_DrawPairUneven F g a0 h).trans e1)

end
end Go.AI.Q
namespace Go.AI.T
open Go Go.RowKit Go.AI
set_option linter.unusedVariables false
set_option linter.unusedSimpArgs false
set_option maxRecDepth 100000
noncomputable section
def c_spec_DrawPairUneven (F g : Nat) (a0 : AV) (h : H) : Option R := quietC (Go.AI.Q.c_spec_DrawPairUneven 20000 20) a0 h
theorem s_spec_DrawPairUneven (F g : Nat) : ∀ args h r, u1 (c_spec_DrawPairUneven F g) args h = some r → Tri Go.Proofs.Try.prog id_spec_DrawPairUneven args h r := quietC_sound (Go.AI.Q.s_spec_DrawPairUneven 20000 20)
theorem draw_FnUneven (F g : Nat) {a0 : AV} {n : Nat} {L : List AV} {B : Blk} (ha : (a0 = .leaf .nils ∧ n = 0) ∨ a0 = .osl 0 0 n 1) (hB : 0 < n → B = .cells 2 L) (hb : ∀ i, i < n → ∃ v, L[i]? = some (.int 4 (.ofNat v)) ∧ v < 256) :
    ∃ l, (l.length ≤ 300 ∧ (isTree l = true → l.length ≤ 18)) ∧ c_spec_DrawPairUneven F g a0 (hCode B) = some (.str l l.length, hCode B) := by
  obtain ⟨l, h', hl, e, hlo⟩ := Go.AI.Q.one_ok (F := 20000) (g := 20) (h := hCode B) (by omega) ha (fun hn => ⟨2, hB hn⟩) hb (Nat.le_refl _) (Nat.le_refl _)
  refine ⟨l, hl, quietC_ok (h' := h') ?_ rfl hlo⟩
  show bindR (Go.AI.Q.c_spec_l92One 20000 20 a0 (hCode B)) _ = _
  rw [e]; rfl
end
end Go.AI.T
namespace Go.AI.T
open Go Go.RowKit Go.AI
set_option linter.unusedVariables false
set_option linter.unusedSimpArgs false
set_option maxRecDepth 100000
noncomputable section
-- "loop.example/treenumbers/impl.pairsIn"
noncomputable def c_impl_pairsIn_j1 (F g : Nat) (vs : List AV) (h : H) : Option R := (fun x29 x30 x31 => aPick x30 x31 (AV.bool false) h fun x32 h => some (AV.one .tup (AV.cons x29 (AV.cons x32 (AV.leaf .nil))), h)) (hd vs) (hd (tl vs)) (hd (tl (tl vs)))
noncomputable def c_impl_pairsIn (F g : Nat) : AV → H → Option R := Nat.rec (motive := fun _ => AV → H → Option R) (fun _ _ => none) (fun g self a0 h => aNilCheck a0 h fun x1 h => aField 2 x1 h fun x2 h => aLoad x2 h fun x3 h => aLenK 1 x3 h fun x4 h => aCmpI ieq x4 (AV.int 3 (Int.ofNat 0)) h fun x5 h => withBool x5 fun t6 => bc t6 (aBuild [] [] h fun x7 h => aMkIface 112 x7 h fun x8 h => some (AV.one .tup (AV.cons x8 (AV.cons (AV.bool true) (AV.leaf .nil))), h)) (aCmpI ieq x4 (AV.int 3 (Int.ofNat 2)) h fun x9 h => withBool x9 fun t10 => bc t10 (aNilCheck a0 h fun x11 h => aField 2 x11 h fun x12 h => aLoad x12 h fun x13 h => aIdxAddr 1 x13 (AV.int 3 (Int.ofNat 0)) h fun x14 h => aLoad x14 h fun x15 h => bindR (self x15 h) fun x16 h => aExtract x16 0 h fun x17 h => aExtract x16 1 h fun x18 h => aNilCheck a0 h fun x19 h => aField 2 x19 h fun x20 h => aLoad x20 h fun x21 h => aIdxAddr 1 x21 (AV.int 3 (Int.ofNat 1)) h fun x22 h => aLoad x22 h fun x23 h => bindR (self x23 h) fun x24 h => aExtract x24 0 h fun x25 h => aExtract x24 1 h fun x26 h => aBuild [(AV.leaf .nili), (AV.leaf .nili)] [(0, 1, x17), (1, 1, x25)] h fun x27 h => aMkIface 92 x27 h fun x28 h => guardB true x18 ((c_impl_pairsIn_j1 F g) [x28, x18, x26] h) ((c_impl_pairsIn_j1 F g) [x28, x18, (AV.one .tup (AV.leaf .nil))] h)) (some (AV.one .tup (AV.cons (AV.leaf .nili) (AV.cons (AV.bool false) (AV.leaf .nil))), h)))) g
noncomputable def A_impl_pairsIn : An := (.two .o (.two .o (.two (.two .o (.two (.two .o .o) (.two .o (.two (.two .o (.two .o (.two (.at_ [42, 44, 45] .o .o) .o))) (.two .o .o))))) .o)))
noncomputable def b_impl_pairsIn : Code := bodyOf Go.Proofs.Try.f122
theorem k_impl_pairsIn (F g : Nat) (a0 : AV) (h : H) : callD Go.Proofs.Try.prog (Env.add (fun _ _ _ => none : Env) 122 (u1 (c_impl_pairsIn F g))) 47 F b_impl_pairsIn [2, 3] A_impl_pairsIn [a0] h = c_impl_pairsIn F (g + 1) a0 h := by kernel_rfl
theorem s_impl_pairsIn (F g : Nat) : ∀ args h r, u1 (c_impl_pairsIn F g) args h = some r → Tri Go.Proofs.Try.prog 122 args h r := by
  induction g with
  | zero => intro args h r e; obtain ⟨a0, rfl, e⟩ := u1_some e; cases e
  | succ g ih => intro args h r e; obtain ⟨a0, rfl, e1⟩ := u1_some e; exact fn_sound Go.Proofs.Try.func122 rfl rfl rfl Go.Proofs.Try.ntmps122 (Sound.add (Sound.none _) ih) ((k_impl_pairsIn F g a0 h).trans e1)

-- "loop.example/treenumbers/impl.readPairs"
noncomputable def c_impl_readPairs (F g : Nat) (a0 : AV) (h : H) : Option R := bindR (c_impl_readTree F g a0 h) fun x1 h => aExtract x1 0 h fun x2 h => aExtract x1 1 h fun x3 h => aNot x3 h fun x4 h => withBool x4 fun t5 => bc t5 (some (AV.one .tup (AV.cons (AV.leaf .nili) (AV.cons (AV.bool false) (AV.leaf .nil))), h)) (bindR (c_impl_pairsIn F g x2 h) fun x6 h => aExtract x6 0 h fun x7 h => aExtract x6 1 h fun x8 h => some (AV.one .tup (AV.cons x7 (AV.cons x8 (AV.leaf .nil))), h))
noncomputable def A_impl_readPairs : An := (.two .o (.two .o (.two (.two .o (.two (.two .o .o) .o)) (.two .o .o))))
noncomputable def b_impl_readPairs : Code := bodyOf Go.Proofs.Try.f87
theorem k_impl_readPairs (F g : Nat) (a0 : AV) (h : H) : callD Go.Proofs.Try.prog (Env.add (Env.add (fun _ _ _ => none : Env) 72 (u1 (c_impl_readTree F g))) 122 (u1 (c_impl_pairsIn F g))) 17 F b_impl_readPairs [2, 3] A_impl_readPairs [a0] h = c_impl_readPairs F g a0 h := by kernel_rfl
theorem s_impl_readPairs (F g : Nat) : ∀ args h r, u1 (c_impl_readPairs F g) args h = some r → Tri Go.Proofs.Try.prog 87 args h r := by
  intro args h r e; obtain ⟨a0, rfl, e1⟩ := u1_some e; exact fn_sound Go.Proofs.Try.func87 rfl rfl rfl Go.Proofs.Try.ntmps87 (Sound.add (Sound.add (Sound.none _) (s_impl_readTree F g)) (s_impl_pairsIn F g)) ((k_impl_readPairs F g a0 h).trans e1)

-- "(*loop.example/treenumbers/impl.node).nodes"
noncomputable def c_impl_node_nodes_l1 (F g : Nat) (self : AV → H → Option R) : List AV → H → (List AV → H → Option R) → Option R := fun vs h kc6 => (fun x7 x8 x9 x10 => aCmpI ilt x10 x9 h fun x11 h => withBool x11 fun t12 => bc t12 (aIdxAddr 1 x8 x10 h fun x13 h => aLoad x13 h fun x14 h => bindR (self x14 h) fun x15 h => aAppend 1 8 x7 x15 h fun x16 h => aArith iadd x10 (AV.int 3 (Int.ofNat 1)) h fun x17 h => kc6 [x16, x8, x9, x17] h) (some (x7, h))) (hd vs) (hd (tl vs)) (hd (tl (tl vs))) (hd (tl (tl (tl vs))))
noncomputable def c_impl_node_nodes (F g : Nat) : AV → H → Option R := Nat.rec (motive := fun _ => AV → H → Option R) (fun _ _ => none) (fun g self a0 h => aBuildSlice 1 1 [(0, 1, a0)] h fun x1 h => aNilCheck a0 h fun x2 h => aField 2 x2 h fun x3 h => aLoad x3 h fun x4 h => aLenK 1 x4 h fun x5 h => loopD F (c_impl_node_nodes_l1 F g self) [x1, x4, x5, (AV.int 3 (Int.ofNat 0))] h) g
noncomputable def A_impl_node_nodes : An := (.two .o (.two .o (.two (.two .o (.two (.at_ [3, 11, 12, 13] (.two .o (.two (.two .o .o) (.two (.two (.two .o .o) .o) .o))) .o) .o)) (.two .o .o))))
noncomputable def b_impl_node_nodes : Code := bodyOf Go.Proofs.Try.f75
theorem k_impl_node_nodes (F g : Nat) (a0 : AV) (h : H) : callD Go.Proofs.Try.prog (Env.add (fun _ _ _ => none : Env) 75 (u1 (c_impl_node_nodes F g))) 23 F b_impl_node_nodes [2] A_impl_node_nodes [a0] h = c_impl_node_nodes F (g + 1) a0 h := by kernel_rfl
theorem s_impl_node_nodes (F g : Nat) : ∀ args h r, u1 (c_impl_node_nodes F g) args h = some r → Tri Go.Proofs.Try.prog 75 args h r := by
  induction g with
  | zero => intro args h r e; obtain ⟨a0, rfl, e⟩ := u1_some e; cases e
  | succ g ih => intro args h r e; obtain ⟨a0, rfl, e1⟩ := u1_some e; exact fn_sound Go.Proofs.Try.func75 rfl rfl rfl Go.Proofs.Try.ntmps75 (Sound.add (Sound.none _) ih) ((k_impl_node_nodes F g a0 h).trans e1)

-- "slices.Grow[[]loop.example/treenumbers/impl.pairTree,loop.example/treenumbers/impl.pairTree]"
noncomputable def c_slices_Grow_11b6_j1 (F g : Nat) (vs : List AV) (h : H) : Option R := (fun x3 => some (x3, h)) (hd vs)
noncomputable def c_slices_Grow_11b6_j2 (F g : Nat) (vs : List AV) (h : H) : Option R := (fun x1 x2 => aCap x1 h fun x4 h => aLenK 1 x1 h fun x5 h => aArith isub x4 x5 h fun x6 h => aArith isub x2 x6 h fun x7 h => aCmpI (fun a b => ilt b a) x7 (AV.int 3 (Int.ofNat 0)) h fun x8 h => withBool x8 fun t9 => bc t9 (aCap x1 h fun x10 h => aSliceV 1 x1 none (some x10) none h fun x11 h => aAppZ 1 16 [(AV.leaf .nili)] x11 x7 h fun x12 h => aLenK 1 x1 h fun x13 h => aSliceV 1 x12 none (some x13) none h fun x14 h => (c_slices_Grow_11b6_j1 F g) [x14] h) ((c_slices_Grow_11b6_j1 F g) [x1] h)) (hd vs) (hd (tl vs))
noncomputable def c_slices_Grow_11b6 (F g : Nat) (a0 a1 : AV) (h : H) : Option R := aCmpI ilt a1 (AV.int 3 (Int.ofNat 0)) h fun x15 h => withBool x15 fun t16 => bc t16 (aMkIface 9 (AV.str [99, 97, 110, 110, 111, 116, 32, 98, 101, 32, 110, 101, 103, 97, 116, 105, 118, 101] 18) h fun x17 h => none) ((c_slices_Grow_11b6_j2 F g) [a0, a1] h)
noncomputable def A_slices_Grow_11b6 : An := (.two .o (.at_ [0, 1] (.two .o (.two .o .o)) (.at_ [0] (.two .o (.two .o (.two .o .o))) (.two .o .o))))
noncomputable def b_slices_Grow_11b6 : Code := bodyOf Go.Proofs.Try.f196
theorem k_slices_Grow_11b6 (F g : Nat) (a0 a1 : AV) (h : H) : callD Go.Proofs.Try.prog (fun _ _ _ => none : Env) 27 F b_slices_Grow_11b6 [4] A_slices_Grow_11b6 [a0, a1] h = c_slices_Grow_11b6 F g a0 a1 h := by kernel_rfl
theorem s_slices_Grow_11b6 (F g : Nat) : ∀ args h r, u2 (c_slices_Grow_11b6 F g) args h = some r → Tri Go.Proofs.Try.prog 196 args h r := by
  intro args h r e; obtain ⟨a0, a1, rfl, e1⟩ := u2_some e; exact fn_sound Go.Proofs.Try.func196 rfl rfl rfl Go.Proofs.Try.ntmps196 (Sound.none _) ((k_slices_Grow_11b6 F g a0 a1 h).trans e1)

-- "slices.Concat[[]loop.example/treenumbers/impl.pairTree,loop.example/treenumbers/impl.pairTree]"
noncomputable def c_slices_Concat_11b6_j1 (F g : Nat) (kc2 : List AV → H → Option R) (vs : List AV) (h : H) : Option R := (fun x10 x11 x12 x13 x14 => aArith iadd x14 (AV.int 3 (Int.ofNat 1)) h fun x15 h => kc2 [x10, x11, x12, x13, x15] h) (hd vs) (hd (tl vs)) (hd (tl (tl vs))) (hd (tl (tl (tl vs)))) (hd (tl (tl (tl (tl vs)))))
noncomputable def c_slices_Concat_11b6_l2 (F g : Nat) : List AV → H → (List AV → H → Option R) → Option R := fun vs h kc25 => (fun x26 x27 x28 x29 => aCmpI ilt x29 x28 h fun x30 h => withBool x30 fun t31 => bc t31 (aIdxAddr 1 x27 x29 h fun x32 h => aLoad x32 h fun x33 h => aAppend 1 16 x26 x33 h fun x34 h => aArith iadd x29 (AV.int 3 (Int.ofNat 1)) h fun x35 h => kc25 [x34, x27, x28, x35] h) (some (x26, h))) (hd vs) (hd (tl vs)) (hd (tl (tl vs))) (hd (tl (tl (tl vs))))
noncomputable def c_slices_Concat_11b6_l3 (F g : Nat) : List AV → H → (List AV → H → Option R) → Option R := fun vs h kc2 => (fun x3 x4 x5 x6 x7 => aCmpI ilt x7 x6 h fun x8 h => withBool x8 fun t9 => bc t9 (aIdxAddr 1 x5 x7 h fun x16 h => aLoad x16 h fun x17 h => aLenK 1 x17 h fun x18 h => aArith iadd x4 x18 h fun x19 h => aCmpI ilt x19 (AV.int 3 (Int.ofNat 0)) h fun x20 h => withBool x20 fun t21 => bc t21 (aMkIface 9 (AV.str [108, 101, 110, 32, 111, 117, 116, 32, 111, 102, 32, 114, 97, 110, 103, 101] 16) h fun x22 h => none) ((c_slices_Concat_11b6_j1 F g kc2) [x3, x19, x5, x6, x7] h)) (bindR (c_slices_Grow_11b6 F g (AV.leaf .nils) x4 h) fun x23 h => aLenK 1 x3 h fun x24 h => loopD F (c_slices_Concat_11b6_l2 F g) [x23, x3, x24, (AV.int 3 (Int.ofNat 0))] h)) (hd vs) (hd (tl vs)) (hd (tl (tl vs))) (hd (tl (tl (tl vs)))) (hd (tl (tl (tl (tl vs)))))
noncomputable def c_slices_Concat_11b6 (F g : Nat) (a0 : AV) (h : H) : Option R := aLenK 1 a0 h fun x1 h => loopD F (c_slices_Concat_11b6_l3 F g) [a0, (AV.int 3 (Int.ofNat 0)), a0, x1, (AV.int 3 (Int.ofNat 0))] h
noncomputable def A_slices_Concat_11b6 : An := (.two .o (.two .o (.two (.two .o (.two (.at_ [0, 3, 9, 10, 11] (.two .o (.two (.two .o .o) (.at_ [0, 3, 9, 10, 11] (.two (.two .o (.two .o (.two .o (.two .o .o)))) .o) .o))) .o) .o)) (.two .o (.two (.two .o (.two (.at_ [6, 25, 26, 27] (.two .o (.two (.two .o .o) (.two (.two (.two .o .o) .o) .o))) .o) .o)) (.two .o .o))))))
noncomputable def b_slices_Concat_11b6 : Code := bodyOf Go.Proofs.Try.f195
theorem k_slices_Concat_11b6 (F g : Nat) (a0 : AV) (h : H) : callD Go.Proofs.Try.prog (Env.add (fun _ _ _ => none : Env) 196 (u2 (c_slices_Grow_11b6 F g))) 36 F b_slices_Concat_11b6 [2] A_slices_Concat_11b6 [a0] h = c_slices_Concat_11b6 F g a0 h := by kernel_rfl
theorem s_slices_Concat_11b6 (F g : Nat) : ∀ args h r, u1 (c_slices_Concat_11b6 F g) args h = some r → Tri Go.Proofs.Try.prog 195 args h r := by
  intro args h r e; obtain ⟨a0, rfl, e1⟩ := u1_some e; exact fn_sound Go.Proofs.Try.func195 rfl rfl rfl Go.Proofs.Try.ntmps195 (Sound.add (Sound.none _) (s_slices_Grow_11b6 F g)) ((k_slices_Concat_11b6 F g a0 h).trans e1)

-- "(loop.example/treenumbers/impl.lone).nodes"
noncomputable def c_impl_lone_nodes (F g : Nat) (a0 : AV) (h : H) : Option R := aBox a0 h fun x1 h => aLoadN 0 x1 h fun x2 h => aMkIface 112 x2 h fun x3 h => aBuildSlice 1 1 [(0, 1, x3)] h fun x4 h => some (x4, h)
noncomputable def A_impl_lone_nodes : An := (.two .o (.two .o .o))
noncomputable def b_impl_lone_nodes : Code := bodyOf Go.Proofs.Try.f199
theorem k_impl_lone_nodes (F g : Nat) (a0 : AV) (h : H) : callD Go.Proofs.Try.prog (fun _ _ _ => none : Env) 6 F b_impl_lone_nodes [2] A_impl_lone_nodes [a0] h = c_impl_lone_nodes F g a0 h := by kernel_rfl
theorem s_impl_lone_nodes (F g : Nat) : ∀ args h r, u1 (c_impl_lone_nodes F g) args h = some r → Tri Go.Proofs.Try.prog 199 args h r := by
  intro args h r e; obtain ⟨a0, rfl, e1⟩ := u1_some e; exact fn_sound Go.Proofs.Try.func199 rfl rfl rfl Go.Proofs.Try.ntmps199 (Sound.none _) ((k_impl_lone_nodes F g a0 h).trans e1)

-- "(loop.example/treenumbers/impl.inner).nodes"
noncomputable def c_impl_inner_nodes (F g : Nat) : AV → H → Option R := Nat.rec (motive := fun _ => AV → H → Option R) (fun _ _ => none) (fun g self a0 h => aBox a0 h fun x1 h => (fun (W2 : List (Nat × List AV)) (lo3 : Nat) => (fun h => aLoadN4 2 W2 x1 h fun x4 h => aMkIface 92 x4 h fun x5 _ => bc (okL W2 h) (aField 0 x1 h fun x6 _ => bc (okL W2 h) (aLoad4 W2 x6 h fun x7 h => dInv (Env.add (Env.add (Env.add (fun _ _ _ => none : Env) 75 (u1 (c_impl_node_nodes F g))) 193 (u1 self)) 199 (u1 (c_impl_lone_nodes F g))) [(58, 75), (92, 193), (112, 199)] x7 [] h fun x8 h => bc (okL W2 h) (aField 1 x1 h fun x9 _ => bc (okL W2 h) (aLoad4 W2 x9 h fun x10 h => dInv (Env.add (Env.add (Env.add (fun _ _ _ => none : Env) 75 (u1 (c_impl_node_nodes F g))) 193 (u1 self)) 199 (u1 (c_impl_lone_nodes F g))) [(58, 75), (92, 193), (112, 199)] x10 [] h fun x11 h => bc (okL W2 h) (aBuildSlice 1 1 [(0, 1, x5)] h fun x12 h => bc (okL W2 h) (aBuildSlice 3 1 [(0, 1, x12), (1, 1, x8), (2, 1, x11)] h fun x13 h => bc (okL W2 h) (bindR (c_slices_Concat_11b6 F g x13 h) fun x14 h => bc (okL W2 h) (bc (okL W2 h) ((fun h => some (x14, h)) (H.unmark h lo3)) none) none) none) none) none) none) none) none) none) (H.mark h)) (watchP h [x1, x1, (AV.leaf .undef), x1, (AV.leaf .undef)]) h.lo) g
noncomputable def A_impl_inner_nodes : An := (.two .o (.two (.at_ [0, 1, 3, 4, 5, 6, 7, 8, 2, 9, 10, 11] .o .o) .o))
noncomputable def b_impl_inner_nodes : Code := bodyOf Go.Proofs.Try.f193
theorem k_impl_inner_nodes (F g : Nat) (a0 : AV) (h : H) : callD Go.Proofs.Try.prog (Env.add (Env.add (Env.add (Env.add (fun _ _ _ => none : Env) 75 (u1 (c_impl_node_nodes F g))) 199 (u1 (c_impl_lone_nodes F g))) 195 (u1 (c_slices_Concat_11b6 F g))) 193 (u1 (c_impl_inner_nodes F g))) 14 F b_impl_inner_nodes [2] A_impl_inner_nodes [a0] h = c_impl_inner_nodes F (g + 1) a0 h := by kernel_rfl
theorem s_impl_inner_nodes (F g : Nat) : ∀ args h r, u1 (c_impl_inner_nodes F g) args h = some r → Tri Go.Proofs.Try.prog 193 args h r := by
  induction g with
  | zero => intro args h r e; obtain ⟨a0, rfl, e⟩ := u1_some e; cases e
  | succ g ih => intro args h r e; obtain ⟨a0, rfl, e1⟩ := u1_some e; exact fn_sound Go.Proofs.Try.func193 rfl rfl rfl Go.Proofs.Try.ntmps193 (Sound.add (Sound.add (Sound.add (Sound.add (Sound.none _) (s_impl_node_nodes F g)) (s_impl_lone_nodes F g)) (s_slices_Concat_11b6 F g)) ih) ((k_impl_inner_nodes F g a0 h).trans e1)

-- "loop.example/treenumbers/impl.sumOfInner"
noncomputable abbrev D_impl_sumOfInner (F g : Nat) (E : Env) : Env := E
noncomputable abbrev G_impl_sumOfInner (F g : Nat) (E : Env) : Env := (Env.add (Env.add (Env.add (Env.add (D_impl_sumOfInner F g E) 87 (u1 (c_impl_readPairs F g))) 75 (u1 (c_impl_node_nodes F g))) 193 (u1 (c_impl_inner_nodes F g))) 199 (u1 (c_impl_lone_nodes F g)))
noncomputable def c_impl_sumOfInner_j1 (F g : Nat) (kc8 : List AV → H → Option R) (vs : List AV) (h : H) : Option R := (fun x16 x17 x18 x19 x20 => aArith iadd x20 (AV.int 3 (Int.ofNat 1)) h fun x21 h => kc8 [x16, x17, x18, x19, x21] h) (hd vs) (hd (tl vs)) (hd (tl (tl vs))) (hd (tl (tl (tl vs)))) (hd (tl (tl (tl (tl vs)))))
noncomputable def c_impl_sumOfInner_l2 (F g : Nat) (E : Env) : List AV → H → (List AV → H → Option R) → Option R := fun vs h kc8 => (fun x9 x10 x11 x12 x13 => aCmpI ilt x13 x12 h fun x14 h => withBool x14 fun t15 => bc t15 (aIdxAddr 1 x11 x13 h fun x22 h => aLoad x22 h fun x23 h => aAssertC true 92 (AV.one .agg (AV.cons (AV.leaf .nili) (AV.cons (AV.leaf .nili) (AV.leaf .nil)))) x23 h fun x24 h => aExtract x24 0 h fun x25 h => aExtract x24 1 h fun x26 h => aAlloc [(AV.leaf .nili), (AV.leaf .nili)] h fun x27 h => aStoreN 2 x27 x25 h fun x28 h => withBool x26 fun t29 => bc t29 (aLoadN 2 x27 h fun x30 h => dCall (G_impl_sumOfInner F g E) x9 [x30] h fun x31 h => aArith iadd x10 x31 h fun x32 h => (c_impl_sumOfInner_j1 F g kc8) [x9, x32, x11, x12, x13] h) ((c_impl_sumOfInner_j1 F g kc8) [x9, x10, x11, x12, x13] h)) (some (AV.one .tup (AV.cons x10 (AV.cons (AV.bool true) (AV.leaf .nil))), h))) (hd vs) (hd (tl vs)) (hd (tl (tl vs))) (hd (tl (tl (tl vs)))) (hd (tl (tl (tl (tl vs)))))
noncomputable def c_impl_sumOfInner (F g : Nat) (E : Env) (a0 a1 : AV) (h : H) : Option R := bindR (c_impl_readPairs F g a0 h) fun x1 h => aExtract x1 0 h fun x2 h => aExtract x1 1 h fun x3 h => aNot x3 h fun x4 h => withBool x4 fun t5 => bc t5 (some (AV.one .tup (AV.cons (AV.int 3 (Int.ofNat 0)) (AV.cons (AV.bool false) (AV.leaf .nil))), h)) (dInv (G_impl_sumOfInner F g E) [(58, 75), (92, 193), (112, 199)] x2 [] h fun x6 h => aLenK 1 x6 h fun x7 h => loopD F (c_impl_sumOfInner_l2 F g E) [a1, (AV.int 3 (Int.ofNat 0)), x6, x7, (AV.int 3 (Int.ofNat 0))] h)
noncomputable def A_impl_sumOfInner : An := (.two .o (.two .o (.two (.two .o (.two (.two .o .o) .o)) (.two .o (.two (.two .o (.two (.at_ [1, 8, 21, 22, 23] (.two .o (.two (.two .o .o) (.at_ [1, 8, 21, 22, 23] (.two (.two .o (.two .o (.two .o (.two .o .o)))) .o) .o))) .o) .o)) (.two .o .o))))))
noncomputable def b_impl_sumOfInner : Code := bodyOf Go.Proofs.Try.f103
theorem k_impl_sumOfInner (F g : Nat) (E : Env) (a0 a1 : AV) (h : H) : callD Go.Proofs.Try.prog (G_impl_sumOfInner F g E) 40 F b_impl_sumOfInner [4, 5] A_impl_sumOfInner [a0, a1] h = c_impl_sumOfInner F g E a0 a1 h := by kernel_rfl
theorem s_impl_sumOfInner (F g : Nat) (E : Env) (hE : Sound Go.Proofs.Try.prog E) : ∀ args h r, u2 (c_impl_sumOfInner F g E) args h = some r → Tri Go.Proofs.Try.prog 103 args h r := by
  intro args h r e; obtain ⟨a0, a1, rfl, e1⟩ := u2_some e; exact fn_sound Go.Proofs.Try.func103 rfl rfl rfl Go.Proofs.Try.ntmps103 (Sound.add (Sound.add (Sound.add (Sound.add hE (s_impl_readPairs F g)) (s_impl_node_nodes F g)) (s_impl_inner_nodes F g)) (s_impl_lone_nodes F g)) ((k_impl_sumOfInner F g E a0 a1 h).trans e1)

-- "(loop.example/treenumbers/impl.lone).leaves"
noncomputable def c_impl_lone_leaves (F g : Nat) (a0 : AV) (h : H) : Option R := aBox a0 h fun x1 h => some ((AV.int 3 (Int.ofNat 1)), h)
noncomputable def A_impl_lone_leaves : An := (.two .o (.two .o .o))
noncomputable def b_impl_lone_leaves : Code := bodyOf Go.Proofs.Try.f198
theorem k_impl_lone_leaves (F g : Nat) (a0 : AV) (h : H) : callD Go.Proofs.Try.prog (fun _ _ _ => none : Env) 3 F b_impl_lone_leaves [2] A_impl_lone_leaves [a0] h = c_impl_lone_leaves F g a0 h := by kernel_rfl
theorem s_impl_lone_leaves (F g : Nat) : ∀ args h r, u1 (c_impl_lone_leaves F g) args h = some r → Tri Go.Proofs.Try.prog 198 args h r := by
  intro args h r e; obtain ⟨a0, rfl, e1⟩ := u1_some e; exact fn_sound Go.Proofs.Try.func198 rfl rfl rfl Go.Proofs.Try.ntmps198 (Sound.none _) ((k_impl_lone_leaves F g a0 h).trans e1)

-- "(loop.example/treenumbers/impl.inner).leaves"
noncomputable def c_impl_inner_leaves (F g : Nat) : AV → H → Option R := Nat.rec (motive := fun _ => AV → H → Option R) (fun _ _ => none) (fun g self a0 h => aBox a0 h fun x1 h => aField 0 x1 h fun x2 _ => aLoad x2 h fun x3 _ => dInvF (Env.add (Env.add (fun _ _ _ => none : Env) 106 (u1 self)) 198 (u1 (c_impl_lone_leaves F g))) [(92, 106), (112, 198)] x3 [] h fun x4 _ => aField 1 x1 h fun x5 _ => aLoad x5 h fun x6 _ => dInvF (Env.add (Env.add (fun _ _ _ => none : Env) 106 (u1 self)) 198 (u1 (c_impl_lone_leaves F g))) [(92, 106), (112, 198)] x6 [] h fun x7 _ => aArith iadd x4 x7 h fun x8 _ => some (x8, h)) g
noncomputable def A_impl_inner_leaves : An := (.two .o (.two .o .o))
noncomputable def b_impl_inner_leaves : Code := bodyOf Go.Proofs.Try.f106
theorem k_impl_inner_leaves (F g : Nat) (a0 : AV) (h : H) : callD Go.Proofs.Try.prog (Env.add (Env.add (fun _ _ _ => none : Env) 198 (u1 (c_impl_lone_leaves F g))) 106 (u1 (c_impl_inner_leaves F g))) 10 F b_impl_inner_leaves [2] A_impl_inner_leaves [a0] h = c_impl_inner_leaves F (g + 1) a0 h := by kernel_rfl
theorem s_impl_inner_leaves (F g : Nat) : ∀ args h r, u1 (c_impl_inner_leaves F g) args h = some r → Tri Go.Proofs.Try.prog 106 args h r := by
  induction g with
  | zero => intro args h r e; obtain ⟨a0, rfl, e⟩ := u1_some e; cases e
  | succ g ih => intro args h r e; obtain ⟨a0, rfl, e1⟩ := u1_some e; exact fn_sound Go.Proofs.Try.func106 rfl rfl rfl Go.Proofs.Try.ntmps106 (Sound.add (Sound.add (Sound.none _) (s_impl_lone_leaves F g)) ih) ((k_impl_inner_leaves F g a0 h).trans e1)

-- "(loop.example/treenumbers/impl.inner).uneven"
noncomputable def c_impl_inner_uneven (F g : Nat) (a0 : AV) (h : H) : Option R := aBox a0 h fun x1 h => aField 0 x1 h fun x2 _ => aLoad x2 h fun x3 _ => dInvF (Env.add (Env.add (fun _ _ _ => none : Env) 106 (u1 (c_impl_inner_leaves F g))) 198 (u1 (c_impl_lone_leaves F g))) [(92, 106), (112, 198)] x3 [] h fun x4 _ => aField 1 x1 h fun x5 _ => aLoad x5 h fun x6 _ => dInvF (Env.add (Env.add (fun _ _ _ => none : Env) 106 (u1 (c_impl_inner_leaves F g))) 198 (u1 (c_impl_lone_leaves F g))) [(92, 106), (112, 198)] x6 [] h fun x7 _ => aMM true x4 x7 h fun x8 h => aMM false x4 x7 h fun x9 h => aArith isub x8 x9 h fun x10 h => some (x10, h)
noncomputable def A_impl_inner_uneven : An := (.two .o (.two .o (.two .o .o)))
noncomputable def b_impl_inner_uneven : Code := bodyOf Go.Proofs.Try.f104
theorem k_impl_inner_uneven (F g : Nat) (a0 : AV) (h : H) : callD Go.Proofs.Try.prog (Env.add (Env.add (fun _ _ _ => none : Env) 106 (u1 (c_impl_inner_leaves F g))) 198 (u1 (c_impl_lone_leaves F g))) 18 F b_impl_inner_uneven [2] A_impl_inner_uneven [a0] h = c_impl_inner_uneven F g a0 h := by kernel_rfl
theorem s_impl_inner_uneven (F g : Nat) : ∀ args h r, u1 (c_impl_inner_uneven F g) args h = some r → Tri Go.Proofs.Try.prog 104 args h r := by
  intro args h r e; obtain ⟨a0, rfl, e1⟩ := u1_some e; exact fn_sound Go.Proofs.Try.func104 rfl rfl rfl Go.Proofs.Try.ntmps104 (Sound.add (Sound.add (Sound.none _) (s_impl_inner_leaves F g)) (s_impl_lone_leaves F g)) ((k_impl_inner_uneven F g a0 h).trans e1)

-- "loop.example/treenumbers/impl.PairUneven"
noncomputable abbrev D_impl_PairUneven (F g : Nat) : Env := (Env.add (fun _ _ _ => none : Env) 104 (u1 (c_impl_inner_uneven F g)))
noncomputable def c_impl_PairUneven (F g : Nat) (a0 : AV) (h : H) : Option R := bindR (c_impl_sumOfInner F g (D_impl_PairUneven F g) a0 (AV.func (.func 104) (AV.leaf .nil) (AV.leaf .nil)) h) fun x1 h => aExtract x1 0 h fun x2 h => aExtract x1 1 h fun x3 h => some (AV.one .tup (AV.cons x2 (AV.cons x3 (AV.leaf .nil))), h)
noncomputable def A_impl_PairUneven : An := (.two .o (.two .o .o))
noncomputable def b_impl_PairUneven : Code := bodyOf Go.Proofs.Try.f58
theorem k_impl_PairUneven (F g : Nat) (a0 : AV) (h : H) : callD Go.Proofs.Try.prog (Env.add (D_impl_PairUneven F g) 103 (u2 (c_impl_sumOfInner F g (D_impl_PairUneven F g)))) 8 F b_impl_PairUneven [2, 3] A_impl_PairUneven [a0] h = c_impl_PairUneven F g a0 h := by kernel_rfl
theorem s_impl_PairUneven (F g : Nat) : ∀ args h r, u1 (c_impl_PairUneven F g) args h = some r → Tri Go.Proofs.Try.prog 58 args h r := by
  intro args h r e; obtain ⟨a0, rfl, e1⟩ := u1_some e; exact fn_sound Go.Proofs.Try.func58 rfl rfl rfl Go.Proofs.Try.ntmps58 (Sound.add (Sound.add (Sound.none _) (s_impl_inner_uneven F g)) (s_impl_sumOfInner F g (D_impl_PairUneven F g) (Sound.add (Sound.none _) (s_impl_inner_uneven F g)))) ((k_impl_PairUneven F g a0 h).trans e1)

-- "loop.example/treenumbers/spec.l1End"
noncomputable def c_spec_l1End_j1 (F g : Nat) (kc1 : List AV → H → Option R) (vs : List AV) (h : H) : Option R := (fun x8 x9 x10 => aCmpI ieq x9 (AV.int 3 (Int.ofNat 0)) h fun x11 h => withBool x11 fun t12 => bc t12 (aArith iadd x10 (AV.int 3 (Int.ofNat 1)) h fun x13 h => some (x13, h)) (aCmpI ilt x9 (AV.int 3 (Int.ofNat 0)) h fun x14 h => withBool x14 fun t15 => bc t15 (some ((AV.int 3 (Int.negSucc 0)), h)) (aArith iadd x10 (AV.int 3 (Int.ofNat 1)) h fun x16 h => kc1 [x8, x9, x16] h))) (hd vs) (hd (tl vs)) (hd (tl (tl vs)))
noncomputable def c_spec_l1End_l2 (F g : Nat) : List AV → H → (List AV → H → Option R) → Option R := fun vs h kc1 => (fun x2 x3 x4 => aLenK 0 x2 h fun x5 h => aCmpI ilt x4 x5 h fun x6 h => withBool x6 fun t7 => bc t7 (aIdxStr x2 x4 h fun x17 h => aCmpI ieq x17 (AV.int 4 (Int.ofNat 40)) h fun x18 h => withBool x18 fun t19 => bc t19 (aArith iadd x3 (AV.int 3 (Int.ofNat 1)) h fun x20 h => (c_spec_l1End_j1 F g kc1) [x2, x20, x4] h) (aCmpI ieq x17 (AV.int 4 (Int.ofNat 41)) h fun x21 h => withBool x21 fun t22 => bc t22 (aArith isub x3 (AV.int 3 (Int.ofNat 1)) h fun x23 h => (c_spec_l1End_j1 F g kc1) [x2, x23, x4] h) (some ((AV.int 3 (Int.negSucc 0)), h)))) (some ((AV.int 3 (Int.negSucc 0)), h))) (hd vs) (hd (tl vs)) (hd (tl (tl vs)))
noncomputable def c_spec_l1End (F g : Nat) (a0 a1 : AV) (h : H) : Option R := loopD F (c_spec_l1End_l2 F g) [a0, (AV.int 3 (Int.ofNat 0)), a1] h
noncomputable def A_spec_l1End : An := (.two .o (.two .o (.two (.two .o (.two (.at_ [0, 5, 6] (.two (.two .o (.two .o .o)) (.two (.two (.at_ [0, 5, 6] (.two .o (.two (.two .o (.two .o (.two .o (.two .o (.two .o .o))))) .o)) (.two (.two .o (.two (.two .o .o) .o)) (.two .o (.two (.two .o .o) .o)))) .o) .o)) .o) .o)) (.two .o .o))))
noncomputable def b_spec_l1End : Code := bodyOf Go.Proofs.Try.f113
theorem k_spec_l1End (F g : Nat) (a0 a1 : AV) (h : H) : callD Go.Proofs.Try.prog (fun _ _ _ => none : Env) 31 F b_spec_l1End [4] A_spec_l1End [a0, a1] h = c_spec_l1End F g a0 a1 h := by kernel_rfl
theorem s_spec_l1End (F g : Nat) : ∀ args h r, u2 (c_spec_l1End F g) args h = some r → Tri Go.Proofs.Try.prog 113 args h r := by
  intro args h r e; obtain ⟨a0, a1, rfl, e1⟩ := u2_some e; exact fn_sound Go.Proofs.Try.func113 rfl rfl rfl Go.Proofs.Try.ntmps113 (Sound.none _) ((k_spec_l1End F g a0 a1 h).trans e1)

-- "loop.example/treenumbers/spec.l1Kids"
noncomputable def c_spec_l1Kids_l1 (F g : Nat) : List AV → H → (List AV → H → Option R) → Option R := fun vs h kc2 => (fun x3 x4 x5 => aLenK 0 x3 h fun x6 h => aArith isub x6 (AV.int 3 (Int.ofNat 1)) h fun x7 h => aCmpI ilt x5 x7 h fun x8 h => withBool x8 fun t9 => bc t9 (bindR (c_spec_l1End F g x3 x5 h) fun x10 h => aSliceS x3 (some x5) (some x10) none h fun x11 h => aBuildSlice 1 1 [(0, 1, x11)] h fun x12 h => aAppend 1 16 x4 x12 h fun x13 h => kc2 [x3, x13, x10] h) (some (x4, h))) (hd vs) (hd (tl vs)) (hd (tl (tl vs)))
noncomputable def c_spec_l1Kids (F g : Nat) (a0 : AV) (h : H) : Option R := aBuildSlice 0 1 [] h fun x1 h => loopD F (c_spec_l1Kids_l1 F g) [a0, x1, (AV.int 3 (Int.ofNat 1))] h
noncomputable def A_spec_l1Kids : An := (.two .o (.two .o (.two .o (.two (.two (.at_ [0, 3, 4] (.two (.two .o (.two .o .o)) (.two (.two .o (.two .o .o)) .o)) .o) .o) (.two .o .o)))))
noncomputable def b_spec_l1Kids : Code := bodyOf Go.Proofs.Try.f93
theorem k_spec_l1Kids (F g : Nat) (a0 : AV) (h : H) : callD Go.Proofs.Try.prog (Env.add (fun _ _ _ => none : Env) 113 (u2 (c_spec_l1End F g))) 24 F b_spec_l1Kids [2] A_spec_l1Kids [a0] h = c_spec_l1Kids F g a0 h := by kernel_rfl
theorem s_spec_l1Kids (F g : Nat) : ∀ args h r, u1 (c_spec_l1Kids F g) args h = some r → Tri Go.Proofs.Try.prog 93 args h r := by
  intro args h r e; obtain ⟨a0, rfl, e1⟩ := u1_some e; exact fn_sound Go.Proofs.Try.func93 rfl rfl rfl Go.Proofs.Try.ntmps93 (Sound.add (Sound.none _) (s_spec_l1End F g)) ((k_spec_l1Kids F g a0 h).trans e1)

-- "loop.example/treenumbers/spec.l8In"
noncomputable def c_spec_l8In_j1 (F g : Nat) (vs : List AV) (h : H) : Option R := (fun x16 x17 => aPick x16 (AV.bool true) x17 h fun x18 h => some (x18, h)) (hd vs) (hd (tl vs))
noncomputable def c_spec_l8In_l2 (F g : Nat) (self : AV → H → Option R) : List AV → H → (List AV → H → Option R) → Option R := fun vs h kc2 => (fun x3 x4 => aLenK 1 x3 h fun x5 h => aCmpI ilt x4 x5 h fun x6 h => withBool x6 fun t7 => bc t7 (aIdxAddr 1 x3 x4 h fun x8 h => aLoad x8 h fun x9 h => bindR (self x9 h) fun x10 h => aNot x10 h fun x11 h => withBool x11 fun t12 => bc t12 (some ((AV.bool false), h)) (aArith iadd x4 (AV.int 3 (Int.ofNat 1)) h fun x13 h => kc2 [x3, x13] h)) (aLenK 1 x3 h fun x14 h => aCmpI ieq x14 (AV.int 3 (Int.ofNat 0)) h fun x15 h => guardB false x15 (aLenK 1 x3 h fun x19 h => aCmpI ieq x19 (AV.int 3 (Int.ofNat 2)) h fun x20 h => (c_spec_l8In_j1 F g) [x15, x20] h) ((c_spec_l8In_j1 F g) [x15, (AV.one .tup (AV.leaf .nil))] h))) (hd vs) (hd (tl vs))
noncomputable def c_spec_l8In (F g : Nat) : AV → H → Option R := Nat.rec (motive := fun _ => AV → H → Option R) (fun _ _ => none) (fun g self a0 h => bindR (c_spec_l1Kids F g a0 h) fun x1 h => loopD F (c_spec_l8In_l2 F g self) [x1, (AV.int 3 (Int.ofNat 0))] h) g
noncomputable def A_spec_l8In : An := (.two .o (.two .o (.two (.two .o (.two (.at_ [3, 4] (.two (.two .o (.two .o .o)) (.two (.two (.two .o (.two (.two .o .o) .o)) .o) .o)) .o) .o)) (.two (.at_ [22, 25] .o .o) .o))))
noncomputable def b_spec_l8In : Code := bodyOf Go.Proofs.Try.f88
theorem k_spec_l8In (F g : Nat) (a0 : AV) (h : H) : callD Go.Proofs.Try.prog (Env.add (Env.add (fun _ _ _ => none : Env) 93 (u1 (c_spec_l1Kids F g))) 88 (u1 (c_spec_l8In F g))) 27 F b_spec_l8In [2] A_spec_l8In [a0] h = c_spec_l8In F (g + 1) a0 h := by kernel_rfl
theorem s_spec_l8In (F g : Nat) : ∀ args h r, u1 (c_spec_l8In F g) args h = some r → Tri Go.Proofs.Try.prog 88 args h r := by
  induction g with
  | zero => intro args h r e; obtain ⟨a0, rfl, e⟩ := u1_some e; cases e
  | succ g ih => intro args h r e; obtain ⟨a0, rfl, e1⟩ := u1_some e; exact fn_sound Go.Proofs.Try.func88 rfl rfl rfl Go.Proofs.Try.ntmps88 (Sound.add (Sound.add (Sound.none _) (s_spec_l1Kids F g)) ih) ((k_spec_l8In F g a0 h).trans e1)

-- "loop.example/treenumbers/spec.PairIn"
noncomputable def c_spec_PairIn_j1 (F g : Nat) (vs : List AV) (h : H) : Option R := (fun x2 x3 => aPick x2 x3 (AV.bool false) h fun x4 h => some (x4, h)) (hd vs) (hd (tl vs))
noncomputable def c_spec_PairIn (F g : Nat) (a0 : AV) (h : H) : Option R := bindR (c_spec_TreeIn F g a0 h) fun x1 h => guardB true x1 (bindR (c_spec_l8In F g a0 h) fun x5 h => (c_spec_PairIn_j1 F g) [x1, x5] h) ((c_spec_PairIn_j1 F g) [x1, (AV.one .tup (AV.leaf .nil))] h)
noncomputable def A_spec_PairIn : An := (.two .o (.two (.at_ [5, 7] .o .o) .o))
noncomputable def b_spec_PairIn : Code := bodyOf Go.Proofs.Try.f39
theorem k_spec_PairIn (F g : Nat) (a0 : AV) (h : H) : callD Go.Proofs.Try.prog (Env.add (Env.add (fun _ _ _ => none : Env) 68 (u1 (c_spec_TreeIn F g))) 88 (u1 (c_spec_l8In F g))) 9 F b_spec_PairIn [2] A_spec_PairIn [a0] h = c_spec_PairIn F g a0 h := by kernel_rfl
theorem s_spec_PairIn (F g : Nat) : ∀ args h r, u1 (c_spec_PairIn F g) args h = some r → Tri Go.Proofs.Try.prog 39 args h r := by
  intro args h r e; obtain ⟨a0, rfl, e1⟩ := u1_some e; exact fn_sound Go.Proofs.Try.func39 rfl rfl rfl Go.Proofs.Try.ntmps39 (Sound.add (Sound.add (Sound.none _) (s_spec_TreeIn F g)) (s_spec_l8In F g)) ((k_spec_PairIn F g a0 h).trans e1)

-- "loop.example/treenumbers/spec.l1Leaves"
noncomputable def c_spec_l1Leaves_j1 (F g : Nat) (kc1 : List AV → H → Option R) (vs : List AV) (h : H) : Option R := (fun x9 x10 x11 => aArith iadd x11 (AV.int 3 (Int.ofNat 1)) h fun x12 h => kc1 [x9, x10, x12] h) (hd vs) (hd (tl vs)) (hd (tl (tl vs)))
noncomputable def c_spec_l1Leaves_j2 (F g : Nat) (kc1 : List AV → H → Option R) (vs : List AV) (h : H) : Option R := (fun x15 x16 x17 x18 x19 => aPick x18 x19 (AV.bool false) h fun x20 h => withBool x20 fun t21 => bc t21 (aArith iadd x16 (AV.int 3 (Int.ofNat 1)) h fun x22 h => (c_spec_l1Leaves_j1 F g kc1) [x15, x22, x17] h) ((c_spec_l1Leaves_j1 F g kc1) [x15, x16, x17] h)) (hd vs) (hd (tl vs)) (hd (tl (tl vs))) (hd (tl (tl (tl vs)))) (hd (tl (tl (tl (tl vs)))))
noncomputable def c_spec_l1Leaves_l3 (F g : Nat) : List AV → H → (List AV → H → Option R) → Option R := fun vs h kc1 => (fun x2 x3 x4 => aArith iadd x4 (AV.int 3 (Int.ofNat 1)) h fun x5 h => aLenK 0 x2 h fun x6 h => aCmpI ilt x5 x6 h fun x7 h => withBool x7 fun t8 => bc t8 (aIdxStr x2 x4 h fun x13 h => aCmpI ieq x13 (AV.int 4 (Int.ofNat 40)) h fun x14 h => guardB true x14 (aArith iadd x4 (AV.int 3 (Int.ofNat 1)) h fun x23 h => aIdxStr x2 x23 h fun x24 h => aCmpI ieq x24 (AV.int 4 (Int.ofNat 41)) h fun x25 h => (c_spec_l1Leaves_j2 F g kc1) [x2, x3, x4, x14, x25] h) ((c_spec_l1Leaves_j2 F g kc1) [x2, x3, x4, x14, (AV.one .tup (AV.leaf .nil))] h)) (some (x3, h))) (hd vs) (hd (tl vs)) (hd (tl (tl vs)))
noncomputable def c_spec_l1Leaves (F g : Nat) (a0 : AV) (h : H) : Option R := loopD F (c_spec_l1Leaves_l3 F g) [a0, (AV.int 3 (Int.ofNat 0)), (AV.int 3 (Int.ofNat 0))] h
noncomputable def A_spec_l1Leaves : An := (.two .o (.two .o (.two (.two .o (.two (.at_ [0, 3, 4] (.two (.two .o (.two .o .o)) (.at_ [0, 3, 4] (.two (.two (.at_ [0, 3, 4, 16, 21] .o .o) (.two .o .o)) .o) .o)) .o) .o)) (.two .o .o))))
noncomputable def b_spec_l1Leaves : Code := bodyOf Go.Proofs.Try.f136
theorem k_spec_l1Leaves (F g : Nat) (a0 : AV) (h : H) : callD Go.Proofs.Try.prog (fun _ _ _ => none : Env) 26 F b_spec_l1Leaves [2] A_spec_l1Leaves [a0] h = c_spec_l1Leaves F g a0 h := by kernel_rfl
theorem s_spec_l1Leaves (F g : Nat) : ∀ args h r, u1 (c_spec_l1Leaves F g) args h = some r → Tri Go.Proofs.Try.prog 136 args h r := by
  intro args h r e; obtain ⟨a0, rfl, e1⟩ := u1_some e; exact fn_sound Go.Proofs.Try.func136 rfl rfl rfl Go.Proofs.Try.ntmps136 (Sound.none _) ((k_spec_l1Leaves F g a0 h).trans e1)

-- "loop.example/treenumbers/spec.l8Uneven"
noncomputable def c_spec_l8Uneven (F g : Nat) : AV → H → Option R := Nat.rec (motive := fun _ => AV → H → Option R) (fun _ _ => none) (fun g self a0 h => bindR (c_spec_l1Kids F g a0 h) fun x1 h => aLenK 1 x1 h fun x2 h => aCmpI ieq x2 (AV.int 3 (Int.ofNat 0)) h fun x3 h => withBool x3 fun t4 => bc t4 (some ((AV.int 3 (Int.ofNat 0)), h)) (aIdxAddr 1 x1 (AV.int 3 (Int.ofNat 0)) h fun x5 _ => aLoad x5 h fun x6 _ => bindF (c_spec_l1Leaves F g x6 h.mark) h fun x7 _ => aIdxAddr 1 x1 (AV.int 3 (Int.ofNat 1)) h fun x8 _ => aLoad x8 h fun x9 _ => bindF (c_spec_l1Leaves F g x9 h.mark) h fun x10 _ => aArith isub x7 x10 h fun x11 _ => aArith isub (AV.int 3 (Int.ofNat 0)) x11 h fun x12 _ => aMM true x11 x12 h fun x13 _ => aIdxAddr 1 x1 (AV.int 3 (Int.ofNat 0)) h fun x14 _ => aLoad x14 h fun x15 _ => bindF (self x15 h.mark) h fun x16 _ => aArith iadd x13 x16 h fun x17 _ => aIdxAddr 1 x1 (AV.int 3 (Int.ofNat 1)) h fun x18 _ => aLoad x18 h fun x19 _ => bindF (self x19 h.mark) h fun x20 _ => aArith iadd x17 x20 h fun x21 _ => some (x21, h))) g
noncomputable def A_spec_l8Uneven : An := (.two .o (.two .o (.two (.two .o (.two (.two .o .o) .o)) (.two .o (.two .o .o)))))
noncomputable def b_spec_l8Uneven : Code := bodyOf Go.Proofs.Try.f105
theorem k_spec_l8Uneven (F g : Nat) (a0 : AV) (h : H) : callD Go.Proofs.Try.prog (Env.add (Env.add (Env.add (fun _ _ _ => none : Env) 93 (u1 (c_spec_l1Kids F g))) 136 (u1 (c_spec_l1Leaves F g))) 105 (u1 (c_spec_l8Uneven F g))) 33 F b_spec_l8Uneven [2] A_spec_l8Uneven [a0] h = c_spec_l8Uneven F (g + 1) a0 h := by kernel_rfl
theorem s_spec_l8Uneven (F g : Nat) : ∀ args h r, u1 (c_spec_l8Uneven F g) args h = some r → Tri Go.Proofs.Try.prog 105 args h r := by
  induction g with
  | zero => intro args h r e; obtain ⟨a0, rfl, e⟩ := u1_some e; cases e
  | succ g ih => intro args h r e; obtain ⟨a0, rfl, e1⟩ := u1_some e; exact fn_sound Go.Proofs.Try.func105 rfl rfl rfl Go.Proofs.Try.ntmps105 (Sound.add (Sound.add (Sound.add (Sound.none _) (s_spec_l1Kids F g)) (s_spec_l1Leaves F g)) ih) ((k_spec_l8Uneven F g a0 h).trans e1)

-- "loop.example/treenumbers/spec.PairUneven"
noncomputable def c_spec_PairUneven (F g : Nat) (a0 : AV) (h : H) : Option R := bindR (c_spec_PairIn F g a0 h) fun x1 h => aNot x1 h fun x2 h => withBool x2 fun t3 => bc t3 (some (AV.one .tup (AV.cons (AV.int 3 (Int.ofNat 0)) (AV.cons (AV.bool false) (AV.leaf .nil))), h)) (bindR (c_spec_l8Uneven F g a0 h) fun x4 h => some (AV.one .tup (AV.cons x4 (AV.cons (AV.bool true) (AV.leaf .nil))), h))
noncomputable def A_spec_PairUneven : An := (.two .o (.two (.two .o (.two (.two .o .o) .o)) (.two .o .o)))
noncomputable def b_spec_PairUneven : Code := bodyOf Go.Proofs.Try.f59
theorem k_spec_PairUneven (F g : Nat) (a0 : AV) (h : H) : callD Go.Proofs.Try.prog (Env.add (Env.add (fun _ _ _ => none : Env) 39 (u1 (c_spec_PairIn F g))) 105 (u1 (c_spec_l8Uneven F g))) 9 F b_spec_PairUneven [2, 3] A_spec_PairUneven [a0] h = c_spec_PairUneven F g a0 h := by kernel_rfl
theorem s_spec_PairUneven (F g : Nat) : ∀ args h r, u1 (c_spec_PairUneven F g) args h = some r → Tri Go.Proofs.Try.prog 59 args h r := by
  intro args h r e; obtain ⟨a0, rfl, e1⟩ := u1_some e; exact fn_sound Go.Proofs.Try.func59 rfl rfl rfl Go.Proofs.Try.ntmps59 (Sound.add (Sound.add (Sound.none _) (s_spec_PairIn F g)) (s_spec_l8Uneven F g)) ((k_spec_PairUneven F g a0 h).trans e1)

-- "slices.Reverse[[]*loop.example/treenumbers/impl.node,*loop.example/treenumbers/impl.node]"
noncomputable def c_slices_Reverse_4168_l1 (F g : Nat) : List AV → H → (List AV → H → Option R) → Option R := fun vs h kc3 => (fun x4 x5 x6 => aCmpI ilt x5 x6 h fun x7 h => withBool x7 fun t8 => bc t8 (aIdxAddr 1 x4 x6 h fun x9 _ => aLoad x9 h fun x10 _ => aIdxAddr 1 x4 x5 h fun x11 _ => aLoad x11 h fun x12 _ => aIdxAddr 1 x4 x5 h fun x13 _ => aStore x13 x10 h fun x14 h => aIdxAddr 1 x4 x6 h fun x15 _ => aStore x15 x12 h fun x16 h => aArith iadd x5 (AV.int 3 (Int.ofNat 1)) h fun x17 h => aArith isub x6 (AV.int 3 (Int.ofNat 1)) h fun x18 h => kc3 [x4, x17, x18] h) (some (AV.one .tup (AV.leaf .nil), h))) (hd vs) (hd (tl vs)) (hd (tl (tl vs)))
noncomputable def c_slices_Reverse_4168 (F g : Nat) (a0 : AV) (h : H) : Option R := aLenK 1 a0 h fun x1 h => aArith isub x1 (AV.int 3 (Int.ofNat 1)) h fun x2 h => loopD F (c_slices_Reverse_4168_l1 F g) [a0, (AV.int 3 (Int.ofNat 0)), x2] h
noncomputable def A_slices_Reverse_4168 : An := (.two .o (.two (.at_ [0, 2, 3] (.two (.two .o (.two .o .o)) (.two (.two .o .o) .o)) .o) .o))
noncomputable def b_slices_Reverse_4168 : Code := bodyOf Go.Proofs.Try.f123
theorem k_slices_Reverse_4168 (F g : Nat) (a0 : AV) (h : H) : callD Go.Proofs.Try.prog (fun _ _ _ => none : Env) 28 F b_slices_Reverse_4168 [] A_slices_Reverse_4168 [a0] h = c_slices_Reverse_4168 F g a0 h := by kernel_rfl
theorem s_slices_Reverse_4168 (F g : Nat) : ∀ args h r, u1 (c_slices_Reverse_4168 F g) args h = some r → Tri Go.Proofs.Try.prog 123 args h r := by
  intro args h r e; obtain ⟨a0, rfl, e1⟩ := u1_some e; exact fn_sound Go.Proofs.Try.func123 rfl rfl rfl Go.Proofs.Try.ntmps123 (Sound.none _) ((k_slices_Reverse_4168 F g a0 h).trans e1)

-- "(*loop.example/treenumbers/impl.node).turn"
noncomputable def c_impl_node_turn_l1 (F g : Nat) (self : AV → H → Option R) : List AV → H → (List AV → H → Option R) → Option R := fun vs h kc9 => (fun x10 x11 x12 => aCmpI ilt x12 x11 h fun x13 h => withBool x13 fun t14 => bc t14 (aIdxAddr 1 x10 x12 h fun x15 h => aLoad x15 h fun x16 h => bindR (self x16 h) fun x17 h => aArith iadd x12 (AV.int 3 (Int.ofNat 1)) h fun x18 h => kc9 [x10, x11, x18] h) (some (AV.one .tup (AV.leaf .nil), h))) (hd vs) (hd (tl vs)) (hd (tl (tl vs)))
noncomputable def c_impl_node_turn (F g : Nat) : AV → H → Option R := Nat.rec (motive := fun _ => AV → H → Option R) (fun _ _ => none) (fun g self a0 h => aNilCheck a0 h fun x1 h => aField 2 x1 h fun x2 h => aLoad x2 h fun x3 h => bindR (c_slices_Reverse_4168 F g x3 h) fun x4 h => aNilCheck a0 h fun x5 h => aField 2 x5 h fun x6 h => aLoad x6 h fun x7 h => aLenK 1 x7 h fun x8 h => loopD F (c_impl_node_turn_l1 F g self) [x7, x8, (AV.int 3 (Int.ofNat 0))] h) g
noncomputable def A_impl_node_turn : An := (.two .o (.two .o (.two (.at_ [12, 13, 14] (.two .o (.two (.two .o .o) (.two (.two (.two .o .o) .o) .o))) .o) .o)))
noncomputable def b_impl_node_turn : Code := bodyOf Go.Proofs.Try.f89
theorem k_impl_node_turn (F g : Nat) (a0 : AV) (h : H) : callD Go.Proofs.Try.prog (Env.add (Env.add (fun _ _ _ => none : Env) 123 (u1 (c_slices_Reverse_4168 F g))) 89 (u1 (c_impl_node_turn F g))) 21 F b_impl_node_turn [] A_impl_node_turn [a0] h = c_impl_node_turn F (g + 1) a0 h := by kernel_rfl
theorem s_impl_node_turn (F g : Nat) : ∀ args h r, u1 (c_impl_node_turn F g) args h = some r → Tri Go.Proofs.Try.prog 89 args h r := by
  induction g with
  | zero => intro args h r e; obtain ⟨a0, rfl, e⟩ := u1_some e; cases e
  | succ g ih => intro args h r e; obtain ⟨a0, rfl, e1⟩ := u1_some e; exact fn_sound Go.Proofs.Try.func89 rfl rfl rfl Go.Proofs.Try.ntmps89 (Sound.add (Sound.add (Sound.none _) (s_slices_Reverse_4168 F g)) ih) ((k_impl_node_turn F g a0 h).trans e1)

-- "(*loop.example/treenumbers/impl.node).text"
noncomputable def c_impl_node_text_l1 (F g : Nat) (self : AV → H → Option R) : List AV → H → (List AV → H → Option R) → Option R := fun vs h kc5 => (fun x6 x7 x8 x9 => aCmpI ilt x9 x8 h fun x10 h => withBool x10 fun t11 => bc t11 (aIdxAddr 1 x7 x9 h fun x12 h => aLoad x12 h fun x13 h => bindR (self x13 h) fun x14 h => aSAdd x6 x14 h fun x15 h => aArith iadd x9 (AV.int 3 (Int.ofNat 1)) h fun x16 h => kc5 [x15, x7, x8, x16] h) (aSAdd x6 (AV.str [41] 1) h fun x17 h => some (x17, h))) (hd vs) (hd (tl vs)) (hd (tl (tl vs))) (hd (tl (tl (tl vs))))
noncomputable def c_impl_node_text (F g : Nat) : AV → H → Option R := Nat.rec (motive := fun _ => AV → H → Option R) (fun _ _ => none) (fun g self a0 h => aNilCheck a0 h fun x1 h => aField 2 x1 h fun x2 h => aLoad x2 h fun x3 h => aLenK 1 x3 h fun x4 h => loopD F (c_impl_node_text_l1 F g self) [(AV.str [40] 1), x3, x4, (AV.int 3 (Int.ofNat 0))] h) g
noncomputable def A_impl_node_text : An := (.two .o (.two .o (.two (.two .o (.two (.at_ [3, 9, 10, 11] (.two .o (.two (.two .o .o) (.two (.two (.two .o .o) .o) .o))) .o) .o)) (.two .o .o))))
noncomputable def b_impl_node_text : Code := bodyOf Go.Proofs.Try.f74
theorem k_impl_node_text (F g : Nat) (a0 : AV) (h : H) : callD Go.Proofs.Try.prog (Env.add (fun _ _ _ => none : Env) 74 (u1 (c_impl_node_text F g))) 22 F b_impl_node_text [2] A_impl_node_text [a0] h = c_impl_node_text F (g + 1) a0 h := by kernel_rfl
theorem s_impl_node_text (F g : Nat) : ∀ args h r, u1 (c_impl_node_text F g) args h = some r → Tri Go.Proofs.Try.prog 74 args h r := by
  induction g with
  | zero => intro args h r e; obtain ⟨a0, rfl, e⟩ := u1_some e; cases e
  | succ g ih => intro args h r e; obtain ⟨a0, rfl, e1⟩ := u1_some e; exact fn_sound Go.Proofs.Try.func74 rfl rfl rfl Go.Proofs.Try.ntmps74 (Sound.add (Sound.none _) ih) ((k_impl_node_text F g a0 h).trans e1)

-- "loop.example/treenumbers/impl.TreeTurned"
noncomputable def c_impl_TreeTurned (F g : Nat) (a0 : AV) (h : H) : Option R := bindR (c_impl_readTree F g a0 h) fun x1 h => aExtract x1 0 h fun x2 h => aExtract x1 1 h fun x3 h => aNot x3 h fun x4 h => withBool x4 fun t5 => bc t5 (some (AV.one .tup (AV.cons (AV.str [] 0) (AV.cons (AV.bool false) (AV.leaf .nil))), h)) (bindR (c_impl_node_turn F g x2 h) fun x6 h => bindR (c_impl_node_text F g x2 h) fun x7 h => some (AV.one .tup (AV.cons x7 (AV.cons (AV.bool true) (AV.leaf .nil))), h))
noncomputable def A_impl_TreeTurned : An := (.two .o (.two .o (.two (.two .o (.two (.two .o .o) .o)) (.two .o (.two .o .o)))))
noncomputable def b_impl_TreeTurned : Code := bodyOf Go.Proofs.Try.f41
theorem k_impl_TreeTurned (F g : Nat) (a0 : AV) (h : H) : callD Go.Proofs.Try.prog (Env.add (Env.add (Env.add (fun _ _ _ => none : Env) 72 (u1 (c_impl_readTree F g))) 89 (u1 (c_impl_node_turn F g))) 74 (u1 (c_impl_node_text F g))) 17 F b_impl_TreeTurned [2, 3] A_impl_TreeTurned [a0] h = c_impl_TreeTurned F g a0 h := by kernel_rfl
theorem s_impl_TreeTurned (F g : Nat) : ∀ args h r, u1 (c_impl_TreeTurned F g) args h = some r → Tri Go.Proofs.Try.prog 41 args h r := by
  intro args h r e; obtain ⟨a0, rfl, e1⟩ := u1_some e; exact fn_sound Go.Proofs.Try.func41 rfl rfl rfl Go.Proofs.Try.ntmps41 (Sound.add (Sound.add (Sound.add (Sound.none _) (s_impl_readTree F g)) (s_impl_node_turn F g)) (s_impl_node_text F g)) ((k_impl_TreeTurned F g a0 h).trans e1)

-- "loop.example/treenumbers/impl.TreeNodes"
noncomputable def c_impl_TreeNodes (F g : Nat) (a0 : AV) (h : H) : Option R := bindR (c_impl_readTree F g a0 h) fun x1 h => aExtract x1 0 h fun x2 h => aExtract x1 1 h fun x3 h => aNot x3 h fun x4 h => withBool x4 fun t5 => bc t5 (some (AV.one .tup (AV.cons (AV.int 3 (Int.ofNat 0)) (AV.cons (AV.bool false) (AV.leaf .nil))), h)) (bindR (c_impl_node_nodes F g x2 h) fun x6 h => aLenK 1 x6 h fun x7 h => some (AV.one .tup (AV.cons x7 (AV.cons (AV.bool true) (AV.leaf .nil))), h))
noncomputable def A_impl_TreeNodes : An := (.two .o (.two .o (.two (.two .o (.two (.two .o .o) .o)) (.two .o .o))))
noncomputable def b_impl_TreeNodes : Code := bodyOf Go.Proofs.Try.f22
theorem k_impl_TreeNodes (F g : Nat) (a0 : AV) (h : H) : callD Go.Proofs.Try.prog (Env.add (Env.add (fun _ _ _ => none : Env) 72 (u1 (c_impl_readTree F g))) 75 (u1 (c_impl_node_nodes F g))) 16 F b_impl_TreeNodes [2, 3] A_impl_TreeNodes [a0] h = c_impl_TreeNodes F g a0 h := by kernel_rfl
theorem s_impl_TreeNodes (F g : Nat) : ∀ args h r, u1 (c_impl_TreeNodes F g) args h = some r → Tri Go.Proofs.Try.prog 22 args h r := by
  intro args h r e; obtain ⟨a0, rfl, e1⟩ := u1_some e; exact fn_sound Go.Proofs.Try.func22 rfl rfl rfl Go.Proofs.Try.ntmps22 (Sound.add (Sound.add (Sound.none _) (s_impl_readTree F g)) (s_impl_node_nodes F g)) ((k_impl_TreeNodes F g a0 h).trans e1)

-- "loop.example/treenumbers/laws.FnUneven"
noncomputable def c_laws_FnUneven_j1 (F g : Nat) (vs : List AV) (h : H) : Option R := (fun x30 x31 => aPick x30 x31 (AV.bool false) h fun x32 h => some (x32, h)) (hd vs) (hd (tl vs))
noncomputable def c_laws_FnUneven_j2 (F g : Nat) (vs : List AV) (h : H) : Option R := (fun x73 x74 => aPick x73 (AV.bool true) x74 h fun x75 h => some (x75, h)) (hd vs) (hd (tl vs))
noncomputable def c_laws_FnUneven_j3 (F g : Nat) (vs : List AV) (h : H) : Option R := (fun x70 x71 x72 => guardB false x70 (aPick x71 x72 (AV.bool false) h fun x76 h => (c_laws_FnUneven_j2 F g) [x70, x76] h) ((c_laws_FnUneven_j2 F g) [x70, (AV.one .tup (AV.leaf .nil))] h)) (hd vs) (hd (tl vs)) (hd (tl (tl vs)))
noncomputable def c_laws_FnUneven_j4 (F g : Nat) (vs : List AV) (h : H) : Option R := (fun x67 x68 x69 => guardB true x69 (aCmpI ieq x67 (AV.int 3 (Int.ofNat 0)) h fun x77 h => (c_laws_FnUneven_j3 F g) [x68, x69, x77] h) ((c_laws_FnUneven_j3 F g) [x68, x69, (AV.one .tup (AV.leaf .nil))] h)) (hd vs) (hd (tl vs)) (hd (tl (tl vs)))
noncomputable def c_laws_FnUneven_j5 (F g : Nat) (vs : List AV) (h : H) : Option R := (fun x62 x63 x64 x65 => aPick x64 x65 (AV.bool false) h fun x66 h => guardB false x66 (aCmpI ieq x63 (AV.int 3 (Int.ofNat 0)) h fun x78 h => (c_laws_FnUneven_j4 F g) [x62, x66, x78] h) ((c_laws_FnUneven_j4 F g) [x62, x66, (AV.one .tup (AV.leaf .nil))] h)) (hd vs) (hd (tl vs)) (hd (tl (tl vs))) (hd (tl (tl (tl vs))))
noncomputable def c_laws_FnUneven_j6 (F g : Nat) (vs : List AV) (h : H) : Option R := (fun x57 x58 x59 x60 => aPick x59 x60 (AV.bool false) h fun x61 h => guardB true x61 (aArith imul (AV.int 3 (Int.ofNat 2)) x57 h fun x79 h => aArith isub x58 (AV.int 3 (Int.ofNat 1)) h fun x80 h => aArith imul x58 x80 h fun x81 h => aCmpI ile x79 x81 h fun x82 h => (c_laws_FnUneven_j5 F g) [x57, x58, x61, x82] h) ((c_laws_FnUneven_j5 F g) [x57, x58, x61, (AV.one .tup (AV.leaf .nil))] h)) (hd vs) (hd (tl vs)) (hd (tl (tl vs))) (hd (tl (tl (tl vs))))
noncomputable def c_laws_FnUneven_j7 (F g : Nat) (vs : List AV) (h : H) : Option R := (fun x51 x52 x53 x54 x55 => aPick x54 x55 (AV.bool false) h fun x56 h => guardB true x56 (aCmpI ieq x52 x51 h fun x83 h => (c_laws_FnUneven_j6 F g) [x51, x53, x56, x83] h) ((c_laws_FnUneven_j6 F g) [x51, x53, x56, (AV.one .tup (AV.leaf .nil))] h)) (hd vs) (hd (tl vs)) (hd (tl (tl vs))) (hd (tl (tl (tl vs)))) (hd (tl (tl (tl (tl vs)))))
noncomputable def c_laws_FnUneven_j8 (F g : Nat) (vs : List AV) (h : H) : Option R := (fun x44 x45 x46 x47 x48 x49 => aPick x48 x49 (AV.bool false) h fun x50 h => guardB true x50 ((c_laws_FnUneven_j7 F g) [x44, x45, x47, x50, x46] h) ((c_laws_FnUneven_j7 F g) [x44, x45, x47, x50, (AV.one .tup (AV.leaf .nil))] h)) (hd vs) (hd (tl vs)) (hd (tl (tl vs))) (hd (tl (tl (tl vs)))) (hd (tl (tl (tl (tl vs))))) (hd (tl (tl (tl (tl (tl vs))))))
noncomputable def c_laws_FnUneven_j9 (F g : Nat) (vs : List AV) (h : H) : Option R := (fun x20 x21 x22 x23 x24 x25 x26 => aPick x25 (AV.bool true) x26 h fun x27 h => withBool x27 fun t28 => bc t28 (aEq false 0 x22 x24 h fun x29 h => guardB true x29 (aCmpI ieq x21 x23 h fun x33 h => (c_laws_FnUneven_j1 F g) [x29, x33] h) ((c_laws_FnUneven_j1 F g) [x29, (AV.one .tup (AV.leaf .nil))] h)) (bindR (c_impl_TreeTurned F g x20 h) fun x34 h => aExtract x34 0 h fun x35 h => aExtract x34 1 h fun x36 h => bindR (c_impl_PairUneven F g x35 h) fun x37 h => aExtract x37 0 h fun x38 h => aExtract x37 1 h fun x39 h => bindR (c_impl_TreeNodes F g x20 h) fun x40 h => aExtract x40 0 h fun x41 h => aExtract x40 1 h fun x42 h => aQuo x41 (AV.int 3 (Int.ofNat 2)) h fun x43 h => guardB true x36 ((c_laws_FnUneven_j8 F g) [x21, x38, x42, x43, x36, x39] h) ((c_laws_FnUneven_j8 F g) [x21, x38, x42, x43, x36, (AV.one .tup (AV.leaf .nil))] h))) (hd vs) (hd (tl vs)) (hd (tl (tl vs))) (hd (tl (tl (tl vs)))) (hd (tl (tl (tl (tl vs))))) (hd (tl (tl (tl (tl (tl vs)))))) (hd (tl (tl (tl (tl (tl (tl vs)))))))
noncomputable def c_laws_FnUneven_j10 (F g : Nat) (vs : List AV) (h : H) : Option R := (fun x12 x13 x14 x15 x16 x17 x18 => aPick x17 (AV.bool true) x18 h fun x19 h => guardB false x19 (aNot x14 h fun x84 h => (c_laws_FnUneven_j9 F g) [x12, x13, x14, x15, x16, x19, x84] h) ((c_laws_FnUneven_j9 F g) [x12, x13, x14, x15, x16, x19, (AV.one .tup (AV.leaf .nil))] h)) (hd vs) (hd (tl vs)) (hd (tl (tl vs))) (hd (tl (tl (tl vs)))) (hd (tl (tl (tl (tl vs))))) (hd (tl (tl (tl (tl (tl vs)))))) (hd (tl (tl (tl (tl (tl (tl vs)))))))
noncomputable def c_laws_FnUneven_r11 (F g : Nat) (x4 : AV) (h : H) : Option R := bindR (c_impl_PairUneven F g x4 h) fun x5 h => aExtract x5 0 h fun x6 h => aExtract x5 1 h fun x7 h => bindR (c_spec_PairUneven F g x4 h) fun x8 h => aExtract x8 0 h fun x9 h => aExtract x8 1 h fun x10 h => aEq true 0 x7 x10 h fun x11 h => guardB false x11 (aCmpI (fun a b => bnot (ieq a b)) x6 x9 h fun x85 h => (c_laws_FnUneven_j10 F g) [x4, x6, x7, x9, x10, x11, x85] h) ((c_laws_FnUneven_j10 F g) [x4, x6, x7, x9, x10, x11, (AV.one .tup (AV.leaf .nil))] h)
noncomputable def c_laws_FnUneven (F g : Nat) (a0 : AV) (h : H) : Option R := aLenK 1 a0 h fun x1 h => aCmpI (fun a b => ilt b a) x1 (AV.int 3 (Int.ofNat 1048576)) h fun x2 h => withBool x2 fun t3 => bc t3 (some ((AV.bool true), h)) (bindR (c_spec_DrawPairUneven F g a0 h) fun x4 h => c_laws_FnUneven_r11 F g x4 h)
noncomputable def A_laws_FnUneven : An := (.two .o (.two (.two .o (.two (.two .o .o) .o)) (.two .o (.two .o (.two .o (.two (.two (.at_ [3, 4, 5, 6, 7, 33, 36] .o (.at_ [3, 4, 5, 6, 7, 38, 40] .o .o)) (.two (.two (.at_ [45, 48] .o .o) .o) .o)) (.two .o (.two .o (.two .o (.two .o (.two (.at_ [4, 10, 13, 14, 68, 69] .o (.at_ [4, 10, 14, 71, 72] .o (.at_ [4, 14, 74, 77] .o (.at_ [4, 14, 79, 86] .o (.at_ [4, 88, 91] .o (.at_ [88, 91, 93] .o (.at_ [88, 94] .o .o))))))) .o)))))))))))
noncomputable def b_laws_FnUneven : Code := bodyOf Go.Proofs.Try.f14
theorem k_laws_FnUneven (F g : Nat) (a0 : AV) (h : H) : callD Go.Proofs.Try.prog (Env.add (Env.add (Env.add (Env.add (Env.add (fun _ _ _ => none : Env) 57 (u1 (c_spec_DrawPairUneven F g))) 58 (u1 (c_impl_PairUneven F g))) 59 (u1 (c_spec_PairUneven F g))) 41 (u1 (c_impl_TreeTurned F g))) 22 (u1 (c_impl_TreeNodes F g))) 96 F b_laws_FnUneven [2] A_laws_FnUneven [a0] h = c_laws_FnUneven F g a0 h := by kernel_rfl
theorem s_laws_FnUneven (F g : Nat) : ∀ args h r, u1 (c_laws_FnUneven F g) args h = some r → Tri Go.Proofs.Try.prog 14 args h r := by
  intro args h r e; obtain ⟨a0, rfl, e1⟩ := u1_some e; exact fn_sound Go.Proofs.Try.func14 rfl rfl rfl Go.Proofs.Try.ntmps14 (Sound.add (Sound.add (Sound.add (Sound.add (Sound.add (Sound.none _) (s_spec_DrawPairUneven F g)) (s_impl_PairUneven F g)) (s_spec_PairUneven F g)) (s_impl_TreeTurned F g)) (s_impl_TreeNodes F g)) ((k_laws_FnUneven F g a0 h).trans e1)

end
end Go.AI.T
