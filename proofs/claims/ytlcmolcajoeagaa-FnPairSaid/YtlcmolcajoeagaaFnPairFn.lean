/- The functions that the law FnPair reaches, as the evaluator reads them. -/
import Derived.Test.YtlcmolcajoeagaaRaw
import Derived.Test.YtlcmolcajoeagaaPai
import Derived.Test.YtlcmolcajoeagaaProg
import Derived.KernelRfl
namespace Go.AI.Q
open Go Go.RowKit Go.AI
set_option linter.unusedVariables false
set_option linter.unusedSimpArgs false
set_option maxRecDepth 100000
noncomputable section
-- "loop.example/treenumbers/spec.DrawPairIn"
noncomputable def c_spec_DrawPairIn (F g : Nat) (a0 : AV) (h : H) : Option R := bindR (c_spec_l92One F g a0 h) fun x1 h => some (x1, h)
noncomputable def A_spec_DrawPairIn : An := (.two .o (.two .o .o))
noncomputable def b_spec_DrawPairIn : Code := bodyOf Go.Proofs.Try.f37
theorem k_spec_DrawPairIn (F g : Nat) (a0 : AV) (h : H) : callD Go.Proofs.Try.prog (Env.add (fun _ _ _ => none : Env) 86 (u1 (c_spec_l92One F g))) 5 F b_spec_DrawPairIn [2] A_spec_DrawPairIn [a0] h = c_spec_DrawPairIn F g a0 h := by kernel_rfl
theorem s_spec_DrawPairIn (F g : Nat) : ∀ args h r, u1 (c_spec_DrawPairIn F g) args h = some r → Tri Go.Proofs.Try.prog 37 args h r := by
  intro args h r e; obtain ⟨a0, rfl, e1⟩ := u1_some e; exact fn_sound Go.Proofs.Try.func37 rfl rfl rfl Go.Proofs.Try.ntmps37 (Sound.add (Sound.none _) (s_spec_l92One F g)) ((k_spec_DrawPairIn F g a0 h).trans e1)

end
end Go.AI.Q
namespace Go.AI.T
open Go Go.RowKit Go.AI
set_option linter.unusedVariables false
set_option linter.unusedSimpArgs false
set_option maxRecDepth 100000
noncomputable section
def c_spec_DrawPairIn (F g : Nat) (a0 : AV) (h : H) : Option R := quietC (Go.AI.Q.c_spec_DrawPairIn 20000 20) a0 h
theorem s_spec_DrawPairIn (F g : Nat) : ∀ args h r, u1 (c_spec_DrawPairIn F g) args h = some r → Tri Go.Proofs.Try.prog id_spec_DrawPairIn args h r := quietC_sound (Go.AI.Q.s_spec_DrawPairIn 20000 20)
theorem draw_FnPair (F g : Nat) {a0 : AV} {n : Nat} {L : List AV} {B : Blk} (ha : (a0 = .leaf .nils ∧ n = 0) ∨ a0 = .osl 0 0 n 1) (hB : 0 < n → B = .cells 2 L) (hb : ∀ i, i < n → ∃ v, L[i]? = some (.int 4 (.ofNat v)) ∧ v < 256) :
    ∃ l, (l.length ≤ 300 ∧ (isTree l = true → l.length ≤ 18)) ∧ c_spec_DrawPairIn F g a0 (hCode B) = some (.str l l.length, hCode B) := by
  obtain ⟨l, h', hl, e, hlo⟩ := Go.AI.Q.one_ok (F := 20000) (g := 20) (h := hCode B) (by omega) ha (fun hn => ⟨2, hB hn⟩) hb (Nat.le_refl _) (Nat.le_refl _)
  refine ⟨l, hl, quietC_ok (h' := h') ?_ rfl hlo⟩
  show bindR (Go.AI.Q.c_spec_l92One 20000 20 a0 (hCode B)) _ = _
  rw [e]; rfl
end
end Go.AI.T
namespace Go.AI.T
open Go Go.RowKit Go.AI
set_option linter.unusedVariables false
set_option linter.unusedSimpArgs false
set_option maxRecDepth 100000
noncomputable section
-- "loop.example/treenumbers/impl.pairsIn"
noncomputable def c_impl_pairsIn_j1 (F g : Nat) (vs : List AV) (h : H) : Option R := (fun x29 x30 x31 => aPick x30 x31 (AV.bool false) h fun x32 h => some (AV.one .tup (AV.cons x29 (AV.cons x32 (AV.leaf .nil))), h)) (hd vs) (hd (tl vs)) (hd (tl (tl vs)))
noncomputable def c_impl_pairsIn (F g : Nat) : AV → H → Option R := Nat.rec (motive := fun _ => AV → H → Option R) (fun _ _ => none) (fun g self a0 h => aNilCheck a0 h fun x1 h => aField 2 x1 h fun x2 h => aLoad x2 h fun x3 h => aLenK 1 x3 h fun x4 h => aCmpI ieq x4 (AV.int 3 (Int.ofNat 0)) h fun x5 h => withBool x5 fun t6 => bc t6 (aBuild [] [] h fun x7 h => aMkIface 112 x7 h fun x8 h => some (AV.one .tup (AV.cons x8 (AV.cons (AV.bool true) (AV.leaf .nil))), h)) (aCmpI ieq x4 (AV.int 3 (Int.ofNat 2)) h fun x9 h => withBool x9 fun t10 => bc t10 (aNilCheck a0 h fun x11 h => aField 2 x11 h fun x12 h => aLoad x12 h fun x13 h => aIdxAddr 1 x13 (AV.int 3 (Int.ofNat 0)) h fun x14 h => aLoad x14 h fun x15 h => bindR (self x15 h) fun x16 h => aExtract x16 0 h fun x17 h => aExtract x16 1 h fun x18 h => aNilCheck a0 h fun x19 h => aField 2 x19 h fun x20 h => aLoad x20 h fun x21 h => aIdxAddr 1 x21 (AV.int 3 (Int.ofNat 1)) h fun x22 h => aLoad x22 h fun x23 h => bindR (self x23 h) fun x24 h => aExtract x24 0 h fun x25 h => aExtract x24 1 h fun x26 h => aBuild [(AV.leaf .nili), (AV.leaf .nili)] [(0, 1, x17), (1, 1, x25)] h fun x27 h => aMkIface 92 x27 h fun x28 h => guardB true x18 ((c_impl_pairsIn_j1 F g) [x28, x18, x26] h) ((c_impl_pairsIn_j1 F g) [x28, x18, (AV.one .tup (AV.leaf .nil))] h)) (some (AV.one .tup (AV.cons (AV.leaf .nili) (AV.cons (AV.bool false) (AV.leaf .nil))), h)))) g
noncomputable def A_impl_pairsIn : An := (.two .o (.two .o (.two (.two .o (.two (.two .o .o) (.two .o (.two (.two .o (.two .o (.two (.at_ [42, 44, 45] .o .o) .o))) (.two .o .o))))) .o)))
noncomputable def b_impl_pairsIn : Code := bodyOf Go.Proofs.Try.f122
theorem k_impl_pairsIn (F g : Nat) (a0 : AV) (h : H) : callD Go.Proofs.Try.prog (Env.add (fun _ _ _ => none : Env) 122 (u1 (c_impl_pairsIn F g))) 47 F b_impl_pairsIn [2, 3] A_impl_pairsIn [a0] h = c_impl_pairsIn F (g + 1) a0 h := by kernel_rfl
theorem s_impl_pairsIn (F g : Nat) : ∀ args h r, u1 (c_impl_pairsIn F g) args h = some r → Tri Go.Proofs.Try.prog 122 args h r := by
  induction g with
  | zero => intro args h r e; obtain ⟨a0, rfl, e⟩ := u1_some e; cases e
  | succ g ih => intro args h r e; obtain ⟨a0, rfl, e1⟩ := u1_some e; exact fn_sound Go.Proofs.Try.func122 rfl rfl rfl Go.Proofs.Try.ntmps122 (Sound.add (Sound.none _) ih) ((k_impl_pairsIn F g a0 h).trans e1)

-- "loop.example/treenumbers/impl.readPairs"
noncomputable def c_impl_readPairs (F g : Nat) (a0 : AV) (h : H) : Option R := bindR (c_impl_readTree F g a0 h) fun x1 h => aExtract x1 0 h fun x2 h => aExtract x1 1 h fun x3 h => aNot x3 h fun x4 h => withBool x4 fun t5 => bc t5 (some (AV.one .tup (AV.cons (AV.leaf .nili) (AV.cons (AV.bool false) (AV.leaf .nil))), h)) (bindR (c_impl_pairsIn F g x2 h) fun x6 h => aExtract x6 0 h fun x7 h => aExtract x6 1 h fun x8 h => some (AV.one .tup (AV.cons x7 (AV.cons x8 (AV.leaf .nil))), h))
noncomputable def A_impl_readPairs : An := (.two .o (.two .o (.two (.two .o (.two (.two .o .o) .o)) (.two .o .o))))
noncomputable def b_impl_readPairs : Code := bodyOf Go.Proofs.Try.f87
theorem k_impl_readPairs (F g : Nat) (a0 : AV) (h : H) : callD Go.Proofs.Try.prog (Env.add (Env.add (fun _ _ _ => none : Env) 72 (u1 (c_impl_readTree F g))) 122 (u1 (c_impl_pairsIn F g))) 17 F b_impl_readPairs [2, 3] A_impl_readPairs [a0] h = c_impl_readPairs F g a0 h := by kernel_rfl
theorem s_impl_readPairs (F g : Nat) : ∀ args h r, u1 (c_impl_readPairs F g) args h = some r → Tri Go.Proofs.Try.prog 87 args h r := by
  intro args h r e; obtain ⟨a0, rfl, e1⟩ := u1_some e; exact fn_sound Go.Proofs.Try.func87 rfl rfl rfl Go.Proofs.Try.ntmps87 (Sound.add (Sound.add (Sound.none _) (s_impl_readTree F g)) (s_impl_pairsIn F g)) ((k_impl_readPairs F g a0 h).trans e1)

-- "loop.example/treenumbers/impl.PairIn"
noncomputable def c_impl_PairIn (F g : Nat) (a0 : AV) (h : H) : Option R := bindR (c_impl_readPairs F g a0 h) fun x1 h => aExtract x1 0 h fun x2 h => aExtract x1 1 h fun x3 h => some (x3, h)
noncomputable def A_impl_PairIn : An := (.two .o (.two .o (.two .o .o)))
noncomputable def b_impl_PairIn : Code := bodyOf Go.Proofs.Try.f38
theorem k_impl_PairIn (F g : Nat) (a0 : AV) (h : H) : callD Go.Proofs.Try.prog (Env.add (fun _ _ _ => none : Env) 87 (u1 (c_impl_readPairs F g))) 11 F b_impl_PairIn [2] A_impl_PairIn [a0] h = c_impl_PairIn F g a0 h := by kernel_rfl
theorem s_impl_PairIn (F g : Nat) : ∀ args h r, u1 (c_impl_PairIn F g) args h = some r → Tri Go.Proofs.Try.prog 38 args h r := by
  intro args h r e; obtain ⟨a0, rfl, e1⟩ := u1_some e; exact fn_sound Go.Proofs.Try.func38 rfl rfl rfl Go.Proofs.Try.ntmps38 (Sound.add (Sound.none _) (s_impl_readPairs F g)) ((k_impl_PairIn F g a0 h).trans e1)

-- "loop.example/treenumbers/spec.l1End"
noncomputable def c_spec_l1End_j1 (F g : Nat) (kc1 : List AV → H → Option R) (vs : List AV) (h : H) : Option R := (fun x8 x9 x10 => aCmpI ieq x9 (AV.int 3 (Int.ofNat 0)) h fun x11 h => withBool x11 fun t12 => bc t12 (aArith iadd x10 (AV.int 3 (Int.ofNat 1)) h fun x13 h => some (x13, h)) (aCmpI ilt x9 (AV.int 3 (Int.ofNat 0)) h fun x14 h => withBool x14 fun t15 => bc t15 (some ((AV.int 3 (Int.negSucc 0)), h)) (aArith iadd x10 (AV.int 3 (Int.ofNat 1)) h fun x16 h => kc1 [x8, x9, x16] h))) (hd vs) (hd (tl vs)) (hd (tl (tl vs)))
noncomputable def c_spec_l1End_l2 (F g : Nat) : List AV → H → (List AV → H → Option R) → Option R := fun vs h kc1 => (fun x2 x3 x4 => aLenK 0 x2 h fun x5 h => aCmpI ilt x4 x5 h fun x6 h => withBool x6 fun t7 => bc t7 (aIdxStr x2 x4 h fun x17 h => aCmpI ieq x17 (AV.int 4 (Int.ofNat 40)) h fun x18 h => withBool x18 fun t19 => bc t19 (aArith iadd x3 (AV.int 3 (Int.ofNat 1)) h fun x20 h => (c_spec_l1End_j1 F g kc1) [x2, x20, x4] h) (aCmpI ieq x17 (AV.int 4 (Int.ofNat 41)) h fun x21 h => withBool x21 fun t22 => bc t22 (aArith isub x3 (AV.int 3 (Int.ofNat 1)) h fun x23 h => (c_spec_l1End_j1 F g kc1) [x2, x23, x4] h) (some ((AV.int 3 (Int.negSucc 0)), h)))) (some ((AV.int 3 (Int.negSucc 0)), h))) (hd vs) (hd (tl vs)) (hd (tl (tl vs)))
noncomputable def c_spec_l1End (F g : Nat) (a0 a1 : AV) (h : H) : Option R := loopD F (c_spec_l1End_l2 F g) [a0, (AV.int 3 (Int.ofNat 0)), a1] h
noncomputable def A_spec_l1End : An := (.two .o (.two .o (.two (.two .o (.two (.at_ [0, 5, 6] (.two (.two .o (.two .o .o)) (.two (.two (.at_ [0, 5, 6] (.two .o (.two (.two .o (.two .o (.two .o (.two .o (.two .o .o))))) .o)) (.two (.two .o (.two (.two .o .o) .o)) (.two .o (.two (.two .o .o) .o)))) .o) .o)) .o) .o)) (.two .o .o))))
noncomputable def b_spec_l1End : Code := bodyOf Go.Proofs.Try.f113
theorem k_spec_l1End (F g : Nat) (a0 a1 : AV) (h : H) : callD Go.Proofs.Try.prog (fun _ _ _ => none : Env) 31 F b_spec_l1End [4] A_spec_l1End [a0, a1] h = c_spec_l1End F g a0 a1 h := by kernel_rfl
theorem s_spec_l1End (F g : Nat) : ∀ args h r, u2 (c_spec_l1End F g) args h = some r → Tri Go.Proofs.Try.prog 113 args h r := by
  intro args h r e; obtain ⟨a0, a1, rfl, e1⟩ := u2_some e; exact fn_sound Go.Proofs.Try.func113 rfl rfl rfl Go.Proofs.Try.ntmps113 (Sound.none _) ((k_spec_l1End F g a0 a1 h).trans e1)

-- "loop.example/treenumbers/spec.l1Kids"
noncomputable def c_spec_l1Kids_l1 (F g : Nat) : List AV → H → (List AV → H → Option R) → Option R := fun vs h kc2 => (fun x3 x4 x5 => aLenK 0 x3 h fun x6 h => aArith isub x6 (AV.int 3 (Int.ofNat 1)) h fun x7 h => aCmpI ilt x5 x7 h fun x8 h => withBool x8 fun t9 => bc t9 (bindR (c_spec_l1End F g x3 x5 h) fun x10 h => aSliceS x3 (some x5) (some x10) none h fun x11 h => aBuildSlice 1 1 [(0, 1, x11)] h fun x12 h => aAppend 1 16 x4 x12 h fun x13 h => kc2 [x3, x13, x10] h) (some (x4, h))) (hd vs) (hd (tl vs)) (hd (tl (tl vs)))
noncomputable def c_spec_l1Kids (F g : Nat) (a0 : AV) (h : H) : Option R := aBuildSlice 0 1 [] h fun x1 h => loopD F (c_spec_l1Kids_l1 F g) [a0, x1, (AV.int 3 (Int.ofNat 1))] h
noncomputable def A_spec_l1Kids : An := (.two .o (.two .o (.two .o (.two (.two (.at_ [0, 3, 4] (.two (.two .o (.two .o .o)) (.two (.two .o (.two .o .o)) .o)) .o) .o) (.two .o .o)))))
noncomputable def b_spec_l1Kids : Code := bodyOf Go.Proofs.Try.f93
theorem k_spec_l1Kids (F g : Nat) (a0 : AV) (h : H) : callD Go.Proofs.Try.prog (Env.add (fun _ _ _ => none : Env) 113 (u2 (c_spec_l1End F g))) 24 F b_spec_l1Kids [2] A_spec_l1Kids [a0] h = c_spec_l1Kids F g a0 h := by kernel_rfl
theorem s_spec_l1Kids (F g : Nat) : ∀ args h r, u1 (c_spec_l1Kids F g) args h = some r → Tri Go.Proofs.Try.prog 93 args h r := by
  intro args h r e; obtain ⟨a0, rfl, e1⟩ := u1_some e; exact fn_sound Go.Proofs.Try.func93 rfl rfl rfl Go.Proofs.Try.ntmps93 (Sound.add (Sound.none _) (s_spec_l1End F g)) ((k_spec_l1Kids F g a0 h).trans e1)

-- "loop.example/treenumbers/spec.l8In"
noncomputable def c_spec_l8In_j1 (F g : Nat) (vs : List AV) (h : H) : Option R := (fun x16 x17 => aPick x16 (AV.bool true) x17 h fun x18 h => some (x18, h)) (hd vs) (hd (tl vs))
noncomputable def c_spec_l8In_l2 (F g : Nat) (self : AV → H → Option R) : List AV → H → (List AV → H → Option R) → Option R := fun vs h kc2 => (fun x3 x4 => aLenK 1 x3 h fun x5 h => aCmpI ilt x4 x5 h fun x6 h => withBool x6 fun t7 => bc t7 (aIdxAddr 1 x3 x4 h fun x8 h => aLoad x8 h fun x9 h => bindR (self x9 h) fun x10 h => aNot x10 h fun x11 h => withBool x11 fun t12 => bc t12 (some ((AV.bool false), h)) (aArith iadd x4 (AV.int 3 (Int.ofNat 1)) h fun x13 h => kc2 [x3, x13] h)) (aLenK 1 x3 h fun x14 h => aCmpI ieq x14 (AV.int 3 (Int.ofNat 0)) h fun x15 h => guardB false x15 (aLenK 1 x3 h fun x19 h => aCmpI ieq x19 (AV.int 3 (Int.ofNat 2)) h fun x20 h => (c_spec_l8In_j1 F g) [x15, x20] h) ((c_spec_l8In_j1 F g) [x15, (AV.one .tup (AV.leaf .nil))] h))) (hd vs) (hd (tl vs))
noncomputable def c_spec_l8In (F g : Nat) : AV → H → Option R := Nat.rec (motive := fun _ => AV → H → Option R) (fun _ _ => none) (fun g self a0 h => bindR (c_spec_l1Kids F g a0 h) fun x1 h => loopD F (c_spec_l8In_l2 F g self) [x1, (AV.int 3 (Int.ofNat 0))] h) g
noncomputable def A_spec_l8In : An := (.two .o (.two .o (.two (.two .o (.two (.at_ [3, 4] (.two (.two .o (.two .o .o)) (.two (.two (.two .o (.two (.two .o .o) .o)) .o) .o)) .o) .o)) (.two (.at_ [22, 25] .o .o) .o))))
noncomputable def b_spec_l8In : Code := bodyOf Go.Proofs.Try.f88
theorem k_spec_l8In (F g : Nat) (a0 : AV) (h : H) : callD Go.Proofs.Try.prog (Env.add (Env.add (fun _ _ _ => none : Env) 93 (u1 (c_spec_l1Kids F g))) 88 (u1 (c_spec_l8In F g))) 27 F b_spec_l8In [2] A_spec_l8In [a0] h = c_spec_l8In F (g + 1) a0 h := by kernel_rfl
theorem s_spec_l8In (F g : Nat) : ∀ args h r, u1 (c_spec_l8In F g) args h = some r → Tri Go.Proofs.Try.prog 88 args h r := by
  induction g with
  | zero => intro args h r e; obtain ⟨a0, rfl, e⟩ := u1_some e; cases e
  | succ g ih => intro args h r e; obtain ⟨a0, rfl, e1⟩ := u1_some e; exact fn_sound Go.Proofs.Try.func88 rfl rfl rfl Go.Proofs.Try.ntmps88 (Sound.add (Sound.add (Sound.none _) (s_spec_l1Kids F g)) ih) ((k_spec_l8In F g a0 h).trans e1)

-- "loop.example/treenumbers/spec.PairIn"
noncomputable def c_spec_PairIn_j1 (F g : Nat) (vs : List AV) (h : H) : Option R := (fun x2 x3 => aPick x2 x3 (AV.bool false) h fun x4 h => some (x4, h)) (hd vs) (hd (tl vs))
noncomputable def c_spec_PairIn (F g : Nat) (a0 : AV) (h : H) : Option R := bindR (c_spec_TreeIn F g a0 h) fun x1 h => guardB true x1 (bindR (c_spec_l8In F g a0 h) fun x5 h => (c_spec_PairIn_j1 F g) [x1, x5] h) ((c_spec_PairIn_j1 F g) [x1, (AV.one .tup (AV.leaf .nil))] h)
noncomputable def A_spec_PairIn : An := (.two .o (.two (.at_ [5, 7] .o .o) .o))
noncomputable def b_spec_PairIn : Code := bodyOf Go.Proofs.Try.f39
theorem k_spec_PairIn (F g : Nat) (a0 : AV) (h : H) : callD Go.Proofs.Try.prog (Env.add (Env.add (fun _ _ _ => none : Env) 68 (u1 (c_spec_TreeIn F g))) 88 (u1 (c_spec_l8In F g))) 9 F b_spec_PairIn [2] A_spec_PairIn [a0] h = c_spec_PairIn F g a0 h := by kernel_rfl
theorem s_spec_PairIn (F g : Nat) : ∀ args h r, u1 (c_spec_PairIn F g) args h = some r → Tri Go.Proofs.Try.prog 39 args h r := by
  intro args h r e; obtain ⟨a0, rfl, e1⟩ := u1_some e; exact fn_sound Go.Proofs.Try.func39 rfl rfl rfl Go.Proofs.Try.ntmps39 (Sound.add (Sound.add (Sound.none _) (s_spec_TreeIn F g)) (s_spec_l8In F g)) ((k_spec_PairIn F g a0 h).trans e1)

-- "(*loop.example/treenumbers/impl.node).nodes"
noncomputable def c_impl_node_nodes_l1 (F g : Nat) (self : AV → H → Option R) : List AV → H → (List AV → H → Option R) → Option R := fun vs h kc6 => (fun x7 x8 x9 x10 => aCmpI ilt x10 x9 h fun x11 h => withBool x11 fun t12 => bc t12 (aIdxAddr 1 x8 x10 h fun x13 h => aLoad x13 h fun x14 h => bindR (self x14 h) fun x15 h => aAppend 1 8 x7 x15 h fun x16 h => aArith iadd x10 (AV.int 3 (Int.ofNat 1)) h fun x17 h => kc6 [x16, x8, x9, x17] h) (some (x7, h))) (hd vs) (hd (tl vs)) (hd (tl (tl vs))) (hd (tl (tl (tl vs))))
noncomputable def c_impl_node_nodes (F g : Nat) : AV → H → Option R := Nat.rec (motive := fun _ => AV → H → Option R) (fun _ _ => none) (fun g self a0 h => aBuildSlice 1 1 [(0, 1, a0)] h fun x1 h => aNilCheck a0 h fun x2 h => aField 2 x2 h fun x3 h => aLoad x3 h fun x4 h => aLenK 1 x4 h fun x5 h => loopD F (c_impl_node_nodes_l1 F g self) [x1, x4, x5, (AV.int 3 (Int.ofNat 0))] h) g
noncomputable def A_impl_node_nodes : An := (.two .o (.two .o (.two (.two .o (.two (.at_ [3, 11, 12, 13] (.two .o (.two (.two .o .o) (.two (.two (.two .o .o) .o) .o))) .o) .o)) (.two .o .o))))
noncomputable def b_impl_node_nodes : Code := bodyOf Go.Proofs.Try.f75
theorem k_impl_node_nodes (F g : Nat) (a0 : AV) (h : H) : callD Go.Proofs.Try.prog (Env.add (fun _ _ _ => none : Env) 75 (u1 (c_impl_node_nodes F g))) 23 F b_impl_node_nodes [2] A_impl_node_nodes [a0] h = c_impl_node_nodes F (g + 1) a0 h := by kernel_rfl
theorem s_impl_node_nodes (F g : Nat) : ∀ args h r, u1 (c_impl_node_nodes F g) args h = some r → Tri Go.Proofs.Try.prog 75 args h r := by
  induction g with
  | zero => intro args h r e; obtain ⟨a0, rfl, e⟩ := u1_some e; cases e
  | succ g ih => intro args h r e; obtain ⟨a0, rfl, e1⟩ := u1_some e; exact fn_sound Go.Proofs.Try.func75 rfl rfl rfl Go.Proofs.Try.ntmps75 (Sound.add (Sound.none _) ih) ((k_impl_node_nodes F g a0 h).trans e1)

-- "loop.example/treenumbers/impl.TreeLeaves"
noncomputable def c_impl_TreeLeaves_j1 (F g : Nat) (kc8 : List AV → H → Option R) (vs : List AV) (h : H) : Option R := (fun x15 x16 x17 x18 => aArith iadd x18 (AV.int 3 (Int.ofNat 1)) h fun x19 h => kc8 [x15, x16, x17, x19] h) (hd vs) (hd (tl vs)) (hd (tl (tl vs))) (hd (tl (tl (tl vs))))
noncomputable def c_impl_TreeLeaves_l2 (F g : Nat) : List AV → H → (List AV → H → Option R) → Option R := fun vs h kc8 => (fun x9 x10 x11 x12 => aCmpI ilt x12 x11 h fun x13 h => withBool x13 fun t14 => bc t14 (aIdxAddr 1 x10 x12 h fun x20 h => aLoad x20 h fun x21 h => aNilCheck x21 h fun x22 h => aField 2 x22 h fun x23 h => aLoad x23 h fun x24 h => aLenK 1 x24 h fun x25 h => aCmpI ieq x25 (AV.int 3 (Int.ofNat 0)) h fun x26 h => withBool x26 fun t27 => bc t27 (aArith iadd x9 (AV.int 3 (Int.ofNat 1)) h fun x28 h => (c_impl_TreeLeaves_j1 F g kc8) [x28, x10, x11, x12] h) ((c_impl_TreeLeaves_j1 F g kc8) [x9, x10, x11, x12] h)) (some (AV.one .tup (AV.cons x9 (AV.cons (AV.bool true) (AV.leaf .nil))), h))) (hd vs) (hd (tl vs)) (hd (tl (tl vs))) (hd (tl (tl (tl vs))))
noncomputable def c_impl_TreeLeaves (F g : Nat) (a0 : AV) (h : H) : Option R := bindR (c_impl_readTree F g a0 h) fun x1 h => aExtract x1 0 h fun x2 h => aExtract x1 1 h fun x3 h => aNot x3 h fun x4 h => withBool x4 fun t5 => bc t5 (some (AV.one .tup (AV.cons (AV.int 3 (Int.ofNat 0)) (AV.cons (AV.bool false) (AV.leaf .nil))), h)) (bindR (c_impl_node_nodes F g x2 h) fun x6 h => aLenK 1 x6 h fun x7 h => loopD F (c_impl_TreeLeaves_l2 F g) [(AV.int 3 (Int.ofNat 0)), x6, x7, (AV.int 3 (Int.ofNat 0))] h)
noncomputable def A_impl_TreeLeaves : An := (.two .o (.two .o (.two (.two .o (.two (.two .o .o) .o)) (.two .o (.two (.two .o (.two (.at_ [6, 17, 18, 19] (.two .o (.two (.two .o .o) (.at_ [6, 17, 18, 19] (.two (.two .o (.two .o (.two .o .o))) .o) .o))) .o) .o)) (.two .o .o))))))
noncomputable def b_impl_TreeLeaves : Code := bodyOf Go.Proofs.Try.f40
theorem k_impl_TreeLeaves (F g : Nat) (a0 : AV) (h : H) : callD Go.Proofs.Try.prog (Env.add (Env.add (fun _ _ _ => none : Env) 72 (u1 (c_impl_readTree F g))) 75 (u1 (c_impl_node_nodes F g))) 33 F b_impl_TreeLeaves [2, 3] A_impl_TreeLeaves [a0] h = c_impl_TreeLeaves F g a0 h := by kernel_rfl
theorem s_impl_TreeLeaves (F g : Nat) : ∀ args h r, u1 (c_impl_TreeLeaves F g) args h = some r → Tri Go.Proofs.Try.prog 40 args h r := by
  intro args h r e; obtain ⟨a0, rfl, e1⟩ := u1_some e; exact fn_sound Go.Proofs.Try.func40 rfl rfl rfl Go.Proofs.Try.ntmps40 (Sound.add (Sound.add (Sound.none _) (s_impl_readTree F g)) (s_impl_node_nodes F g)) ((k_impl_TreeLeaves F g a0 h).trans e1)

-- "loop.example/treenumbers/impl.TreeNodes"
noncomputable def c_impl_TreeNodes (F g : Nat) (a0 : AV) (h : H) : Option R := bindR (c_impl_readTree F g a0 h) fun x1 h => aExtract x1 0 h fun x2 h => aExtract x1 1 h fun x3 h => aNot x3 h fun x4 h => withBool x4 fun t5 => bc t5 (some (AV.one .tup (AV.cons (AV.int 3 (Int.ofNat 0)) (AV.cons (AV.bool false) (AV.leaf .nil))), h)) (bindR (c_impl_node_nodes F g x2 h) fun x6 h => aLenK 1 x6 h fun x7 h => some (AV.one .tup (AV.cons x7 (AV.cons (AV.bool true) (AV.leaf .nil))), h))
noncomputable def A_impl_TreeNodes : An := (.two .o (.two .o (.two (.two .o (.two (.two .o .o) .o)) (.two .o .o))))
noncomputable def b_impl_TreeNodes : Code := bodyOf Go.Proofs.Try.f22
theorem k_impl_TreeNodes (F g : Nat) (a0 : AV) (h : H) : callD Go.Proofs.Try.prog (Env.add (Env.add (fun _ _ _ => none : Env) 72 (u1 (c_impl_readTree F g))) 75 (u1 (c_impl_node_nodes F g))) 16 F b_impl_TreeNodes [2, 3] A_impl_TreeNodes [a0] h = c_impl_TreeNodes F g a0 h := by kernel_rfl
theorem s_impl_TreeNodes (F g : Nat) : ∀ args h r, u1 (c_impl_TreeNodes F g) args h = some r → Tri Go.Proofs.Try.prog 22 args h r := by
  intro args h r e; obtain ⟨a0, rfl, e1⟩ := u1_some e; exact fn_sound Go.Proofs.Try.func22 rfl rfl rfl Go.Proofs.Try.ntmps22 (Sound.add (Sound.add (Sound.none _) (s_impl_readTree F g)) (s_impl_node_nodes F g)) ((k_impl_TreeNodes F g a0 h).trans e1)

-- "slices.Reverse[[]*loop.example/treenumbers/impl.node,*loop.example/treenumbers/impl.node]"
noncomputable def c_slices_Reverse_4168_l1 (F g : Nat) : List AV → H → (List AV → H → Option R) → Option R := fun vs h kc3 => (fun x4 x5 x6 => aCmpI ilt x5 x6 h fun x7 h => withBool x7 fun t8 => bc t8 (aIdxAddr 1 x4 x6 h fun x9 _ => aLoad x9 h fun x10 _ => aIdxAddr 1 x4 x5 h fun x11 _ => aLoad x11 h fun x12 _ => aIdxAddr 1 x4 x5 h fun x13 _ => aStore x13 x10 h fun x14 h => aIdxAddr 1 x4 x6 h fun x15 _ => aStore x15 x12 h fun x16 h => aArith iadd x5 (AV.int 3 (Int.ofNat 1)) h fun x17 h => aArith isub x6 (AV.int 3 (Int.ofNat 1)) h fun x18 h => kc3 [x4, x17, x18] h) (some (AV.one .tup (AV.leaf .nil), h))) (hd vs) (hd (tl vs)) (hd (tl (tl vs)))
noncomputable def c_slices_Reverse_4168 (F g : Nat) (a0 : AV) (h : H) : Option R := aLenK 1 a0 h fun x1 h => aArith isub x1 (AV.int 3 (Int.ofNat 1)) h fun x2 h => loopD F (c_slices_Reverse_4168_l1 F g) [a0, (AV.int 3 (Int.ofNat 0)), x2] h
noncomputable def A_slices_Reverse_4168 : An := (.two .o (.two (.at_ [0, 2, 3] (.two (.two .o (.two .o .o)) (.two (.two .o .o) .o)) .o) .o))
noncomputable def b_slices_Reverse_4168 : Code := bodyOf Go.Proofs.Try.f123
theorem k_slices_Reverse_4168 (F g : Nat) (a0 : AV) (h : H) : callD Go.Proofs.Try.prog (fun _ _ _ => none : Env) 28 F b_slices_Reverse_4168 [] A_slices_Reverse_4168 [a0] h = c_slices_Reverse_4168 F g a0 h := by kernel_rfl
theorem s_slices_Reverse_4168 (F g : Nat) : ∀ args h r, u1 (c_slices_Reverse_4168 F g) args h = some r → Tri Go.Proofs.Try.prog 123 args h r := by
  intro args h r e; obtain ⟨a0, rfl, e1⟩ := u1_some e; exact fn_sound Go.Proofs.Try.func123 rfl rfl rfl Go.Proofs.Try.ntmps123 (Sound.none _) ((k_slices_Reverse_4168 F g a0 h).trans e1)

-- "(*loop.example/treenumbers/impl.node).turn"
noncomputable def c_impl_node_turn_l1 (F g : Nat) (self : AV → H → Option R) : List AV → H → (List AV → H → Option R) → Option R := fun vs h kc9 => (fun x10 x11 x12 => aCmpI ilt x12 x11 h fun x13 h => withBool x13 fun t14 => bc t14 (aIdxAddr 1 x10 x12 h fun x15 h => aLoad x15 h fun x16 h => bindR (self x16 h) fun x17 h => aArith iadd x12 (AV.int 3 (Int.ofNat 1)) h fun x18 h => kc9 [x10, x11, x18] h) (some (AV.one .tup (AV.leaf .nil), h))) (hd vs) (hd (tl vs)) (hd (tl (tl vs)))
noncomputable def c_impl_node_turn (F g : Nat) : AV → H → Option R := Nat.rec (motive := fun _ => AV → H → Option R) (fun _ _ => none) (fun g self a0 h => aNilCheck a0 h fun x1 h => aField 2 x1 h fun x2 h => aLoad x2 h fun x3 h => bindR (c_slices_Reverse_4168 F g x3 h) fun x4 h => aNilCheck a0 h fun x5 h => aField 2 x5 h fun x6 h => aLoad x6 h fun x7 h => aLenK 1 x7 h fun x8 h => loopD F (c_impl_node_turn_l1 F g self) [x7, x8, (AV.int 3 (Int.ofNat 0))] h) g
noncomputable def A_impl_node_turn : An := (.two .o (.two .o (.two (.at_ [12, 13, 14] (.two .o (.two (.two .o .o) (.two (.two (.two .o .o) .o) .o))) .o) .o)))
noncomputable def b_impl_node_turn : Code := bodyOf Go.Proofs.Try.f89
theorem k_impl_node_turn (F g : Nat) (a0 : AV) (h : H) : callD Go.Proofs.Try.prog (Env.add (Env.add (fun _ _ _ => none : Env) 123 (u1 (c_slices_Reverse_4168 F g))) 89 (u1 (c_impl_node_turn F g))) 21 F b_impl_node_turn [] A_impl_node_turn [a0] h = c_impl_node_turn F (g + 1) a0 h := by kernel_rfl
theorem s_impl_node_turn (F g : Nat) : ∀ args h r, u1 (c_impl_node_turn F g) args h = some r → Tri Go.Proofs.Try.prog 89 args h r := by
  induction g with
  | zero => intro args h r e; obtain ⟨a0, rfl, e⟩ := u1_some e; cases e
  | succ g ih => intro args h r e; obtain ⟨a0, rfl, e1⟩ := u1_some e; exact fn_sound Go.Proofs.Try.func89 rfl rfl rfl Go.Proofs.Try.ntmps89 (Sound.add (Sound.add (Sound.none _) (s_slices_Reverse_4168 F g)) ih) ((k_impl_node_turn F g a0 h).trans e1)

-- "(*loop.example/treenumbers/impl.node).text"
noncomputable def c_impl_node_text_l1 (F g : Nat) (self : AV → H → Option R) : List AV → H → (List AV → H → Option R) → Option R := fun vs h kc5 => (fun x6 x7 x8 x9 => aCmpI ilt x9 x8 h fun x10 h => withBool x10 fun t11 => bc t11 (aIdxAddr 1 x7 x9 h fun x12 h => aLoad x12 h fun x13 h => bindR (self x13 h) fun x14 h => aSAdd x6 x14 h fun x15 h => aArith iadd x9 (AV.int 3 (Int.ofNat 1)) h fun x16 h => kc5 [x15, x7, x8, x16] h) (aSAdd x6 (AV.str [41] 1) h fun x17 h => some (x17, h))) (hd vs) (hd (tl vs)) (hd (tl (tl vs))) (hd (tl (tl (tl vs))))
noncomputable def c_impl_node_text (F g : Nat) : AV → H → Option R := Nat.rec (motive := fun _ => AV → H → Option R) (fun _ _ => none) (fun g self a0 h => aNilCheck a0 h fun x1 h => aField 2 x1 h fun x2 h => aLoad x2 h fun x3 h => aLenK 1 x3 h fun x4 h => loopD F (c_impl_node_text_l1 F g self) [(AV.str [40] 1), x3, x4, (AV.int 3 (Int.ofNat 0))] h) g
noncomputable def A_impl_node_text : An := (.two .o (.two .o (.two (.two .o (.two (.at_ [3, 9, 10, 11] (.two .o (.two (.two .o .o) (.two (.two (.two .o .o) .o) .o))) .o) .o)) (.two .o .o))))
noncomputable def b_impl_node_text : Code := bodyOf Go.Proofs.Try.f74
theorem k_impl_node_text (F g : Nat) (a0 : AV) (h : H) : callD Go.Proofs.Try.prog (Env.add (fun _ _ _ => none : Env) 74 (u1 (c_impl_node_text F g))) 22 F b_impl_node_text [2] A_impl_node_text [a0] h = c_impl_node_text F (g + 1) a0 h := by kernel_rfl
theorem s_impl_node_text (F g : Nat) : ∀ args h r, u1 (c_impl_node_text F g) args h = some r → Tri Go.Proofs.Try.prog 74 args h r := by
  induction g with
  | zero => intro args h r e; obtain ⟨a0, rfl, e⟩ := u1_some e; cases e
  | succ g ih => intro args h r e; obtain ⟨a0, rfl, e1⟩ := u1_some e; exact fn_sound Go.Proofs.Try.func74 rfl rfl rfl Go.Proofs.Try.ntmps74 (Sound.add (Sound.none _) ih) ((k_impl_node_text F g a0 h).trans e1)

-- "loop.example/treenumbers/impl.TreeTurned"
noncomputable def c_impl_TreeTurned (F g : Nat) (a0 : AV) (h : H) : Option R := bindR (c_impl_readTree F g a0 h) fun x1 h => aExtract x1 0 h fun x2 h => aExtract x1 1 h fun x3 h => aNot x3 h fun x4 h => withBool x4 fun t5 => bc t5 (some (AV.one .tup (AV.cons (AV.str [] 0) (AV.cons (AV.bool false) (AV.leaf .nil))), h)) (bindR (c_impl_node_turn F g x2 h) fun x6 h => bindR (c_impl_node_text F g x2 h) fun x7 h => some (AV.one .tup (AV.cons x7 (AV.cons (AV.bool true) (AV.leaf .nil))), h))
noncomputable def A_impl_TreeTurned : An := (.two .o (.two .o (.two (.two .o (.two (.two .o .o) .o)) (.two .o (.two .o .o)))))
noncomputable def b_impl_TreeTurned : Code := bodyOf Go.Proofs.Try.f41
theorem k_impl_TreeTurned (F g : Nat) (a0 : AV) (h : H) : callD Go.Proofs.Try.prog (Env.add (Env.add (Env.add (fun _ _ _ => none : Env) 72 (u1 (c_impl_readTree F g))) 89 (u1 (c_impl_node_turn F g))) 74 (u1 (c_impl_node_text F g))) 17 F b_impl_TreeTurned [2, 3] A_impl_TreeTurned [a0] h = c_impl_TreeTurned F g a0 h := by kernel_rfl
theorem s_impl_TreeTurned (F g : Nat) : ∀ args h r, u1 (c_impl_TreeTurned F g) args h = some r → Tri Go.Proofs.Try.prog 41 args h r := by
  intro args h r e; obtain ⟨a0, rfl, e1⟩ := u1_some e; exact fn_sound Go.Proofs.Try.func41 rfl rfl rfl Go.Proofs.Try.ntmps41 (Sound.add (Sound.add (Sound.add (Sound.none _) (s_impl_readTree F g)) (s_impl_node_turn F g)) (s_impl_node_text F g)) ((k_impl_TreeTurned F g a0 h).trans e1)

-- "loop.example/treenumbers/laws.FnPair"
noncomputable def c_laws_FnPair_j1 (F g : Nat) (vs : List AV) (h : H) : Option R := (fun x42 x43 => aPick x42 x43 (AV.bool false) h fun x44 h => some (x44, h)) (hd vs) (hd (tl vs))
noncomputable def c_laws_FnPair_j2 (F g : Nat) (vs : List AV) (h : H) : Option R := (fun x38 x39 x40 => aPick x39 x40 (AV.bool false) h fun x41 h => guardB true x41 (bindR (c_impl_PairIn F g x38 h) fun x45 h => (c_laws_FnPair_j1 F g) [x41, x45] h) ((c_laws_FnPair_j1 F g) [x41, (AV.one .tup (AV.leaf .nil))] h)) (hd vs) (hd (tl vs)) (hd (tl (tl vs)))
noncomputable def c_laws_FnPair_j3 (F g : Nat) (vs : List AV) (h : H) : Option R := (fun x32 x33 x34 x35 x36 => aPick x35 x36 (AV.bool false) h fun x37 h => guardB true x37 (aArith imul (AV.int 3 (Int.ofNat 2)) x32 h fun x46 h => aArith isub x46 (AV.int 3 (Int.ofNat 1)) h fun x47 h => aCmpI ieq x33 x47 h fun x48 h => (c_laws_FnPair_j2 F g) [x34, x37, x48] h) ((c_laws_FnPair_j2 F g) [x34, x37, (AV.one .tup (AV.leaf .nil))] h)) (hd vs) (hd (tl vs)) (hd (tl (tl vs))) (hd (tl (tl (tl vs)))) (hd (tl (tl (tl (tl vs)))))
noncomputable def c_laws_FnPair_j4 (F g : Nat) (vs : List AV) (h : H) : Option R := (fun x25 x26 x27 x28 x29 x30 => aPick x29 x30 (AV.bool false) h fun x31 h => guardB true x31 ((c_laws_FnPair_j3 F g) [x25, x26, x27, x31, x28] h) ((c_laws_FnPair_j3 F g) [x25, x26, x27, x31, (AV.one .tup (AV.leaf .nil))] h)) (hd vs) (hd (tl vs)) (hd (tl (tl vs))) (hd (tl (tl (tl vs)))) (hd (tl (tl (tl (tl vs))))) (hd (tl (tl (tl (tl (tl vs))))))
noncomputable def c_laws_FnPair_j5 (F g : Nat) (vs : List AV) (h : H) : Option R := (fun x8 x9 x10 x11 x12 => aPick x11 (AV.bool true) x12 h fun x13 h => withBool x13 fun t14 => bc t14 (aEq false 0 x9 x10 h fun x15 h => some (x15, h)) (bindR (c_impl_TreeLeaves F g x8 h) fun x16 h => aExtract x16 0 h fun x17 h => aExtract x16 1 h fun x18 h => bindR (c_impl_TreeNodes F g x8 h) fun x19 h => aExtract x19 0 h fun x20 h => aExtract x19 1 h fun x21 h => bindR (c_impl_TreeTurned F g x8 h) fun x22 h => aExtract x22 0 h fun x23 h => aExtract x22 1 h fun x24 h => guardB true x18 ((c_laws_FnPair_j4 F g) [x17, x20, x23, x24, x18, x21] h) ((c_laws_FnPair_j4 F g) [x17, x20, x23, x24, x18, (AV.one .tup (AV.leaf .nil))] h))) (hd vs) (hd (tl vs)) (hd (tl (tl vs))) (hd (tl (tl (tl vs)))) (hd (tl (tl (tl (tl vs)))))
noncomputable def c_laws_FnPair_r6 (F g : Nat) (x4 : AV) (h : H) : Option R := bindR (c_impl_PairIn F g x4 h) fun x5 h => bindR (c_spec_PairIn F g x4 h) fun x6 h => aEq true 0 x5 x6 h fun x7 h => guardB false x7 (aNot x5 h fun x49 h => (c_laws_FnPair_j5 F g) [x4, x5, x6, x7, x49] h) ((c_laws_FnPair_j5 F g) [x4, x5, x6, x7, (AV.one .tup (AV.leaf .nil))] h)
noncomputable def c_laws_FnPair (F g : Nat) (a0 : AV) (h : H) : Option R := aLenK 1 a0 h fun x1 h => aCmpI (fun a b => ilt b a) x1 (AV.int 3 (Int.ofNat 1048576)) h fun x2 h => withBool x2 fun t3 => bc t3 (some ((AV.bool true), h)) (bindR (c_spec_DrawPairIn F g a0 h) fun x4 h => c_laws_FnPair_r6 F g x4 h)
noncomputable def A_laws_FnPair : An := (.two .o (.two (.two .o (.two (.two .o .o) .o)) (.two .o (.two .o (.two .o (.two (.two (.at_ [3, 4, 5, 24, 26] .o .o) (.two (.two .o .o) .o)) (.two .o (.two .o (.two .o (.two (.at_ [6, 8, 10, 11, 47, 48] .o (.at_ [6, 8, 10, 50, 51] .o (.at_ [10, 53, 58] .o (.at_ [60, 62] .o .o)))) .o))))))))))
noncomputable def b_laws_FnPair : Code := bodyOf Go.Proofs.Try.f9
theorem k_laws_FnPair (F g : Nat) (a0 : AV) (h : H) : callD Go.Proofs.Try.prog (Env.add (Env.add (Env.add (Env.add (Env.add (Env.add (fun _ _ _ => none : Env) 37 (u1 (c_spec_DrawPairIn F g))) 38 (u1 (c_impl_PairIn F g))) 39 (u1 (c_spec_PairIn F g))) 40 (u1 (c_impl_TreeLeaves F g))) 22 (u1 (c_impl_TreeNodes F g))) 41 (u1 (c_impl_TreeTurned F g))) 64 F b_laws_FnPair [2] A_laws_FnPair [a0] h = c_laws_FnPair F g a0 h := by kernel_rfl
theorem s_laws_FnPair (F g : Nat) : ∀ args h r, u1 (c_laws_FnPair F g) args h = some r → Tri Go.Proofs.Try.prog 9 args h r := by
  intro args h r e; obtain ⟨a0, rfl, e1⟩ := u1_some e; exact fn_sound Go.Proofs.Try.func9 rfl rfl rfl Go.Proofs.Try.ntmps9 (Sound.add (Sound.add (Sound.add (Sound.add (Sound.add (Sound.add (Sound.none _) (s_spec_DrawPairIn F g)) (s_impl_PairIn F g)) (s_spec_PairIn F g)) (s_impl_TreeLeaves F g)) (s_impl_TreeNodes F g)) (s_impl_TreeTurned F g)) ((k_laws_FnPair F g a0 h).trans e1)

end
end Go.AI.T
