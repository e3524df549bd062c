/- The functions that the law FnUp reaches, as the evaluator reads them. -/
import Derived.Test.YtfafaadfnhhfhaaRaw
import Derived.Test.YtfafaadfnhhfhaaProg
import Derived.KernelRfl
namespace Go.AI
open Go Go.RowKit Go.AI
set_option linter.unusedVariables false
set_option linter.unusedSimpArgs false
set_option maxRecDepth 100000
noncomputable section
-- "loop.example/treenumbers/spec.DrawTreeUp"
noncomputable def c_spec_DrawTreeUp (F g : Nat) (a0 : AV) (h : H) : Option R := bindR (c_spec_l91Some F g a0 h) fun x1 h => some (x1, h)
noncomputable def A_spec_DrawTreeUp : An := (.two .o (.two .o .o))
noncomputable def b_spec_DrawTreeUp : Code := bodyOf Go.Proofs.Try.f52
theorem k_spec_DrawTreeUp (F g : Nat) (a0 : AV) (h : H) : callD Go.Proofs.Try.prog (Env.add (fun _ _ _ => none : Env) 90 (u1 (c_spec_l91Some F g))) 5 F b_spec_DrawTreeUp [2] A_spec_DrawTreeUp [a0] h = c_spec_DrawTreeUp F g a0 h := by kernel_rfl
theorem s_spec_DrawTreeUp (F g : Nat) : ∀ args h r, u1 (c_spec_DrawTreeUp F g) args h = some r → Tri Go.Proofs.Try.prog 52 args h r := by
  intro args h r e; obtain ⟨a0, rfl, e1⟩ := u1_some e; exact fn_sound Go.Proofs.Try.func52 rfl rfl rfl Go.Proofs.Try.ntmps52 (Sound.add (Sound.none _) (s_spec_l91Some F g)) ((k_spec_DrawTreeUp F g a0 h).trans e1)

end
end Go.AI
namespace Go.AI.T
open Go Go.RowKit Go.AI
set_option linter.unusedVariables false
set_option linter.unusedSimpArgs false
set_option maxRecDepth 100000
noncomputable section
def c_spec_DrawTreeUp (F g : Nat) (a0 : AV) (h : H) : Option R := quietC (Go.AI.c_spec_DrawTreeUp 20000 20) a0 h
theorem s_spec_DrawTreeUp (F g : Nat) : ∀ args h r, u1 (c_spec_DrawTreeUp F g) args h = some r → Tri Go.Proofs.Try.prog id_spec_DrawTreeUp args h r := quietC_sound (Go.AI.s_spec_DrawTreeUp 20000 20)
theorem draw_FnUp (F g : Nat) {a0 : AV} {n : Nat} {L : List AV} {B : Blk} (ha : (a0 = .leaf .nils ∧ n = 0) ∨ a0 = .osl 0 0 n 1) (hB : 0 < n → B = .cells 2 L) (hb : ∀ i, i < n → ∃ v, L[i]? = some (.int 4 (.ofNat v)) ∧ v < 256) :
    ∃ l, (l.length ≤ 300 ∧ (isTree l = true → l.length ≤ 16)) ∧ c_spec_DrawTreeUp F g a0 (hCode B) = some (.str l l.length, hCode B) := by
  obtain ⟨l, h', hl, e, hlo⟩ := some_ok (F := 20000) (g := 20) (h := hCode B) (by omega) ha (fun hn => ⟨2, hB hn⟩) hb (Nat.le_refl _) (Nat.le_refl _)
  refine ⟨l, hl, quietC_ok (h' := h') ?_ rfl hlo⟩
  show bindR (Go.AI.c_spec_l91Some 20000 20 a0 (hCode B)) _ = _
  rw [e]; rfl
end
end Go.AI.T
namespace Go.AI.T
open Go Go.RowKit Go.AI
set_option linter.unusedVariables false
set_option linter.unusedSimpArgs false
set_option maxRecDepth 100000
noncomputable section
-- "(*loop.example/treenumbers/impl.node).nodes"
noncomputable def c_impl_node_nodes_l1 (F g : Nat) (self : AV → H → Option R) : List AV → H → (List AV → H → Option R) → Option R := fun vs h kc6 => (fun x7 x8 x9 x10 => aCmpI ilt x10 x9 h fun x11 h => withBool x11 fun t12 => bc t12 (aIdxAddr 1 x8 x10 h fun x13 h => aLoad x13 h fun x14 h => bindR (self x14 h) fun x15 h => aAppend 1 8 x7 x15 h fun x16 h => aArith iadd x10 (AV.int 3 (Int.ofNat 1)) h fun x17 h => kc6 [x16, x8, x9, x17] h) (some (x7, h))) (hd vs) (hd (tl vs)) (hd (tl (tl vs))) (hd (tl (tl (tl vs))))
noncomputable def c_impl_node_nodes (F g : Nat) : AV → H → Option R := Nat.rec (motive := fun _ => AV → H → Option R) (fun _ _ => none) (fun g self a0 h => aBuildSlice 1 1 [(0, 1, a0)] h fun x1 h => aNilCheck a0 h fun x2 h => aField 2 x2 h fun x3 h => aLoad x3 h fun x4 h => aLenK 1 x4 h fun x5 h => loopD F (c_impl_node_nodes_l1 F g self) [x1, x4, x5, (AV.int 3 (Int.ofNat 0))] h) g
noncomputable def A_impl_node_nodes : An := (.two .o (.two .o (.two (.two .o (.two (.at_ [3, 11, 12, 13] (.two .o (.two (.two .o .o) (.two (.two (.two .o .o) .o) .o))) .o) .o)) (.two .o .o))))
noncomputable def b_impl_node_nodes : Code := bodyOf Go.Proofs.Try.f95
theorem k_impl_node_nodes (F g : Nat) (a0 : AV) (h : H) : callD Go.Proofs.Try.prog (Env.add (fun _ _ _ => none : Env) 95 (u1 (c_impl_node_nodes F g))) 23 F b_impl_node_nodes [2] A_impl_node_nodes [a0] h = c_impl_node_nodes F (g + 1) a0 h := by kernel_rfl
theorem s_impl_node_nodes (F g : Nat) : ∀ args h r, u1 (c_impl_node_nodes F g) args h = some r → Tri Go.Proofs.Try.prog 95 args h r := by
  induction g with
  | zero => intro args h r e; obtain ⟨a0, rfl, e⟩ := u1_some e; cases e
  | succ g ih => intro args h r e; obtain ⟨a0, rfl, e1⟩ := u1_some e; exact fn_sound Go.Proofs.Try.func95 rfl rfl rfl Go.Proofs.Try.ntmps95 (Sound.add (Sound.none _) ih) ((k_impl_node_nodes F g a0 h).trans e1)

-- "loop.example/treenumbers/impl.TreeUp"
noncomputable def c_impl_TreeUp_l1 (F g : Nat) : List AV → H → (List AV → H → Option R) → Option R := fun vs h kc10 => (fun x11 x12 x13 x14 => aCmpI ilt x14 x13 h fun x15 h => withBool x15 fun t16 => bc t16 (aIdxAddr 1 x12 x14 h fun x17 h => aLoad x17 h fun x18 h => aNilCheck x18 h fun x19 h => aField 1 x19 h fun x20 h => aLoad x20 h fun x21 h => aNilCheck x21 h fun x22 h => aField 0 x22 h fun x23 h => aLoad x23 h fun x24 h => aBuildSlice 1 1 [(0, 1, x24)] h fun x25 h => aAppend 1 8 x11 x25 h fun x26 h => aArith iadd x14 (AV.int 3 (Int.ofNat 1)) h fun x27 h => kc10 [x26, x12, x13, x27] h) (some (AV.one .tup (AV.cons x11 (AV.cons (AV.bool true) (AV.leaf .nil))), h))) (hd vs) (hd (tl vs)) (hd (tl (tl vs))) (hd (tl (tl (tl vs))))
noncomputable def c_impl_TreeUp (F g : Nat) (a0 : AV) (h : H) : Option R := bindR (c_impl_readTree F g a0 h) fun x1 h => aExtract x1 0 h fun x2 h => aExtract x1 1 h fun x3 h => aNot x3 h fun x4 h => withBool x4 fun t5 => bc t5 (some (AV.one .tup (AV.cons (AV.leaf .nils) (AV.cons (AV.bool false) (AV.leaf .nil))), h)) (aBuildSlice 1 1 [(0, 1, (AV.int 3 (Int.negSucc 0)))] h fun x6 h => bindR (c_impl_node_nodes F g x2 h) fun x7 h => aSliceV 1 x7 (some (AV.int 3 (Int.ofNat 1))) none none h fun x8 h => aLenK 1 x8 h fun x9 h => loopD F (c_impl_TreeUp_l1 F g) [x6, x8, x9, (AV.int 3 (Int.ofNat 0))] h)
noncomputable def A_impl_TreeUp : An := (.two .o (.two .o (.two (.two .o (.two (.two .o .o) .o)) (.two .o (.two (.two .o (.two (.at_ [6, 19, 20, 21] (.two .o (.two (.two .o .o) (.two (.two (.two .o .o) .o) .o))) .o) .o)) (.two .o .o))))))
noncomputable def b_impl_TreeUp : Code := bodyOf Go.Proofs.Try.f53
theorem k_impl_TreeUp (F g : Nat) (a0 : AV) (h : H) : callD Go.Proofs.Try.prog (Env.add (Env.add (fun _ _ _ => none : Env) 91 (u1 (c_impl_readTree F g))) 95 (u1 (c_impl_node_nodes F g))) 37 F b_impl_TreeUp [2, 3] A_impl_TreeUp [a0] h = c_impl_TreeUp F g a0 h := by kernel_rfl
theorem s_impl_TreeUp (F g : Nat) : ∀ args h r, u1 (c_impl_TreeUp F g) args h = some r → Tri Go.Proofs.Try.prog 53 args h r := by
  intro args h r e; obtain ⟨a0, rfl, e1⟩ := u1_some e; exact fn_sound Go.Proofs.Try.func53 rfl rfl rfl Go.Proofs.Try.ntmps53 (Sound.add (Sound.add (Sound.none _) (s_impl_readTree F g)) (s_impl_node_nodes F g)) ((k_impl_TreeUp F g a0 h).trans e1)

-- "loop.example/treenumbers/spec.l1Depths"
noncomputable def c_spec_l1Depths_j1 (F g : Nat) (kc2 : List AV → H → Option R) (vs : List AV) (h : H) : Option R := (fun x10 x11 x12 x13 => aArith iadd x13 (AV.int 3 (Int.ofNat 1)) h fun x14 h => kc2 [x10, x11, x12, x14] h) (hd vs) (hd (tl vs)) (hd (tl (tl vs))) (hd (tl (tl (tl vs))))
noncomputable def c_spec_l1Depths_l2 (F g : Nat) : List AV → H → (List AV → H → Option R) → Option R := fun vs h kc2 => (fun x3 x4 x5 x6 => aLenK 0 x3 h fun x7 h => aCmpI ilt x6 x7 h fun x8 h => withBool x8 fun t9 => bc t9 (aIdxStr x3 x6 h fun x15 h => aCmpI ieq x15 (AV.int 4 (Int.ofNat 40)) h fun x16 h => withBool x16 fun t17 => bc t17 (aBuildSlice 1 1 [(0, 1, x5)] h fun x18 h => aAppend 1 8 x4 x18 h fun x19 h => aArith iadd x5 (AV.int 3 (Int.ofNat 1)) h fun x20 h => (c_spec_l1Depths_j1 F g kc2) [x3, x19, x20, x6] h) (aArith isub x5 (AV.int 3 (Int.ofNat 1)) h fun x21 h => (c_spec_l1Depths_j1 F g kc2) [x3, x4, x21, x6] h)) (some (x4, h))) (hd vs) (hd (tl vs)) (hd (tl (tl vs))) (hd (tl (tl (tl vs))))
noncomputable def c_spec_l1Depths (F g : Nat) (a0 : AV) (h : H) : Option R := aBuildSlice 0 1 [] h fun x1 h => loopD F (c_spec_l1Depths_l2 F g) [a0, x1, (AV.int 3 (Int.ofNat 0)), (AV.int 3 (Int.ofNat 0))] h
noncomputable def A_spec_l1Depths : An := (.two .o (.two .o (.two .o (.two (.two .o (.two (.at_ [0, 3, 4, 5] (.two (.two .o (.two .o .o)) (.at_ [0, 3, 4, 5] (.two (.two .o (.two (.two .o .o) .o)) .o) .o)) .o) .o)) (.two .o .o)))))
noncomputable def b_spec_l1Depths : Code := bodyOf Go.Proofs.Try.f101
theorem k_spec_l1Depths (F g : Nat) (a0 : AV) (h : H) : callD Go.Proofs.Try.prog (fun _ _ _ => none : Env) 26 F b_spec_l1Depths [2] A_spec_l1Depths [a0] h = c_spec_l1Depths F g a0 h := by kernel_rfl
theorem s_spec_l1Depths (F g : Nat) : ∀ args h r, u1 (c_spec_l1Depths F g) args h = some r → Tri Go.Proofs.Try.prog 101 args h r := by
  intro args h r e; obtain ⟨a0, rfl, e1⟩ := u1_some e; exact fn_sound Go.Proofs.Try.func101 rfl rfl rfl Go.Proofs.Try.ntmps101 (Sound.none _) ((k_spec_l1Depths F g a0 h).trans e1)

-- "loop.example/treenumbers/spec.l1Up"
noncomputable def c_spec_l1Up_j1 (F g : Nat) (kc3 : List AV → H → Option R) (kc11 : List AV → H → Option R) (vs : List AV) (h : H) : Option R := (fun x17 x18 x19 x20 x21 x22 => aPick x21 x22 (AV.bool false) h fun x23 _ => withBool x23 fun t24 => bc t24 (aArith isub x20 (AV.int 3 (Int.ofNat 1)) h fun x25 h => kc11 [x17, x18, x19, x25] h) (aBuildSlice 1 1 [(0, 1, x20)] h fun x26 h => aAppend 1 8 x18 x26 h fun x27 h => aArith iadd x19 (AV.int 3 (Int.ofNat 1)) h fun x28 h => kc3 [x17, x27, x28] h)) (hd vs) (hd (tl vs)) (hd (tl (tl vs))) (hd (tl (tl (tl vs)))) (hd (tl (tl (tl (tl vs))))) (hd (tl (tl (tl (tl (tl vs))))))
noncomputable def c_spec_l1Up_l2 (F g : Nat) (kc3 : List AV → H → Option R) : List AV → H → (List AV → H → Option R) → Option R := fun vs h kc11 => (fun x12 x13 x14 x15 => aCmpI (fun a b => ile b a) x15 (AV.int 3 (Int.ofNat 0)) h fun x16 _ => guardB true x16 (aIdxAddr 1 x12 x15 h fun x29 _ => aLoad x29 h fun x30 _ => aIdxAddr 1 x12 x14 h fun x31 _ => aLoad x31 h fun x32 _ => aCmpI (fun a b => ile b a) x30 x32 h fun x33 _ => (c_spec_l1Up_j1 F g kc3 kc11) [x12, x13, x14, x15, x16, x33] h) ((c_spec_l1Up_j1 F g kc3 kc11) [x12, x13, x14, x15, x16, (AV.one .tup (AV.leaf .nil))] h)) (hd vs) (hd (tl vs)) (hd (tl (tl vs))) (hd (tl (tl (tl vs))))
noncomputable def c_spec_l1Up_l3 (F g : Nat) : List AV → H → (List AV → H → Option R) → Option R := fun vs h kc3 => (fun x4 x5 x6 => aLenK 1 x4 h fun x7 h => aCmpI ilt x6 x7 h fun x8 h => withBool x8 fun t9 => bc t9 (aArith isub x6 (AV.int 3 (Int.ofNat 1)) h fun x10 h => loopD F (c_spec_l1Up_l2 F g kc3) [x4, x5, x6, x10] h) (some (x5, h))) (hd vs) (hd (tl vs)) (hd (tl (tl vs)))
noncomputable def c_spec_l1Up (F g : Nat) (a0 : AV) (h : H) : Option R := bindR (c_spec_l1Depths F g a0 h) fun x1 h => aBuildSlice 0 1 [] h fun x2 h => loopD F (c_spec_l1Up_l3 F g) [x1, x2, (AV.int 3 (Int.ofNat 0))] h
noncomputable def A_spec_l1Up : An := (.two .o (.two .o (.two .o (.two (.two .o (.two (.at_ [3, 4, 5] (.two (.two .o (.two .o .o)) (.two (.two (.two .o (.two (.two (.at_ [3, 4, 5, 6] (.two (.two (.at_ [3, 4, 5, 6, 20, 29] .o .o) (.two .o .o)) (.two .o .o)) .o) .o) .o)) .o) .o)) .o) .o)) (.two .o .o)))))
noncomputable def b_spec_l1Up : Code := bodyOf Go.Proofs.Try.f110
theorem k_spec_l1Up (F g : Nat) (a0 : AV) (h : H) : callD Go.Proofs.Try.prog (Env.add (fun _ _ _ => none : Env) 101 (u1 (c_spec_l1Depths F g))) 38 F b_spec_l1Up [2] A_spec_l1Up [a0] h = c_spec_l1Up F g a0 h := by kernel_rfl
theorem s_spec_l1Up (F g : Nat) : ∀ args h r, u1 (c_spec_l1Up F g) args h = some r → Tri Go.Proofs.Try.prog 110 args h r := by
  intro args h r e; obtain ⟨a0, rfl, e1⟩ := u1_some e; exact fn_sound Go.Proofs.Try.func110 rfl rfl rfl Go.Proofs.Try.ntmps110 (Sound.add (Sound.none _) (s_spec_l1Depths F g)) ((k_spec_l1Up F g a0 h).trans e1)

-- "loop.example/treenumbers/spec.TreeUp"
noncomputable def c_spec_TreeUp (F g : Nat) (a0 : AV) (h : H) : Option R := bindR (c_spec_TreeIn F g a0 h) fun x1 h => aNot x1 h fun x2 h => withBool x2 fun t3 => bc t3 (aBuildSlice 0 1 [] h fun x4 h => some (AV.one .tup (AV.cons x4 (AV.cons (AV.bool false) (AV.leaf .nil))), h)) (bindR (c_spec_l1Up F g a0 h) fun x5 h => some (AV.one .tup (AV.cons x5 (AV.cons (AV.bool true) (AV.leaf .nil))), h))
noncomputable def A_spec_TreeUp : An := (.two .o (.two (.two .o (.two (.two .o .o) .o)) (.two .o .o)))
noncomputable def b_spec_TreeUp : Code := bodyOf Go.Proofs.Try.f54
theorem k_spec_TreeUp (F g : Nat) (a0 : AV) (h : H) : callD Go.Proofs.Try.prog (Env.add (Env.add (fun _ _ _ => none : Env) 25 (u1 (c_spec_TreeIn F g))) 110 (u1 (c_spec_l1Up F g))) 10 F b_spec_TreeUp [2, 3] A_spec_TreeUp [a0] h = c_spec_TreeUp F g a0 h := by kernel_rfl
theorem s_spec_TreeUp (F g : Nat) : ∀ args h r, u1 (c_spec_TreeUp F g) args h = some r → Tri Go.Proofs.Try.prog 54 args h r := by
  intro args h r e; obtain ⟨a0, rfl, e1⟩ := u1_some e; exact fn_sound Go.Proofs.Try.func54 rfl rfl rfl Go.Proofs.Try.ntmps54 (Sound.add (Sound.add (Sound.none _) (s_spec_TreeIn F g)) (s_spec_l1Up F g)) ((k_spec_TreeUp F g a0 h).trans e1)

-- "loop.example/treenumbers/laws.sameInts"
noncomputable def c_laws_sameInts_l1 (F g : Nat) : List AV → H → (List AV → H → Option R) → Option R := fun vs h kc5 => (fun x6 x7 x8 => aLenK 1 x6 h fun x9 h => aCmpI ilt x8 x9 h fun x10 h => withBool x10 fun t11 => bc t11 (aIdxAddr 1 x6 x8 h fun x12 _ => aLoad x12 h fun x13 _ => aIdxAddr 1 x7 x8 h fun x14 _ => aLoad x14 h fun x15 _ => aCmpI (fun a b => bnot (ieq a b)) x13 x15 h fun x16 _ => withBool x16 fun t17 => bc t17 (some ((AV.bool false), h)) (aArith iadd x8 (AV.int 3 (Int.ofNat 1)) h fun x18 h => kc5 [x6, x7, x18] h)) (some ((AV.bool true), h))) (hd vs) (hd (tl vs)) (hd (tl (tl vs)))
noncomputable def c_laws_sameInts (F g : Nat) (a0 a1 : AV) (h : H) : Option R := aLenK 1 a0 h fun x1 h => aLenK 1 a1 h fun x2 h => aCmpI (fun a b => bnot (ieq a b)) x1 x2 h fun x3 h => withBool x3 fun t4 => bc t4 (some ((AV.bool false), h)) (loopD F (c_laws_sameInts_l1 F g) [a0, a1, (AV.int 3 (Int.ofNat 0))] h)
noncomputable def A_laws_sameInts : An := (.two .o (.two (.two .o (.two (.two .o .o) .o)) (.two (.two .o (.two (.at_ [0, 1, 5] (.two (.two .o (.two .o .o)) (.two (.two (.two .o (.two (.two .o .o) .o)) .o) .o)) .o) .o)) (.two .o .o))))
noncomputable def b_laws_sameInts : Code := bodyOf Go.Proofs.Try.f55
theorem k_laws_sameInts (F g : Nat) (a0 a1 : AV) (h : H) : callD Go.Proofs.Try.prog (fun _ _ _ => none : Env) 26 F b_laws_sameInts [4] A_laws_sameInts [a0, a1] h = c_laws_sameInts F g a0 a1 h := by kernel_rfl
theorem s_laws_sameInts (F g : Nat) : ∀ args h r, u2 (c_laws_sameInts F g) args h = some r → Tri Go.Proofs.Try.prog 55 args h r := by
  intro args h r e; obtain ⟨a0, a1, rfl, e1⟩ := u2_some e; exact fn_sound Go.Proofs.Try.func55 rfl rfl rfl Go.Proofs.Try.ntmps55 (Sound.none _) ((k_laws_sameInts F g a0 a1 h).trans e1)

-- "loop.example/treenumbers/impl.LevelsOf"
noncomputable def c_impl_LevelsOf_l1 (F g : Nat) : List AV → H → (List AV → H → Option R) → Option R := fun vs h kc9 => (fun x10 x11 x12 x13 => aCmpI ilt x13 x12 h fun x14 h => withBool x14 fun t15 => bc t15 (aIdxAddr 1 x11 x13 h fun x16 h => aLoad x16 h fun x17 h => aIdxAddr 1 x10 x17 h fun x18 h => aLoad x18 h fun x19 h => aArith iadd x19 (AV.int 3 (Int.ofNat 1)) h fun x20 h => aBuildSlice 1 1 [(0, 1, x20)] h fun x21 h => aAppend 1 8 x10 x21 h fun x22 h => aArith iadd x13 (AV.int 3 (Int.ofNat 1)) h fun x23 h => kc9 [x22, x11, x12, x23] h) (some (AV.one .tup (AV.cons x10 (AV.cons (AV.bool true) (AV.leaf .nil))), h))) (hd vs) (hd (tl vs)) (hd (tl (tl vs))) (hd (tl (tl (tl vs))))
noncomputable def c_impl_LevelsOf (F g : Nat) (a0 : AV) (h : H) : Option R := bindR (c_impl_TreeUp F g a0 h) fun x1 h => aExtract x1 0 h fun x2 h => aExtract x1 1 h fun x3 h => aNot x3 h fun x4 h => withBool x4 fun t5 => bc t5 (some (AV.one .tup (AV.cons (AV.leaf .nils) (AV.cons (AV.bool false) (AV.leaf .nil))), h)) (aBuildSlice 1 1 [(0, 1, (AV.int 3 (Int.ofNat 0)))] h fun x6 h => aSliceV 1 x2 (some (AV.int 3 (Int.ofNat 1))) none none h fun x7 h => aLenK 1 x7 h fun x8 h => loopD F (c_impl_LevelsOf_l1 F g) [x6, x7, x8, (AV.int 3 (Int.ofNat 0))] h)
noncomputable def A_impl_LevelsOf : An := (.two .o (.two .o (.two (.two .o (.two (.two .o .o) .o)) (.two .o (.two (.two .o (.two (.at_ [6, 18, 19, 20] (.two .o (.two (.two .o .o) (.two (.two (.two .o .o) .o) .o))) .o) .o)) (.two .o .o))))))
noncomputable def b_impl_LevelsOf : Code := bodyOf Go.Proofs.Try.f56
theorem k_impl_LevelsOf (F g : Nat) (a0 : AV) (h : H) : callD Go.Proofs.Try.prog (Env.add (fun _ _ _ => none : Env) 53 (u1 (c_impl_TreeUp F g))) 34 F b_impl_LevelsOf [2, 3] A_impl_LevelsOf [a0] h = c_impl_LevelsOf F g a0 h := by kernel_rfl
theorem s_impl_LevelsOf (F g : Nat) : ∀ args h r, u1 (c_impl_LevelsOf F g) args h = some r → Tri Go.Proofs.Try.prog 56 args h r := by
  intro args h r e; obtain ⟨a0, rfl, e1⟩ := u1_some e; exact fn_sound Go.Proofs.Try.func56 rfl rfl rfl Go.Proofs.Try.ntmps56 (Sound.add (Sound.none _) (s_impl_TreeUp F g)) ((k_impl_LevelsOf F g a0 h).trans e1)

-- "loop.example/treenumbers/laws.FnUp"
noncomputable def c_laws_FnUp_j1 (F g : Nat) (vs : List AV) (h : H) : Option R := (fun x30 x31 => aPick x30 x31 (AV.bool false) h fun x32 h => some (x32, h)) (hd vs) (hd (tl vs))
noncomputable def c_laws_FnUp_j2 (F g : Nat) (kc37 : List AV → H → Option R) (vs : List AV) (h : H) : Option R := (fun x55 x56 x57 x58 x59 x60 => aPick x59 (AV.bool true) x60 h fun x61 _ => withBool x61 fun t62 => bc t62 (some ((AV.bool false), h)) (aArith iadd x58 (AV.int 3 (Int.ofNat 1)) h fun x63 h => kc37 [x55, x56, x57, x63] h)) (hd vs) (hd (tl vs)) (hd (tl (tl vs))) (hd (tl (tl (tl vs)))) (hd (tl (tl (tl (tl vs))))) (hd (tl (tl (tl (tl (tl vs))))))
noncomputable def c_laws_FnUp_j3 (F g : Nat) (kc37 : List AV → H → Option R) (vs : List AV) (h : H) : Option R := (fun x48 x49 x50 x51 x52 x53 => aPick x52 (AV.bool true) x53 h fun x54 _ => guardB false x54 (aIdxAddr 1 x48 x51 h fun x64 _ => aLoad x64 h fun x65 _ => aIdxAddr 1 x49 x65 h fun x66 _ => aLoad x66 h fun x67 _ => aIdxAddr 1 x49 x51 h fun x68 _ => aLoad x68 h fun x69 _ => aArith isub x69 (AV.int 3 (Int.ofNat 1)) h fun x70 _ => aCmpI (fun a b => bnot (ieq a b)) x67 x70 h fun x71 _ => (c_laws_FnUp_j2 F g kc37) [x48, x49, x50, x51, x54, x71] h) ((c_laws_FnUp_j2 F g kc37) [x48, x49, x50, x51, x54, (AV.one .tup (AV.leaf .nil))] h)) (hd vs) (hd (tl vs)) (hd (tl (tl vs))) (hd (tl (tl (tl vs)))) (hd (tl (tl (tl (tl vs))))) (hd (tl (tl (tl (tl (tl vs))))))
noncomputable def c_laws_FnUp_j4 (F g : Nat) (vs : List AV) (h : H) : Option R := (fun x80 x81 => aPick x80 x81 (AV.bool false) h fun x82 h => some (x82, h)) (hd vs) (hd (tl vs))
noncomputable def c_laws_FnUp_j5 (F g : Nat) (vs : List AV) (h : H) : Option R := (fun x75 x76 x77 x78 => aPick x77 x78 (AV.bool false) h fun x79 h => guardB true x79 (aLenK 1 x75 h fun x83 h => aLenK 1 x76 h fun x84 h => aCmpI ieq x83 x84 h fun x85 h => (c_laws_FnUp_j4 F g) [x79, x85] h) ((c_laws_FnUp_j4 F g) [x79, (AV.one .tup (AV.leaf .nil))] h)) (hd vs) (hd (tl vs)) (hd (tl (tl vs))) (hd (tl (tl (tl vs))))
noncomputable def c_laws_FnUp_l6 (F g : Nat) : List AV → H → (List AV → H → Option R) → Option R := fun vs h kc37 => (fun x38 x39 x40 x41 => aLenK 1 x38 h fun x42 h => aCmpI ilt x41 x42 h fun x43 h => withBool x43 fun t44 => bc t44 (aIdxAddr 1 x38 x41 h fun x45 _ => aLoad x45 h fun x46 _ => aCmpI ilt x46 (AV.int 3 (Int.ofNat 0)) h fun x47 _ => guardB false x47 (aIdxAddr 1 x38 x41 h fun x72 _ => aLoad x72 h fun x73 _ => aCmpI (fun a b => ile b a) x73 x41 h fun x74 _ => (c_laws_FnUp_j3 F g kc37) [x38, x39, x40, x41, x47, x74] h) ((c_laws_FnUp_j3 F g kc37) [x38, x39, x40, x41, x47, (AV.one .tup (AV.leaf .nil))] h)) (guardB true x40 (aIdxAddr 1 x38 (AV.int 3 (Int.ofNat 0)) h fun x86 h => aLoad x86 h fun x87 h => aCmpI ieq x87 (AV.int 3 (Int.negSucc 0)) h fun x88 h => (c_laws_FnUp_j5 F g) [x38, x39, x40, x88] h) ((c_laws_FnUp_j5 F g) [x38, x39, x40, (AV.one .tup (AV.leaf .nil))] h))) (hd vs) (hd (tl vs)) (hd (tl (tl vs))) (hd (tl (tl (tl vs))))
noncomputable def c_laws_FnUp_j7 (F g : Nat) (vs : List AV) (h : H) : Option R := (fun x20 x21 x22 x23 x24 x25 x26 => aPick x25 (AV.bool true) x26 h fun x27 h => withBool x27 fun t28 => bc t28 (aEq false 0 x22 x24 h fun x29 h => guardB true x29 (bindR (c_laws_sameInts F g x21 x23 h) fun x33 h => (c_laws_FnUp_j1 F g) [x29, x33] h) ((c_laws_FnUp_j1 F g) [x29, (AV.one .tup (AV.leaf .nil))] h)) (bindR (c_impl_LevelsOf F g x20 h) fun x34 h => aExtract x34 0 h fun x35 h => aExtract x34 1 h fun x36 h => loopD F (c_laws_FnUp_l6 F g) [x21, x35, x36, (AV.int 3 (Int.ofNat 1))] h)) (hd vs) (hd (tl vs)) (hd (tl (tl vs))) (hd (tl (tl (tl vs)))) (hd (tl (tl (tl (tl vs))))) (hd (tl (tl (tl (tl (tl vs)))))) (hd (tl (tl (tl (tl (tl (tl vs)))))))
noncomputable def c_laws_FnUp_j8 (F g : Nat) (vs : List AV) (h : H) : Option R := (fun x12 x13 x14 x15 x16 x17 x18 => aPick x17 (AV.bool true) x18 h fun x19 h => guardB false x19 (aNot x14 h fun x89 h => (c_laws_FnUp_j7 F g) [x12, x13, x14, x15, x16, x19, x89] h) ((c_laws_FnUp_j7 F g) [x12, x13, x14, x15, x16, x19, (AV.one .tup (AV.leaf .nil))] h)) (hd vs) (hd (tl vs)) (hd (tl (tl vs))) (hd (tl (tl (tl vs)))) (hd (tl (tl (tl (tl vs))))) (hd (tl (tl (tl (tl (tl vs)))))) (hd (tl (tl (tl (tl (tl (tl vs)))))))
noncomputable def c_laws_FnUp_r9 (F g : Nat) (x4 : AV) (h : H) : Option R := bindR (c_impl_TreeUp F g x4 h) fun x5 h => aExtract x5 0 h fun x6 h => aExtract x5 1 h fun x7 h => bindR (c_spec_TreeUp F g x4 h) fun x8 h => aExtract x8 0 h fun x9 h => aExtract x8 1 h fun x10 h => aEq true 0 x7 x10 h fun x11 h => guardB false x11 (bindR (c_laws_sameInts F g x6 x9 h) fun x90 h => aNot x90 h fun x91 h => (c_laws_FnUp_j8 F g) [x4, x6, x7, x9, x10, x11, x91] h) ((c_laws_FnUp_j8 F g) [x4, x6, x7, x9, x10, x11, (AV.one .tup (AV.leaf .nil))] h)
noncomputable def c_laws_FnUp (F g : Nat) (a0 : AV) (h : H) : Option R := aLenK 1 a0 h fun x1 h => aCmpI (fun a b => ilt b a) x1 (AV.int 3 (Int.ofNat 1048576)) h fun x2 h => withBool x2 fun t3 => bc t3 (some ((AV.bool true), h)) (bindR (c_spec_DrawTreeUp F g a0 h) fun x4 h => c_laws_FnUp_r9 F g x4 h)
noncomputable def A_laws_FnUp : An := (.two .o (.two (.two .o (.two (.two .o .o) .o)) (.two .o (.two .o (.two .o (.two (.two (.at_ [3, 4, 5, 6, 7, 29, 33] .o (.at_ [3, 4, 5, 6, 7, 35, 37] .o .o)) (.two (.two (.at_ [42, 45] .o .o) .o) .o)) (.two .o (.two (.two .o (.two (.at_ [4, 8, 9, 10] (.two (.two .o (.two .o .o)) (.two (.two (.two (.at_ [4, 8, 9, 10, 63, 69] .o (.at_ [4, 8, 9, 10, 71, 84] .o .o)) (.two (.two .o .o) .o)) .o) .o)) .o) .o)) (.two (.at_ [4, 8, 87, 91] .o (.at_ [93, 98] .o .o)) .o)))))))))
noncomputable def b_laws_FnUp : Code := bodyOf Go.Proofs.Try.f12
theorem k_laws_FnUp (F g : Nat) (a0 : AV) (h : H) : callD Go.Proofs.Try.prog (Env.add (Env.add (Env.add (Env.add (Env.add (fun _ _ _ => none : Env) 52 (u1 (c_spec_DrawTreeUp F g))) 53 (u1 (c_impl_TreeUp F g))) 54 (u1 (c_spec_TreeUp F g))) 55 (u2 (c_laws_sameInts F g))) 56 (u1 (c_impl_LevelsOf F g))) 100 F b_laws_FnUp [2] A_laws_FnUp [a0] h = c_laws_FnUp F g a0 h := by kernel_rfl
theorem s_laws_FnUp (F g : Nat) : ∀ args h r, u1 (c_laws_FnUp F g) args h = some r → Tri Go.Proofs.Try.prog 12 args h r := by
  intro args h r e; obtain ⟨a0, rfl, e1⟩ := u1_some e; exact fn_sound Go.Proofs.Try.func12 rfl rfl rfl Go.Proofs.Try.ntmps12 (Sound.add (Sound.add (Sound.add (Sound.add (Sound.add (Sound.none _) (s_spec_DrawTreeUp F g)) (s_impl_TreeUp F g)) (s_spec_TreeUp F g)) (s_laws_sameInts F g)) (s_impl_LevelsOf F g)) ((k_laws_FnUp F g a0 h).trans e1)

end
end Go.AI.T
