/- The functions that the law FnChildren reaches, as the evaluator reads them. -/
import Derived.Test.YtfafaadfnhhfhaaRaw
import Derived.Test.YtfafaadfnhhfhaaProg
import Derived.KernelRfl
namespace Go.AI
open Go Go.RowKit Go.AI
set_option linter.unusedVariables false
set_option linter.unusedSimpArgs false
set_option maxRecDepth 100000
noncomputable section
-- "loop.example/treenumbers/spec.DrawTreeChildren"
noncomputable def c_spec_DrawTreeChildren (F g : Nat) (a0 : AV) (h : H) : Option R := bindR (c_spec_l91Some F g a0 h) fun x1 h => some (x1, h)
noncomputable def A_spec_DrawTreeChildren : An := (.two .o (.two .o .o))
noncomputable def b_spec_DrawTreeChildren : Code := bodyOf Go.Proofs.Try.f39
theorem k_spec_DrawTreeChildren (F g : Nat) (a0 : AV) (h : H) : callD Go.Proofs.Try.prog (Env.add (fun _ _ _ => none : Env) 90 (u1 (c_spec_l91Some F g))) 5 F b_spec_DrawTreeChildren [2] A_spec_DrawTreeChildren [a0] h = c_spec_DrawTreeChildren F g a0 h := by kernel_rfl
theorem s_spec_DrawTreeChildren (F g : Nat) : ∀ args h r, u1 (c_spec_DrawTreeChildren F g) args h = some r → Tri Go.Proofs.Try.prog 39 args h r := by
  intro args h r e; obtain ⟨a0, rfl, e1⟩ := u1_some e; exact fn_sound Go.Proofs.Try.func39 rfl rfl rfl Go.Proofs.Try.ntmps39 (Sound.add (Sound.none _) (s_spec_l91Some F g)) ((k_spec_DrawTreeChildren F g a0 h).trans e1)

end
end Go.AI
namespace Go.AI.T
open Go Go.RowKit Go.AI
set_option linter.unusedVariables false
set_option linter.unusedSimpArgs false
set_option maxRecDepth 100000
noncomputable section
def c_spec_DrawTreeChildren (F g : Nat) (a0 : AV) (h : H) : Option R := quietC (Go.AI.c_spec_DrawTreeChildren 20000 20) a0 h
theorem s_spec_DrawTreeChildren (F g : Nat) : ∀ args h r, u1 (c_spec_DrawTreeChildren F g) args h = some r → Tri Go.Proofs.Try.prog id_spec_DrawTreeChildren args h r := quietC_sound (Go.AI.s_spec_DrawTreeChildren 20000 20)
theorem draw_FnChildren (F g : Nat) {a0 : AV} {n : Nat} {L : List AV} {B : Blk} (ha : (a0 = .leaf .nils ∧ n = 0) ∨ a0 = .osl 0 0 n 1) (hB : 0 < n → B = .cells 2 L) (hb : ∀ i, i < n → ∃ v, L[i]? = some (.int 4 (.ofNat v)) ∧ v < 256) :
    ∃ l, (l.length ≤ 300 ∧ (isTree l = true → l.length ≤ 16)) ∧ c_spec_DrawTreeChildren F g a0 (hCode B) = some (.str l l.length, hCode B) := by
  obtain ⟨l, h', hl, e, hlo⟩ := some_ok (F := 20000) (g := 20) (h := hCode B) (by omega) ha (fun hn => ⟨2, hB hn⟩) hb (Nat.le_refl _) (Nat.le_refl _)
  refine ⟨l, hl, quietC_ok (h' := h') ?_ rfl hlo⟩
  show bindR (Go.AI.c_spec_l91Some 20000 20 a0 (hCode B)) _ = _
  rw [e]; rfl
end
end Go.AI.T
namespace Go.AI.T
open Go Go.RowKit Go.AI
set_option linter.unusedVariables false
set_option linter.unusedSimpArgs false
set_option maxRecDepth 100000
noncomputable section
-- "(*loop.example/treenumbers/impl.node).text"
noncomputable def c_impl_node_text_l1 (F g : Nat) (self : AV → H → Option R) : List AV → H → (List AV → H → Option R) → Option R := fun vs h kc5 => (fun x6 x7 x8 x9 => aCmpI ilt x9 x8 h fun x10 h => withBool x10 fun t11 => bc t11 (aIdxAddr 1 x7 x9 h fun x12 h => aLoad x12 h fun x13 h => bindR (self x13 h) fun x14 h => aSAdd x6 x14 h fun x15 h => aArith iadd x9 (AV.int 3 (Int.ofNat 1)) h fun x16 h => kc5 [x15, x7, x8, x16] h) (aSAdd x6 (AV.str [41] 1) h fun x17 h => some (x17, h))) (hd vs) (hd (tl vs)) (hd (tl (tl vs))) (hd (tl (tl (tl vs))))
noncomputable def c_impl_node_text (F g : Nat) : AV → H → Option R := Nat.rec (motive := fun _ => AV → H → Option R) (fun _ _ => none) (fun g self a0 h => aNilCheck a0 h fun x1 h => aField 2 x1 h fun x2 h => aLoad x2 h fun x3 h => aLenK 1 x3 h fun x4 h => loopD F (c_impl_node_text_l1 F g self) [(AV.str [40] 1), x3, x4, (AV.int 3 (Int.ofNat 0))] h) g
noncomputable def A_impl_node_text : An := (.two .o (.two .o (.two (.two .o (.two (.at_ [3, 9, 10, 11] (.two .o (.two (.two .o .o) (.two (.two (.two .o .o) .o) .o))) .o) .o)) (.two .o .o))))
noncomputable def b_impl_node_text : Code := bodyOf Go.Proofs.Try.f93
theorem k_impl_node_text (F g : Nat) (a0 : AV) (h : H) : callD Go.Proofs.Try.prog (Env.add (fun _ _ _ => none : Env) 93 (u1 (c_impl_node_text F g))) 22 F b_impl_node_text [2] A_impl_node_text [a0] h = c_impl_node_text F (g + 1) a0 h := by kernel_rfl
theorem s_impl_node_text (F g : Nat) : ∀ args h r, u1 (c_impl_node_text F g) args h = some r → Tri Go.Proofs.Try.prog 93 args h r := by
  induction g with
  | zero => intro args h r e; obtain ⟨a0, rfl, e⟩ := u1_some e; cases e
  | succ g ih => intro args h r e; obtain ⟨a0, rfl, e1⟩ := u1_some e; exact fn_sound Go.Proofs.Try.func93 rfl rfl rfl Go.Proofs.Try.ntmps93 (Sound.add (Sound.none _) ih) ((k_impl_node_text F g a0 h).trans e1)

-- "loop.example/treenumbers/impl.TreeChildren"
noncomputable def c_impl_TreeChildren_l1 (F g : Nat) : List AV → H → (List AV → H → Option R) → Option R := fun vs h kc11 => (fun x12 x13 x14 x15 => aCmpI ilt x15 x14 h fun x16 h => withBool x16 fun t17 => bc t17 (aIdxAddr 1 x13 x15 h fun x18 h => aLoad x18 h fun x19 h => bindR (c_impl_node_text F g x19 h) fun x20 h => aBuildSlice 1 1 [(0, 1, x20)] h fun x21 h => aAppend 1 16 x12 x21 h fun x22 h => aArith iadd x15 (AV.int 3 (Int.ofNat 1)) h fun x23 h => kc11 [x22, x13, x14, x23] h) (some (AV.one .tup (AV.cons x12 (AV.cons (AV.bool true) (AV.leaf .nil))), h))) (hd vs) (hd (tl vs)) (hd (tl (tl vs))) (hd (tl (tl (tl vs))))
noncomputable def c_impl_TreeChildren (F g : Nat) (a0 : AV) (h : H) : Option R := bindR (c_impl_readTree F g a0 h) fun x1 h => aExtract x1 0 h fun x2 h => aExtract x1 1 h fun x3 h => aNot x3 h fun x4 h => withBool x4 fun t5 => bc t5 (some (AV.one .tup (AV.cons (AV.leaf .nils) (AV.cons (AV.bool false) (AV.leaf .nil))), h)) (aBuildSlice 0 1 [] h fun x6 h => aNilCheck x2 h fun x7 h => aField 2 x7 h fun x8 h => aLoad x8 h fun x9 h => aLenK 1 x9 h fun x10 h => loopD F (c_impl_TreeChildren_l1 F g) [x6, x9, x10, (AV.int 3 (Int.ofNat 0))] h)
noncomputable def A_impl_TreeChildren : An := (.two .o (.two .o (.two (.two .o (.two (.two .o .o) .o)) (.two .o (.two (.two .o (.two (.at_ [6, 20, 21, 22] (.two .o (.two (.two .o .o) (.two (.two (.two .o .o) .o) .o))) .o) .o)) (.two .o .o))))))
noncomputable def b_impl_TreeChildren : Code := bodyOf Go.Proofs.Try.f26
theorem k_impl_TreeChildren (F g : Nat) (a0 : AV) (h : H) : callD Go.Proofs.Try.prog (Env.add (Env.add (fun _ _ _ => none : Env) 91 (u1 (c_impl_readTree F g))) 93 (u1 (c_impl_node_text F g))) 33 F b_impl_TreeChildren [2, 3] A_impl_TreeChildren [a0] h = c_impl_TreeChildren F g a0 h := by kernel_rfl
theorem s_impl_TreeChildren (F g : Nat) : ∀ args h r, u1 (c_impl_TreeChildren F g) args h = some r → Tri Go.Proofs.Try.prog 26 args h r := by
  intro args h r e; obtain ⟨a0, rfl, e1⟩ := u1_some e; exact fn_sound Go.Proofs.Try.func26 rfl rfl rfl Go.Proofs.Try.ntmps26 (Sound.add (Sound.add (Sound.none _) (s_impl_readTree F g)) (s_impl_node_text F g)) ((k_impl_TreeChildren F g a0 h).trans e1)

-- "loop.example/treenumbers/spec.l1End"
noncomputable def c_spec_l1End_j1 (F g : Nat) (kc1 : List AV → H → Option R) (vs : List AV) (h : H) : Option R := (fun x8 x9 x10 => aCmpI ieq x9 (AV.int 3 (Int.ofNat 0)) h fun x11 h => withBool x11 fun t12 => bc t12 (aArith iadd x10 (AV.int 3 (Int.ofNat 1)) h fun x13 h => some (x13, h)) (aCmpI ilt x9 (AV.int 3 (Int.ofNat 0)) h fun x14 h => withBool x14 fun t15 => bc t15 (some ((AV.int 3 (Int.negSucc 0)), h)) (aArith iadd x10 (AV.int 3 (Int.ofNat 1)) h fun x16 h => kc1 [x8, x9, x16] h))) (hd vs) (hd (tl vs)) (hd (tl (tl vs)))
noncomputable def c_spec_l1End_l2 (F g : Nat) : List AV → H → (List AV → H → Option R) → Option R := fun vs h kc1 => (fun x2 x3 x4 => aLenK 0 x2 h fun x5 h => aCmpI ilt x4 x5 h fun x6 h => withBool x6 fun t7 => bc t7 (aIdxStr x2 x4 h fun x17 h => aCmpI ieq x17 (AV.int 4 (Int.ofNat 40)) h fun x18 h => withBool x18 fun t19 => bc t19 (aArith iadd x3 (AV.int 3 (Int.ofNat 1)) h fun x20 h => (c_spec_l1End_j1 F g kc1) [x2, x20, x4] h) (aCmpI ieq x17 (AV.int 4 (Int.ofNat 41)) h fun x21 h => withBool x21 fun t22 => bc t22 (aArith isub x3 (AV.int 3 (Int.ofNat 1)) h fun x23 h => (c_spec_l1End_j1 F g kc1) [x2, x23, x4] h) (some ((AV.int 3 (Int.negSucc 0)), h)))) (some ((AV.int 3 (Int.negSucc 0)), h))) (hd vs) (hd (tl vs)) (hd (tl (tl vs)))
noncomputable def c_spec_l1End (F g : Nat) (a0 a1 : AV) (h : H) : Option R := loopD F (c_spec_l1End_l2 F g) [a0, (AV.int 3 (Int.ofNat 0)), a1] h
noncomputable def A_spec_l1End : An := (.two .o (.two .o (.two (.two .o (.two (.at_ [0, 5, 6] (.two (.two .o (.two .o .o)) (.two (.two (.at_ [0, 5, 6] (.two .o (.two (.two .o (.two .o (.two .o (.two .o (.two .o .o))))) .o)) (.two (.two .o (.two (.two .o .o) .o)) (.two .o (.two (.two .o .o) .o)))) .o) .o)) .o) .o)) (.two .o .o))))
noncomputable def b_spec_l1End : Code := bodyOf Go.Proofs.Try.f92
theorem k_spec_l1End (F g : Nat) (a0 a1 : AV) (h : H) : callD Go.Proofs.Try.prog (fun _ _ _ => none : Env) 31 F b_spec_l1End [4] A_spec_l1End [a0, a1] h = c_spec_l1End F g a0 a1 h := by kernel_rfl
theorem s_spec_l1End (F g : Nat) : ∀ args h r, u2 (c_spec_l1End F g) args h = some r → Tri Go.Proofs.Try.prog 92 args h r := by
  intro args h r e; obtain ⟨a0, a1, rfl, e1⟩ := u2_some e; exact fn_sound Go.Proofs.Try.func92 rfl rfl rfl Go.Proofs.Try.ntmps92 (Sound.none _) ((k_spec_l1End F g a0 a1 h).trans e1)

-- "loop.example/treenumbers/spec.l1Kids"
noncomputable def c_spec_l1Kids_l1 (F g : Nat) : List AV → H → (List AV → H → Option R) → Option R := fun vs h kc2 => (fun x3 x4 x5 => aLenK 0 x3 h fun x6 h => aArith isub x6 (AV.int 3 (Int.ofNat 1)) h fun x7 h => aCmpI ilt x5 x7 h fun x8 h => withBool x8 fun t9 => bc t9 (bindR (c_spec_l1End F g x3 x5 h) fun x10 h => aSliceS x3 (some x5) (some x10) none h fun x11 h => aBuildSlice 1 1 [(0, 1, x11)] h fun x12 h => aAppend 1 16 x4 x12 h fun x13 h => kc2 [x3, x13, x10] h) (some (x4, h))) (hd vs) (hd (tl vs)) (hd (tl (tl vs)))
noncomputable def c_spec_l1Kids (F g : Nat) (a0 : AV) (h : H) : Option R := aBuildSlice 0 1 [] h fun x1 h => loopD F (c_spec_l1Kids_l1 F g) [a0, x1, (AV.int 3 (Int.ofNat 1))] h
noncomputable def A_spec_l1Kids : An := (.two .o (.two .o (.two .o (.two (.two (.at_ [0, 3, 4] (.two (.two .o (.two .o .o)) (.two (.two .o (.two .o .o)) .o)) .o) .o) (.two .o .o)))))
noncomputable def b_spec_l1Kids : Code := bodyOf Go.Proofs.Try.f102
theorem k_spec_l1Kids (F g : Nat) (a0 : AV) (h : H) : callD Go.Proofs.Try.prog (Env.add (fun _ _ _ => none : Env) 92 (u2 (c_spec_l1End F g))) 24 F b_spec_l1Kids [2] A_spec_l1Kids [a0] h = c_spec_l1Kids F g a0 h := by kernel_rfl
theorem s_spec_l1Kids (F g : Nat) : ∀ args h r, u1 (c_spec_l1Kids F g) args h = some r → Tri Go.Proofs.Try.prog 102 args h r := by
  intro args h r e; obtain ⟨a0, rfl, e1⟩ := u1_some e; exact fn_sound Go.Proofs.Try.func102 rfl rfl rfl Go.Proofs.Try.ntmps102 (Sound.add (Sound.none _) (s_spec_l1End F g)) ((k_spec_l1Kids F g a0 h).trans e1)

-- "loop.example/treenumbers/spec.TreeChildren"
noncomputable def c_spec_TreeChildren (F g : Nat) (a0 : AV) (h : H) : Option R := bindR (c_spec_TreeIn F g a0 h) fun x1 h => aNot x1 h fun x2 h => withBool x2 fun t3 => bc t3 (aBuildSlice 0 1 [] h fun x4 h => some (AV.one .tup (AV.cons x4 (AV.cons (AV.bool false) (AV.leaf .nil))), h)) (bindR (c_spec_l1Kids F g a0 h) fun x5 h => some (AV.one .tup (AV.cons x5 (AV.cons (AV.bool true) (AV.leaf .nil))), h))
noncomputable def A_spec_TreeChildren : An := (.two .o (.two (.two .o (.two (.two .o .o) .o)) (.two .o .o)))
noncomputable def b_spec_TreeChildren : Code := bodyOf Go.Proofs.Try.f40
theorem k_spec_TreeChildren (F g : Nat) (a0 : AV) (h : H) : callD Go.Proofs.Try.prog (Env.add (Env.add (fun _ _ _ => none : Env) 25 (u1 (c_spec_TreeIn F g))) 102 (u1 (c_spec_l1Kids F g))) 10 F b_spec_TreeChildren [2, 3] A_spec_TreeChildren [a0] h = c_spec_TreeChildren F g a0 h := by kernel_rfl
theorem s_spec_TreeChildren (F g : Nat) : ∀ args h r, u1 (c_spec_TreeChildren F g) args h = some r → Tri Go.Proofs.Try.prog 40 args h r := by
  intro args h r e; obtain ⟨a0, rfl, e1⟩ := u1_some e; exact fn_sound Go.Proofs.Try.func40 rfl rfl rfl Go.Proofs.Try.ntmps40 (Sound.add (Sound.add (Sound.none _) (s_spec_TreeIn F g)) (s_spec_l1Kids F g)) ((k_spec_TreeChildren F g a0 h).trans e1)

-- "loop.example/treenumbers/laws.sameTexts"
noncomputable def c_laws_sameTexts_l1 (F g : Nat) : List AV → H → (List AV → H → Option R) → Option R := fun vs h kc5 => (fun x6 x7 x8 => aLenK 1 x6 h fun x9 h => aCmpI ilt x8 x9 h fun x10 h => withBool x10 fun t11 => bc t11 (aIdxAddr 1 x6 x8 h fun x12 _ => aLoad x12 h fun x13 _ => aIdxAddr 1 x7 x8 h fun x14 _ => aLoad x14 h fun x15 _ => aCmpS (fun a b => bnot (eqL a b)) x13 x15 h fun x16 _ => withBool x16 fun t17 => bc t17 (some ((AV.bool false), h)) (aArith iadd x8 (AV.int 3 (Int.ofNat 1)) h fun x18 h => kc5 [x6, x7, x18] h)) (some ((AV.bool true), h))) (hd vs) (hd (tl vs)) (hd (tl (tl vs)))
noncomputable def c_laws_sameTexts (F g : Nat) (a0 a1 : AV) (h : H) : Option R := aLenK 1 a0 h fun x1 h => aLenK 1 a1 h fun x2 h => aCmpI (fun a b => bnot (ieq a b)) x1 x2 h fun x3 h => withBool x3 fun t4 => bc t4 (some ((AV.bool false), h)) (loopD F (c_laws_sameTexts_l1 F g) [a0, a1, (AV.int 3 (Int.ofNat 0))] h)
noncomputable def A_laws_sameTexts : An := (.two .o (.two (.two .o (.two (.two .o .o) .o)) (.two (.two .o (.two (.at_ [0, 1, 5] (.two (.two .o (.two .o .o)) (.two (.two (.two .o (.two (.two .o .o) .o)) .o) .o)) .o) .o)) (.two .o .o))))
noncomputable def b_laws_sameTexts : Code := bodyOf Go.Proofs.Try.f41
theorem k_laws_sameTexts (F g : Nat) (a0 a1 : AV) (h : H) : callD Go.Proofs.Try.prog (fun _ _ _ => none : Env) 26 F b_laws_sameTexts [4] A_laws_sameTexts [a0, a1] h = c_laws_sameTexts F g a0 a1 h := by kernel_rfl
theorem s_laws_sameTexts (F g : Nat) : ∀ args h r, u2 (c_laws_sameTexts F g) args h = some r → Tri Go.Proofs.Try.prog 41 args h r := by
  intro args h r e; obtain ⟨a0, a1, rfl, e1⟩ := u2_some e; exact fn_sound Go.Proofs.Try.func41 rfl rfl rfl Go.Proofs.Try.ntmps41 (Sound.none _) ((k_laws_sameTexts F g a0 a1 h).trans e1)

-- "(*loop.example/treenumbers/impl.node).nodes"
noncomputable def c_impl_node_nodes_l1 (F g : Nat) (self : AV → H → Option R) : List AV → H → (List AV → H → Option R) → Option R := fun vs h kc6 => (fun x7 x8 x9 x10 => aCmpI ilt x10 x9 h fun x11 h => withBool x11 fun t12 => bc t12 (aIdxAddr 1 x8 x10 h fun x13 h => aLoad x13 h fun x14 h => bindR (self x14 h) fun x15 h => aAppend 1 8 x7 x15 h fun x16 h => aArith iadd x10 (AV.int 3 (Int.ofNat 1)) h fun x17 h => kc6 [x16, x8, x9, x17] h) (some (x7, h))) (hd vs) (hd (tl vs)) (hd (tl (tl vs))) (hd (tl (tl (tl vs))))
noncomputable def c_impl_node_nodes (F g : Nat) : AV → H → Option R := Nat.rec (motive := fun _ => AV → H → Option R) (fun _ _ => none) (fun g self a0 h => aBuildSlice 1 1 [(0, 1, a0)] h fun x1 h => aNilCheck a0 h fun x2 h => aField 2 x2 h fun x3 h => aLoad x3 h fun x4 h => aLenK 1 x4 h fun x5 h => loopD F (c_impl_node_nodes_l1 F g self) [x1, x4, x5, (AV.int 3 (Int.ofNat 0))] h) g
noncomputable def A_impl_node_nodes : An := (.two .o (.two .o (.two (.two .o (.two (.at_ [3, 11, 12, 13] (.two .o (.two (.two .o .o) (.two (.two (.two .o .o) .o) .o))) .o) .o)) (.two .o .o))))
noncomputable def b_impl_node_nodes : Code := bodyOf Go.Proofs.Try.f95
theorem k_impl_node_nodes (F g : Nat) (a0 : AV) (h : H) : callD Go.Proofs.Try.prog (Env.add (fun _ _ _ => none : Env) 95 (u1 (c_impl_node_nodes F g))) 23 F b_impl_node_nodes [2] A_impl_node_nodes [a0] h = c_impl_node_nodes F (g + 1) a0 h := by kernel_rfl
theorem s_impl_node_nodes (F g : Nat) : ∀ args h r, u1 (c_impl_node_nodes F g) args h = some r → Tri Go.Proofs.Try.prog 95 args h r := by
  induction g with
  | zero => intro args h r e; obtain ⟨a0, rfl, e⟩ := u1_some e; cases e
  | succ g ih => intro args h r e; obtain ⟨a0, rfl, e1⟩ := u1_some e; exact fn_sound Go.Proofs.Try.func95 rfl rfl rfl Go.Proofs.Try.ntmps95 (Sound.add (Sound.none _) ih) ((k_impl_node_nodes F g a0 h).trans e1)

-- "loop.example/treenumbers/impl.TreePart"
noncomputable def c_impl_TreePart_j1 (F g : Nat) (vs : List AV) (h : H) : Option R := (fun x8 x9 x10 x11 => aPick x10 (AV.bool true) x11 h fun x12 h => withBool x12 fun t13 => bc t13 (some (AV.one .tup (AV.cons (AV.str [] 0) (AV.cons (AV.bool false) (AV.leaf .nil))), h)) (aIdxAddr 1 x9 x8 h fun x14 h => aLoad x14 h fun x15 h => bindR (c_impl_node_text F g x15 h) fun x16 h => some (AV.one .tup (AV.cons x16 (AV.cons (AV.bool true) (AV.leaf .nil))), h))) (hd vs) (hd (tl vs)) (hd (tl (tl vs))) (hd (tl (tl (tl vs))))
noncomputable def c_impl_TreePart (F g : Nat) (a0 a1 : AV) (h : H) : Option R := bindR (c_impl_readTree F g a0 h) fun x1 h => aExtract x1 0 h fun x2 h => aExtract x1 1 h fun x3 h => aNot x3 h fun x4 h => withBool x4 fun t5 => bc t5 (some (AV.one .tup (AV.cons (AV.str [] 0) (AV.cons (AV.bool false) (AV.leaf .nil))), h)) (bindR (c_impl_node_nodes F g x2 h) fun x6 h => aCmpI ilt a1 (AV.int 3 (Int.ofNat 0)) h fun x7 h => guardB false x7 (aLenK 1 x6 h fun x17 h => aCmpI (fun a b => ile b a) a1 x17 h fun x18 h => (c_impl_TreePart_j1 F g) [a1, x6, x7, x18] h) ((c_impl_TreePart_j1 F g) [a1, x6, x7, (AV.one .tup (AV.leaf .nil))] h))
noncomputable def A_impl_TreePart : An := (.two .o (.two .o (.two (.two .o (.two (.two .o .o) .o)) (.two .o (.two (.two (.at_ [1, 8, 20, 24] .o .o) (.two (.two .o .o) .o)) (.two .o .o))))))
noncomputable def b_impl_TreePart : Code := bodyOf Go.Proofs.Try.f42
theorem k_impl_TreePart (F g : Nat) (a0 a1 : AV) (h : H) : callD Go.Proofs.Try.prog (Env.add (Env.add (Env.add (fun _ _ _ => none : Env) 91 (u1 (c_impl_readTree F g))) 95 (u1 (c_impl_node_nodes F g))) 93 (u1 (c_impl_node_text F g))) 31 F b_impl_TreePart [4, 5] A_impl_TreePart [a0, a1] h = c_impl_TreePart F g a0 a1 h := by kernel_rfl
theorem s_impl_TreePart (F g : Nat) : ∀ args h r, u2 (c_impl_TreePart F g) args h = some r → Tri Go.Proofs.Try.prog 42 args h r := by
  intro args h r e; obtain ⟨a0, a1, rfl, e1⟩ := u2_some e; exact fn_sound Go.Proofs.Try.func42 rfl rfl rfl Go.Proofs.Try.ntmps42 (Sound.add (Sound.add (Sound.add (Sound.none _) (s_impl_readTree F g)) (s_impl_node_nodes F g)) (s_impl_node_text F g)) ((k_impl_TreePart F g a0 a1 h).trans e1)

-- "loop.example/treenumbers/laws.FnChildren"
noncomputable def c_laws_FnChildren_j1 (F g : Nat) (vs : List AV) (h : H) : Option R := (fun x30 x31 => aPick x30 x31 (AV.bool false) h fun x32 h => some (x32, h)) (hd vs) (hd (tl vs))
noncomputable def c_laws_FnChildren_j2 (F g : Nat) (vs : List AV) (h : H) : Option R := (fun x62 x63 => aPick x62 (AV.bool true) x63 h fun x64 h => some (x64, h)) (hd vs) (hd (tl vs))
noncomputable def c_laws_FnChildren_j3 (F g : Nat) (vs : List AV) (h : H) : Option R := (fun x59 x60 x61 => guardB false x59 (aPick x60 x61 (AV.bool false) h fun x65 h => (c_laws_FnChildren_j2 F g) [x59, x65] h) ((c_laws_FnChildren_j2 F g) [x59, (AV.one .tup (AV.leaf .nil))] h)) (hd vs) (hd (tl vs)) (hd (tl (tl vs)))
noncomputable def c_laws_FnChildren_j4 (F g : Nat) (vs : List AV) (h : H) : Option R := (fun x55 x56 x57 x58 => guardB true x58 (aIdxAddr 1 x55 (AV.int 3 (Int.ofNat 0)) h fun x66 h => aLoad x66 h fun x67 h => aCmpS eqL x56 x67 h fun x68 h => (c_laws_FnChildren_j3 F g) [x57, x58, x68] h) ((c_laws_FnChildren_j3 F g) [x57, x58, (AV.one .tup (AV.leaf .nil))] h)) (hd vs) (hd (tl vs)) (hd (tl (tl vs))) (hd (tl (tl (tl vs))))
noncomputable def c_laws_FnChildren_j5 (F g : Nat) (vs : List AV) (h : H) : Option R := (fun x50 x51 x52 x53 x54 => guardB false x52 (aPick x53 x54 (AV.bool false) h fun x69 h => (c_laws_FnChildren_j4 F g) [x50, x51, x52, x69] h) ((c_laws_FnChildren_j4 F g) [x50, x51, x52, (AV.one .tup (AV.leaf .nil))] h)) (hd vs) (hd (tl vs)) (hd (tl (tl vs))) (hd (tl (tl (tl vs)))) (hd (tl (tl (tl (tl vs)))))
noncomputable def c_laws_FnChildren_j6 (F g : Nat) (vs : List AV) (h : H) : Option R := (fun x45 x46 x47 x48 x49 => guardB true x49 ((c_laws_FnChildren_j5 F g) [x45, x46, x48, x49, x47] h) ((c_laws_FnChildren_j5 F g) [x45, x46, x48, x49, (AV.one .tup (AV.leaf .nil))] h)) (hd vs) (hd (tl vs)) (hd (tl (tl vs))) (hd (tl (tl (tl vs)))) (hd (tl (tl (tl (tl vs)))))
noncomputable def c_laws_FnChildren_j7 (F g : Nat) (vs : List AV) (h : H) : Option R := (fun x39 x40 x41 x42 x43 => aPick x42 x43 (AV.bool false) h fun x44 h => guardB false x44 (aLenK 1 x39 h fun x70 h => aCmpI (fun a b => ilt b a) x70 (AV.int 3 (Int.ofNat 0)) h fun x71 h => (c_laws_FnChildren_j6 F g) [x39, x40, x41, x44, x71] h) ((c_laws_FnChildren_j6 F g) [x39, x40, x41, x44, (AV.one .tup (AV.leaf .nil))] h)) (hd vs) (hd (tl vs)) (hd (tl (tl vs))) (hd (tl (tl (tl vs)))) (hd (tl (tl (tl (tl vs)))))
noncomputable def c_laws_FnChildren_j8 (F g : Nat) (vs : List AV) (h : H) : Option R := (fun x20 x21 x22 x23 x24 x25 x26 => aPick x25 (AV.bool true) x26 h fun x27 h => withBool x27 fun t28 => bc t28 (aEq false 0 x22 x24 h fun x29 h => guardB true x29 (bindR (c_laws_sameTexts F g x21 x23 h) fun x33 h => (c_laws_FnChildren_j1 F g) [x29, x33] h) ((c_laws_FnChildren_j1 F g) [x29, (AV.one .tup (AV.leaf .nil))] h)) (bindR (c_impl_TreePart F g x20 (AV.int 3 (Int.ofNat 1)) h) fun x34 h => aExtract x34 0 h fun x35 h => aExtract x34 1 h fun x36 h => aLenK 1 x21 h fun x37 h => aCmpI ieq x37 (AV.int 3 (Int.ofNat 0)) h fun x38 h => guardB true x38 (aNot x36 h fun x72 h => (c_laws_FnChildren_j7 F g) [x21, x35, x36, x38, x72] h) ((c_laws_FnChildren_j7 F g) [x21, x35, x36, x38, (AV.one .tup (AV.leaf .nil))] h))) (hd vs) (hd (tl vs)) (hd (tl (tl vs))) (hd (tl (tl (tl vs)))) (hd (tl (tl (tl (tl vs))))) (hd (tl (tl (tl (tl (tl vs)))))) (hd (tl (tl (tl (tl (tl (tl vs)))))))
noncomputable def c_laws_FnChildren_j9 (F g : Nat) (vs : List AV) (h : H) : Option R := (fun x12 x13 x14 x15 x16 x17 x18 => aPick x17 (AV.bool true) x18 h fun x19 h => guardB false x19 (aNot x14 h fun x73 h => (c_laws_FnChildren_j8 F g) [x12, x13, x14, x15, x16, x19, x73] h) ((c_laws_FnChildren_j8 F g) [x12, x13, x14, x15, x16, x19, (AV.one .tup (AV.leaf .nil))] h)) (hd vs) (hd (tl vs)) (hd (tl (tl vs))) (hd (tl (tl (tl vs)))) (hd (tl (tl (tl (tl vs))))) (hd (tl (tl (tl (tl (tl vs)))))) (hd (tl (tl (tl (tl (tl (tl vs)))))))
noncomputable def c_laws_FnChildren_r10 (F g : Nat) (x4 : AV) (h : H) : Option R := bindR (c_impl_TreeChildren F g x4 h) fun x5 h => aExtract x5 0 h fun x6 h => aExtract x5 1 h fun x7 h => bindR (c_spec_TreeChildren F g x4 h) fun x8 h => aExtract x8 0 h fun x9 h => aExtract x8 1 h fun x10 h => aEq true 0 x7 x10 h fun x11 h => guardB false x11 (bindR (c_laws_sameTexts F g x6 x9 h) fun x74 h => aNot x74 h fun x75 h => (c_laws_FnChildren_j9 F g) [x4, x6, x7, x9, x10, x11, x75] h) ((c_laws_FnChildren_j9 F g) [x4, x6, x7, x9, x10, x11, (AV.one .tup (AV.leaf .nil))] h)
noncomputable def c_laws_FnChildren (F g : Nat) (a0 : AV) (h : H) : Option R := aLenK 1 a0 h fun x1 h => aCmpI (fun a b => ilt b a) x1 (AV.int 3 (Int.ofNat 1048576)) h fun x2 h => withBool x2 fun t3 => bc t3 (some ((AV.bool true), h)) (bindR (c_spec_DrawTreeChildren F g a0 h) fun x4 h => c_laws_FnChildren_r10 F g x4 h)
noncomputable def A_laws_FnChildren : An := (.two .o (.two (.two .o (.two (.two .o .o) .o)) (.two .o (.two .o (.two .o (.two (.two (.at_ [3, 4, 5, 6, 7, 28, 32] .o (.at_ [3, 4, 5, 6, 7, 34, 36] .o .o)) (.two (.two (.at_ [41, 44] .o .o) .o) .o)) (.two .o (.two (.at_ [4, 8, 9, 54, 56] .o (.at_ [4, 8, 9, 58, 62] .o (.at_ [4, 8, 58, 62, 63] .o (.at_ [4, 8, 58, 65] .o (.at_ [58, 65, 70] .o (.at_ [58, 71] .o .o)))))) .o))))))))
noncomputable def b_laws_FnChildren : Code := bodyOf Go.Proofs.Try.f7
theorem k_laws_FnChildren (F g : Nat) (a0 : AV) (h : H) : callD Go.Proofs.Try.prog (Env.add (Env.add (Env.add (Env.add (Env.add (fun _ _ _ => none : Env) 39 (u1 (c_spec_DrawTreeChildren F g))) 26 (u1 (c_impl_TreeChildren F g))) 40 (u1 (c_spec_TreeChildren F g))) 41 (u2 (c_laws_sameTexts F g))) 42 (u2 (c_impl_TreePart F g))) 73 F b_laws_FnChildren [2] A_laws_FnChildren [a0] h = c_laws_FnChildren F g a0 h := by kernel_rfl
theorem s_laws_FnChildren (F g : Nat) : ∀ args h r, u1 (c_laws_FnChildren F g) args h = some r → Tri Go.Proofs.Try.prog 7 args h r := by
  intro args h r e; obtain ⟨a0, rfl, e1⟩ := u1_some e; exact fn_sound Go.Proofs.Try.func7 rfl rfl rfl Go.Proofs.Try.ntmps7 (Sound.add (Sound.add (Sound.add (Sound.add (Sound.add (Sound.none _) (s_spec_DrawTreeChildren F g)) (s_impl_TreeChildren F g)) (s_spec_TreeChildren F g)) (s_laws_sameTexts F g)) (s_impl_TreePart F g)) ((k_laws_FnChildren F g a0 h).trans e1)

end
end Go.AI.T
