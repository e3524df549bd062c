/- The functions that the law FnPart reaches, as the evaluator reads them, in company. -/
import Derived.Test.YtkdialpmplolcaaCo7
import Derived.KernelRfl
namespace Go.AI
open Go Go.Proofs.Try Go.RowKit Go.AI Go.Conc Go.Co Go.Co.Cnt
set_option linter.unusedVariables false
set_option linter.unusedSimpArgs false
set_option maxRecDepth 100000
noncomputable section
variable {Post : Value -> World -> Prop} {main : Bool} {fk : Option Fk}
noncomputable def c_spec_DrawTreePart (F g : Nat) (a0 : AV) (h : H) : Option R := bindR (c_spec_l91Node F g a0 h) fun x1 h => aExtract x1 0 h fun x2 h => aExtract x1 1 h fun x3 h => some (AV.one .tup (AV.cons x2 (AV.cons x3 (AV.leaf .nil))), h)
noncomputable def A_spec_DrawTreePart : An := (.two .o (.two .o .o))
noncomputable def b_spec_DrawTreePart : Code := bodyOf f22
theorem k_spec_DrawTreePart (F g : Nat) (a0 : AV) (h : H) : callD prog (Env.add (fun _ _ _ => none : Env) 67 (u1 (c_spec_l91Node F g))) 8 F b_spec_DrawTreePart [2, 3] A_spec_DrawTreePart [a0] h = c_spec_DrawTreePart F g a0 h := by kernel_rfl
theorem co_spec_DrawTreePart (F g : Nat) : ∀ args h r, u1 (c_spec_DrawTreePart F g) args h = some r -> CoTri prog tW Post main (fk, true) 22 args h r := by
  intro args h r e; obtain ⟨a0, rfl, e1⟩ := u1_some e; exact fn_soundC func22 rfl rfl rfl ntmps22 (by kernel_rfl) (CoSound.add (CoSound.none _ _ _ _ _) (co_spec_l91Node F g)) ((k_spec_DrawTreePart F g a0 h).trans e1)

end
end Go.AI
namespace Go.AI.T
open Go Go.Proofs.Try Go.RowKit Go.AI Go.Conc Go.Co Go.Co.Cnt
set_option linter.unusedVariables false
set_option linter.unusedSimpArgs false
set_option maxRecDepth 100000
noncomputable section
variable {Post : Value -> World -> Prop} {main : Bool} {fk : Option Fk}
def c_spec_DrawTreePart (F g : Nat) (a0 : AV) (h : H) : Option R := quietC (Go.AI.c_spec_DrawTreePart 20000 20) a0 h
theorem co_spec_DrawTreePart (F g : Nat) : ∀ args h r, u1 (c_spec_DrawTreePart F g) args h = some r -> CoTri prog tW Post main (fk, true) id_spec_DrawTreePart args h r := co_quietC (Go.AI.co_spec_DrawTreePart 20000 20)
theorem wk_spec_DrawTreePart (F g : Nat) : ∀ args h r, u1 (c_spec_DrawTreePart F g) args h = some r -> CoTri prog tW Post main (none, false) id_spec_DrawTreePart args h r := fun args h r e => (co_spec_DrawTreePart F g args h r e).weak
theorem draw_FnPart (F g : Nat) {a0 : AV} {n : Nat} {L : List AV} {B : Blk} (ha : (a0 = .leaf .nils /\ n = 0) \/ a0 = .osl 0 0 n 1) (hB : 0 < n -> B = .cells 2 L) (hb : ∀ i, i < n -> ∃ v, L[i]? = some (.int 4 (.ofNat v)) /\ v < 256) :
    ∃ l z, (l.length <= 300 /\ (isTree l = true -> l.length <= 16)) /\ (z = .negSucc 0 \/ ∃ j, z = .ofNat j /\ j <= l.length / 2 + 0) /\ c_spec_DrawTreePart F g a0 (hCode B) = some ((.one .tup (.cons (.str l l.length) (.cons (.int 3 z) (.leaf .nil)))), hCode B) := by
  obtain ⟨l, z, h', hl, hz, e, hlo⟩ := node_ok (F := 20000) (g := 20) (h := hCode B) (by omega) ha (fun hn => ⟨2, hB hn⟩) hb (Nat.le_refl _) (Nat.le_refl _)
  refine ⟨l, z, hl, hz, quietC_ok (h' := h') ?_ rfl hlo⟩
  show bindR (Go.AI.c_spec_l91Node 20000 20 a0 (hCode B)) _ = _
  rw [e]; rfl
noncomputable def c_impl_node_nodes_l1 (F g : Nat) (self : AV -> H -> Option R) : List AV -> H -> (List AV -> H -> Option R) -> Option R := fun vs h kc6 => (fun x7 x8 x9 x10 => aCmpI ilt x10 x9 h fun x11 h => withBool x11 fun t12 => bc t12 (aIdxAddr 1 x8 x10 h fun x13 h => aLoad x13 h fun x14 h => bindR (self x14 h) fun x15 h => aAppend 1 8 x7 x15 h fun x16 h => aArith iadd x10 (AV.int 3 (Int.ofNat 1)) h fun x17 h => kc6 [x16, x8, x9, x17] h) (some (x7, h))) (hd vs) (hd (tl vs)) (hd (tl (tl vs))) (hd (tl (tl (tl vs))))
noncomputable def c_impl_node_nodes (F g : Nat) : AV -> H -> Option R := Nat.rec (motive := fun _ => AV -> H -> Option R) (fun _ _ => none) (fun g self a0 h => aBuildSlice 1 1 [(0, 1, a0)] h fun x1 h => aNilCheck a0 h fun x2 h => aField 2 x2 h fun x3 h => aLoad x3 h fun x4 h => aLenK 1 x4 h fun x5 h => loopD F (c_impl_node_nodes_l1 F g self) [x1, x4, x5, (AV.int 3 (Int.ofNat 0))] h) g
noncomputable def A_impl_node_nodes : An := (.two .o (.two .o (.two (.two .o (.two (.at_ [3, 11, 12, 13] (.two .o (.two (.two .o .o) (.two (.two (.two .o .o) .o) .o))) .o) .o)) (.two .o .o))))
noncomputable def b_impl_node_nodes : Code := bodyOf f69
theorem k_impl_node_nodes (F g : Nat) (a0 : AV) (h : H) : callD prog (Env.add (fun _ _ _ => none : Env) 69 (u1 (c_impl_node_nodes F g))) 23 F b_impl_node_nodes [2] A_impl_node_nodes [a0] h = c_impl_node_nodes F (g + 1) a0 h := by kernel_rfl
theorem co_impl_node_nodes (F g : Nat) : ∀ args h r, u1 (c_impl_node_nodes F g) args h = some r -> CoTri prog tW Post main (fk, true) 69 args h r := by
  induction g with
  | zero => intro args h r e; obtain ⟨a0, rfl, e⟩ := u1_some e; cases e
  | succ g ih => intro args h r e; obtain ⟨a0, rfl, e1⟩ := u1_some e; exact fn_soundC func69 rfl rfl rfl ntmps69 (by kernel_rfl) (CoSound.add (CoSound.none _ _ _ _ _) ih) ((k_impl_node_nodes F g a0 h).trans e1)
noncomputable def c_impl_node_size (F g : Nat) (a0 : AV) (h : H) : Option R := bindR (c_impl_node_nodes F g a0 h) fun x1 h => aLenK 1 x1 h fun x2 h => some (x2, h)
noncomputable def A_impl_node_size : An := (.two .o (.two .o .o))
noncomputable def b_impl_node_size : Code := bodyOf f74
theorem k_impl_node_size (F g : Nat) (a0 : AV) (h : H) : callD prog (Env.add (fun _ _ _ => none : Env) 69 (u1 (c_impl_node_nodes F g))) 6 F b_impl_node_size [2] A_impl_node_size [a0] h = c_impl_node_size F g a0 h := by kernel_rfl
theorem co_impl_node_size (F g : Nat) : ∀ args h r, u1 (c_impl_node_size F g) args h = some r -> CoTri prog tW Post main (fk, true) 74 args h r := by
  intro args h r e; obtain ⟨a0, rfl, e1⟩ := u1_some e; exact fn_soundC func74 rfl rfl rfl ntmps74 (by kernel_rfl) (CoSound.add (CoSound.none _ _ _ _ _) (co_impl_node_nodes F g)) ((k_impl_node_size F g a0 h).trans e1)
theorem wk_impl_node_size (F g : Nat) : ∀ args h r, u1 (c_impl_node_size F g) args h = some r -> CoTri prog tW Post main (none, false) 74 args h r := fun args h r e => (co_impl_node_size F g args h r e).weak
noncomputable def c_impl_node_text_l1 (F g : Nat) (self : AV -> H -> Option R) : List AV -> H -> (List AV -> H -> Option R) -> Option R := fun vs h kc5 => (fun x6 x7 x8 x9 => aCmpI ilt x9 x8 h fun x10 h => withBool x10 fun t11 => bc t11 (aIdxAddr 1 x7 x9 h fun x12 h => aLoad x12 h fun x13 h => bindR (self x13 h) fun x14 h => aSAdd x6 x14 h fun x15 h => aArith iadd x9 (AV.int 3 (Int.ofNat 1)) h fun x16 h => kc5 [x15, x7, x8, x16] h) (aSAdd x6 (AV.str [41] 1) h fun x17 h => some (x17, h))) (hd vs) (hd (tl vs)) (hd (tl (tl vs))) (hd (tl (tl (tl vs))))
noncomputable def c_impl_node_text (F g : Nat) : AV -> H -> Option R := Nat.rec (motive := fun _ => AV -> H -> Option R) (fun _ _ => none) (fun g self a0 h => aNilCheck a0 h fun x1 h => aField 2 x1 h fun x2 h => aLoad x2 h fun x3 h => aLenK 1 x3 h fun x4 h => loopD F (c_impl_node_text_l1 F g self) [(AV.str [40] 1), x3, x4, (AV.int 3 (Int.ofNat 0))] h) g
noncomputable def A_impl_node_text : An := (.two .o (.two .o (.two (.two .o (.two (.at_ [3, 9, 10, 11] (.two .o (.two (.two .o .o) (.two (.two (.two .o .o) .o) .o))) .o) .o)) (.two .o .o))))
noncomputable def b_impl_node_text : Code := bodyOf f70
theorem k_impl_node_text (F g : Nat) (a0 : AV) (h : H) : callD prog (Env.add (fun _ _ _ => none : Env) 70 (u1 (c_impl_node_text F g))) 22 F b_impl_node_text [2] A_impl_node_text [a0] h = c_impl_node_text F (g + 1) a0 h := by kernel_rfl
theorem co_impl_node_text (F g : Nat) : ∀ args h r, u1 (c_impl_node_text F g) args h = some r -> CoTri prog tW Post main (fk, true) 70 args h r := by
  induction g with
  | zero => intro args h r e; obtain ⟨a0, rfl, e⟩ := u1_some e; cases e
  | succ g ih => intro args h r e; obtain ⟨a0, rfl, e1⟩ := u1_some e; exact fn_soundC func70 rfl rfl rfl ntmps70 (by kernel_rfl) (CoSound.add (CoSound.none _ _ _ _ _) ih) ((k_impl_node_text F g a0 h).trans e1)
noncomputable def c_impl_TreePart_j1 (F g : Nat) (vs : List AV) (h : H) : Option R := (fun x8 x9 x10 x11 => aPick x10 (AV.bool true) x11 h fun x12 h => withBool x12 fun t13 => bc t13 (some (AV.one .tup (AV.cons (AV.str [] 0) (AV.cons (AV.bool false) (AV.leaf .nil))), h)) (aIdxAddr 1 x9 x8 h fun x14 h => aLoad x14 h fun x15 h => bindR (c_impl_node_text F g x15 h) fun x16 h => some (AV.one .tup (AV.cons x16 (AV.cons (AV.bool true) (AV.leaf .nil))), h))) (hd vs) (hd (tl vs)) (hd (tl (tl vs))) (hd (tl (tl (tl vs))))
noncomputable def c_impl_TreePart (F g : Nat) (a0 a1 : AV) (h : H) : Option R := bindR (c_impl_readTree F g a0 h) fun x1 h => aExtract x1 0 h fun x2 h => aExtract x1 1 h fun x3 h => aNot x3 h fun x4 h => withBool x4 fun t5 => bc t5 (some (AV.one .tup (AV.cons (AV.str [] 0) (AV.cons (AV.bool false) (AV.leaf .nil))), h)) (bindR (c_impl_node_nodes F g x2 h) fun x6 h => aCmpI ilt a1 (AV.int 3 (Int.ofNat 0)) h fun x7 h => guardB false x7 (aLenK 1 x6 h fun x17 h => aCmpI (fun a b => ile b a) a1 x17 h fun x18 h => (c_impl_TreePart_j1 F g) [a1, x6, x7, x18] h) ((c_impl_TreePart_j1 F g) [a1, x6, x7, (AV.one .tup (AV.leaf .nil))] h))
noncomputable def A_impl_TreePart : An := (.two .o (.two .o (.two (.two .o (.two (.two .o .o) .o)) (.two .o (.two (.two (.at_ [1, 8, 20, 24] .o .o) (.two (.two .o .o) .o)) (.two .o .o))))))
noncomputable def b_impl_TreePart : Code := bodyOf f23
theorem k_impl_TreePart (F g : Nat) (a0 a1 : AV) (h : H) : callD prog (Env.add (Env.add (Env.add (fun _ _ _ => none : Env) 68 (u1 (c_impl_readTree F g))) 69 (u1 (c_impl_node_nodes F g))) 70 (u1 (c_impl_node_text F g))) 31 F b_impl_TreePart [4, 5] A_impl_TreePart [a0, a1] h = c_impl_TreePart F g a0 a1 h := by kernel_rfl
theorem co_impl_TreePart (F g : Nat) : ∀ args h r, u2 (c_impl_TreePart F g) args h = some r -> CoTri prog tW Post main (fk, true) 23 args h r := by
  intro args h r e; obtain ⟨a0, a1, rfl, e1⟩ := u2_some e; exact fn_soundC func23 rfl rfl rfl ntmps23 (by kernel_rfl) (CoSound.add (CoSound.add (CoSound.add (CoSound.none _ _ _ _ _) (co_impl_readTree F g)) (co_impl_node_nodes F g)) (co_impl_node_text F g)) ((k_impl_TreePart F g a0 a1 h).trans e1)
theorem wk_impl_TreePart (F g : Nat) : ∀ args h r, u2 (c_impl_TreePart F g) args h = some r -> CoTri prog tW Post main (none, false) 23 args h r := fun args h r e => (co_impl_TreePart F g args h r e).weak
noncomputable def c_spec_l6In_j1 (F g : Nat) (vs : List AV) (h : H) : Option R := (fun x2 x3 => aPick x2 x3 (AV.bool false) h fun x4 h => some (x4, h)) (hd vs) (hd (tl vs))
noncomputable def c_spec_l6In (F g : Nat) (a0 a1 a2 : AV) (h : H) : Option R := aCmpI (fun a b => ile b a) a0 a1 h fun x1 h => guardB true x1 (aCmpI ile a0 a2 h fun x5 h => (c_spec_l6In_j1 F g) [x1, x5] h) ((c_spec_l6In_j1 F g) [x1, (AV.one .tup (AV.leaf .nil))] h)
noncomputable def A_spec_l6In : An := (.two .o (.two (.at_ [10, 13] .o .o) .o))
noncomputable def b_spec_l6In : Code := bodyOf f99
theorem k_spec_l6In (F g : Nat) (a0 a1 a2 : AV) (h : H) : callD prog (fun _ _ _ => none : Env) 15 F b_spec_l6In [6] A_spec_l6In [a0, a1, a2] h = c_spec_l6In F g a0 a1 a2 h := by kernel_rfl
theorem co_spec_l6In (F g : Nat) : ∀ args h r, u3 (c_spec_l6In F g) args h = some r -> CoTri prog tW Post main (fk, true) 99 args h r := by
  intro args h r e; obtain ⟨a0, a1, a2, rfl, e1⟩ := u3_some e; exact fn_soundC func99 rfl rfl rfl ntmps99 (by kernel_rfl) (CoSound.none _ _ _ _ _) ((k_spec_l6In F g a0 a1 a2 h).trans e1)
noncomputable def c_spec_l1Node_j1 (F g : Nat) (vs : List AV) (h : H) : Option R := (fun x2 x3 => aPick x2 x3 (AV.bool false) h fun x4 h => some (x4, h)) (hd vs) (hd (tl vs))
noncomputable def c_spec_l1Node (F g : Nat) (a0 a1 : AV) (h : H) : Option R := bindR (c_spec_TreeIn F g a0 h) fun x1 h => guardB true x1 (aLenK 0 a0 h fun x5 h => aQuo x5 (AV.int 3 (Int.ofNat 2)) h fun x6 h => aArith isub x6 (AV.int 3 (Int.ofNat 1)) h fun x7 h => bindR (c_spec_l6In F g a1 (AV.int 3 (Int.ofNat 0)) x7 h) fun x8 h => (c_spec_l1Node_j1 F g) [x1, x8] h) ((c_spec_l1Node_j1 F g) [x1, (AV.one .tup (AV.leaf .nil))] h)
noncomputable def A_spec_l1Node : An := (.two .o (.two (.at_ [7, 13] .o .o) .o))
noncomputable def b_spec_l1Node : Code := bodyOf f71
theorem k_spec_l1Node (F g : Nat) (a0 a1 : AV) (h : H) : callD prog (Env.add (Env.add (fun _ _ _ => none : Env) 78 (u1 (c_spec_TreeIn F g))) 99 (u3 (c_spec_l6In F g))) 15 F b_spec_l1Node [4] A_spec_l1Node [a0, a1] h = c_spec_l1Node F g a0 a1 h := by kernel_rfl
theorem co_spec_l1Node (F g : Nat) : ∀ args h r, u2 (c_spec_l1Node F g) args h = some r -> CoTri prog tW Post main (fk, true) 71 args h r := by
  intro args h r e; obtain ⟨a0, a1, rfl, e1⟩ := u2_some e; exact fn_soundC func71 rfl rfl rfl ntmps71 (by kernel_rfl) (CoSound.add (CoSound.add (CoSound.none _ _ _ _ _) (co_spec_TreeIn F g)) (co_spec_l6In F g)) ((k_spec_l1Node F g a0 a1 h).trans e1)
noncomputable def c_spec_l1Opens_j1 (F g : Nat) (kc2 : List AV -> H -> Option R) (vs : List AV) (h : H) : Option R := (fun x9 x10 x11 => aArith iadd x11 (AV.int 3 (Int.ofNat 1)) h fun x12 h => kc2 [x9, x10, x12] h) (hd vs) (hd (tl vs)) (hd (tl (tl vs)))
noncomputable def c_spec_l1Opens_l2 (F g : Nat) : List AV -> H -> (List AV -> H -> Option R) -> Option R := fun vs h kc2 => (fun x3 x4 x5 => aLenK 0 x3 h fun x6 h => aCmpI ilt x5 x6 h fun x7 h => withBool x7 fun t8 => bc t8 (aIdxStr x3 x5 h fun x13 h => aCmpI ieq x13 (AV.int 4 (Int.ofNat 40)) h fun x14 h => withBool x14 fun t15 => bc t15 (aBuildSlice 1 1 [(0, 1, x5)] h fun x16 h => aAppend 1 8 x4 x16 h fun x17 h => (c_spec_l1Opens_j1 F g kc2) [x3, x17, x5] h) ((c_spec_l1Opens_j1 F g kc2) [x3, x4, x5] h)) (some (x4, h))) (hd vs) (hd (tl vs)) (hd (tl (tl vs)))
noncomputable def c_spec_l1Opens (F g : Nat) (a0 : AV) (h : H) : Option R := aBuildSlice 0 1 [] h fun x1 h => loopD F (c_spec_l1Opens_l2 F g) [a0, x1, (AV.int 3 (Int.ofNat 0))] h
noncomputable def A_spec_l1Opens : An := (.two .o (.two .o (.two (.two .o (.two (.at_ [0, 3, 4] (.two (.two .o (.two .o .o)) (.at_ [0, 3, 4] (.two (.two .o (.two .o .o)) .o) .o)) .o) .o)) (.two .o .o))))
noncomputable def b_spec_l1Opens : Code := bodyOf f100
theorem k_spec_l1Opens (F g : Nat) (a0 : AV) (h : H) : callD prog (fun _ _ _ => none : Env) 21 F b_spec_l1Opens [2] A_spec_l1Opens [a0] h = c_spec_l1Opens F g a0 h := by kernel_rfl
theorem co_spec_l1Opens (F g : Nat) : ∀ args h r, u1 (c_spec_l1Opens F g) args h = some r -> CoTri prog tW Post main (fk, true) 100 args h r := by
  intro args h r e; obtain ⟨a0, rfl, e1⟩ := u1_some e; exact fn_soundC func100 rfl rfl rfl ntmps100 (by kernel_rfl) (CoSound.none _ _ _ _ _) ((k_spec_l1Opens F g a0 h).trans e1)
noncomputable def c_spec_l1End_j1 (F g : Nat) (kc1 : List AV -> H -> Option R) (vs : List AV) (h : H) : Option R := (fun x8 x9 x10 => aCmpI ieq x9 (AV.int 3 (Int.ofNat 0)) h fun x11 h => withBool x11 fun t12 => bc t12 (aArith iadd x10 (AV.int 3 (Int.ofNat 1)) h fun x13 h => some (x13, h)) (aCmpI ilt x9 (AV.int 3 (Int.ofNat 0)) h fun x14 h => withBool x14 fun t15 => bc t15 (some ((AV.int 3 (Int.negSucc 0)), h)) (aArith iadd x10 (AV.int 3 (Int.ofNat 1)) h fun x16 h => kc1 [x8, x9, x16] h))) (hd vs) (hd (tl vs)) (hd (tl (tl vs)))
noncomputable def c_spec_l1End_l2 (F g : Nat) : List AV -> H -> (List AV -> H -> Option R) -> Option R := fun vs h kc1 => (fun x2 x3 x4 => aLenK 0 x2 h fun x5 h => aCmpI ilt x4 x5 h fun x6 h => withBool x6 fun t7 => bc t7 (aIdxStr x2 x4 h fun x17 h => aCmpI ieq x17 (AV.int 4 (Int.ofNat 40)) h fun x18 h => withBool x18 fun t19 => bc t19 (aArith iadd x3 (AV.int 3 (Int.ofNat 1)) h fun x20 h => (c_spec_l1End_j1 F g kc1) [x2, x20, x4] h) (aCmpI ieq x17 (AV.int 4 (Int.ofNat 41)) h fun x21 h => withBool x21 fun t22 => bc t22 (aArith isub x3 (AV.int 3 (Int.ofNat 1)) h fun x23 h => (c_spec_l1End_j1 F g kc1) [x2, x23, x4] h) (some ((AV.int 3 (Int.negSucc 0)), h)))) (some ((AV.int 3 (Int.negSucc 0)), h))) (hd vs) (hd (tl vs)) (hd (tl (tl vs)))
noncomputable def c_spec_l1End (F g : Nat) (a0 a1 : AV) (h : H) : Option R := loopD F (c_spec_l1End_l2 F g) [a0, (AV.int 3 (Int.ofNat 0)), a1] h
noncomputable def A_spec_l1End : An := (.two .o (.two .o (.two (.two .o (.two (.at_ [0, 5, 6] (.two (.two .o (.two .o .o)) (.two (.two (.at_ [0, 5, 6] (.two .o (.two (.two .o (.two .o (.two .o (.two .o (.two .o .o))))) .o)) (.two (.two .o (.two (.two .o .o) .o)) (.two .o (.two (.two .o .o) .o)))) .o) .o)) .o) .o)) (.two .o .o))))
noncomputable def b_spec_l1End : Code := bodyOf f101
theorem k_spec_l1End (F g : Nat) (a0 a1 : AV) (h : H) : callD prog (fun _ _ _ => none : Env) 31 F b_spec_l1End [4] A_spec_l1End [a0, a1] h = c_spec_l1End F g a0 a1 h := by kernel_rfl
theorem co_spec_l1End (F g : Nat) : ∀ args h r, u2 (c_spec_l1End F g) args h = some r -> CoTri prog tW Post main (fk, true) 101 args h r := by
  intro args h r e; obtain ⟨a0, a1, rfl, e1⟩ := u2_some e; exact fn_soundC func101 rfl rfl rfl ntmps101 (by kernel_rfl) (CoSound.none _ _ _ _ _) ((k_spec_l1End F g a0 a1 h).trans e1)
noncomputable def c_spec_l1Part (F g : Nat) (a0 a1 : AV) (h : H) : Option R := bindR (c_spec_l1Opens F g a0 h) fun x1 h => aIdxAddr 1 x1 a1 h fun x2 h => aLoad x2 h fun x3 h => bindR (c_spec_l1End F g a0 x3 h) fun x4 h => aSliceS a0 (some x3) (some x4) none h fun x5 h => some (x5, h)
noncomputable def A_spec_l1Part : An := (.two .o (.two .o (.two .o .o)))
noncomputable def b_spec_l1Part : Code := bodyOf f72
theorem k_spec_l1Part (F g : Nat) (a0 a1 : AV) (h : H) : callD prog (Env.add (Env.add (fun _ _ _ => none : Env) 100 (u1 (c_spec_l1Opens F g))) 101 (u2 (c_spec_l1End F g))) 17 F b_spec_l1Part [4] A_spec_l1Part [a0, a1] h = c_spec_l1Part F g a0 a1 h := by kernel_rfl
theorem co_spec_l1Part (F g : Nat) : ∀ args h r, u2 (c_spec_l1Part F g) args h = some r -> CoTri prog tW Post main (fk, true) 72 args h r := by
  intro args h r e; obtain ⟨a0, a1, rfl, e1⟩ := u2_some e; exact fn_soundC func72 rfl rfl rfl ntmps72 (by kernel_rfl) (CoSound.add (CoSound.add (CoSound.none _ _ _ _ _) (co_spec_l1Opens F g)) (co_spec_l1End F g)) ((k_spec_l1Part F g a0 a1 h).trans e1)
noncomputable def c_spec_TreePart (F g : Nat) (a0 a1 : AV) (h : H) : Option R := bindR (c_spec_l1Node F g a0 a1 h) fun x1 h => aNot x1 h fun x2 h => withBool x2 fun t3 => bc t3 (some (AV.one .tup (AV.cons (AV.str [] 0) (AV.cons (AV.bool false) (AV.leaf .nil))), h)) (bindR (c_spec_l1Part F g a0 a1 h) fun x4 h => some (AV.one .tup (AV.cons x4 (AV.cons (AV.bool true) (AV.leaf .nil))), h))
noncomputable def A_spec_TreePart : An := (.two .o (.two (.two .o (.two (.two .o .o) .o)) (.two .o .o)))
noncomputable def b_spec_TreePart : Code := bodyOf f24
theorem k_spec_TreePart (F g : Nat) (a0 a1 : AV) (h : H) : callD prog (Env.add (Env.add (fun _ _ _ => none : Env) 71 (u2 (c_spec_l1Node F g))) 72 (u2 (c_spec_l1Part F g))) 13 F b_spec_TreePart [4, 5] A_spec_TreePart [a0, a1] h = c_spec_TreePart F g a0 a1 h := by kernel_rfl
theorem co_spec_TreePart (F g : Nat) : ∀ args h r, u2 (c_spec_TreePart F g) args h = some r -> CoTri prog tW Post main (fk, true) 24 args h r := by
  intro args h r e; obtain ⟨a0, a1, rfl, e1⟩ := u2_some e; exact fn_soundC func24 rfl rfl rfl ntmps24 (by kernel_rfl) (CoSound.add (CoSound.add (CoSound.none _ _ _ _ _) (co_spec_l1Node F g)) (co_spec_l1Part F g)) ((k_spec_TreePart F g a0 a1 h).trans e1)
theorem wk_spec_TreePart (F g : Nat) : ∀ args h r, u2 (c_spec_TreePart F g) args h = some r -> CoTri prog tW Post main (none, false) 24 args h r := fun args h r e => (co_spec_TreePart F g args h r e).weak
noncomputable def c_impl_TreeNodes (F g : Nat) (a0 : AV) (h : H) : Option R := bindR (c_impl_readTree F g a0 h) fun x1 h => aExtract x1 0 h fun x2 h => aExtract x1 1 h fun x3 h => aNot x3 h fun x4 h => withBool x4 fun t5 => bc t5 (some (AV.one .tup (AV.cons (AV.int 3 (Int.ofNat 0)) (AV.cons (AV.bool false) (AV.leaf .nil))), h)) (bindR (c_impl_node_nodes F g x2 h) fun x6 h => aLenK 1 x6 h fun x7 h => some (AV.one .tup (AV.cons x7 (AV.cons (AV.bool true) (AV.leaf .nil))), h))
noncomputable def A_impl_TreeNodes : An := (.two .o (.two .o (.two (.two .o (.two (.two .o .o) .o)) (.two .o .o))))
noncomputable def b_impl_TreeNodes : Code := bodyOf f25
theorem k_impl_TreeNodes (F g : Nat) (a0 : AV) (h : H) : callD prog (Env.add (Env.add (fun _ _ _ => none : Env) 68 (u1 (c_impl_readTree F g))) 69 (u1 (c_impl_node_nodes F g))) 16 F b_impl_TreeNodes [2, 3] A_impl_TreeNodes [a0] h = c_impl_TreeNodes F g a0 h := by kernel_rfl
theorem co_impl_TreeNodes (F g : Nat) : ∀ args h r, u1 (c_impl_TreeNodes F g) args h = some r -> CoTri prog tW Post main (fk, true) 25 args h r := by
  intro args h r e; obtain ⟨a0, rfl, e1⟩ := u1_some e; exact fn_soundC func25 rfl rfl rfl ntmps25 (by kernel_rfl) (CoSound.add (CoSound.add (CoSound.none _ _ _ _ _) (co_impl_readTree F g)) (co_impl_node_nodes F g)) ((k_impl_TreeNodes F g a0 h).trans e1)
theorem wk_impl_TreeNodes (F g : Nat) : ∀ args h r, u1 (c_impl_TreeNodes F g) args h = some r -> CoTri prog tW Post main (none, false) 25 args h r := fun args h r e => (co_impl_TreeNodes F g args h r e).weak
/-- counts, by reckoning. -/
abbrev G_counts (F g : Nat) : Env := (Env.add (fun _ _ _ => none : Env) 74 (u1 (c_impl_node_size F g)))
noncomputable def c_impl_node_counts (F g : Nat) (a0 a1 : AV) (h : H) : Option R := onSome (cts (G_counts F g) h.fz a1 12 a0) fun L => some (resC h.fz L)
theorem co_impl_node_counts (F g : Nat) : ∀ args h r, u2 (c_impl_node_counts F g) args h = some r -> CoTri prog tW Post main (none, false) n_c args h r := by
  intro args h r e; obtain ⟨a0, a1, rfl, e1⟩ := u2_some e
  obtain ⟨L, e2, e3⟩ := onSome_some e1
  cases e3
  exact cts_sound (G := G_counts F g) (fun main k => (CoSound.add (CoSound.none _ _ _ _ _) (co_impl_node_size F g))) rfl e2
noncomputable def c_impl_countsIn (F g : Nat) (a0 a1 : AV) (h : H) : Option R := bindR (c_impl_readTree F g a0 h) fun x1 h => aExtract x1 0 h fun x2 h => aExtract x1 1 h fun x3 h => aNot x3 h fun x4 h => withBool x4 fun t5 => bc t5 (some (AV.one .tup (AV.cons (AV.leaf .nils) (AV.cons (AV.bool false) (AV.leaf .nil))), h)) (bindR (c_impl_node_counts F g x2 a1 h) fun x6 h => some (AV.one .tup (AV.cons x6 (AV.cons (AV.bool true) (AV.leaf .nil))), h))
noncomputable def A_impl_countsIn : An := (.two .o (.two .o (.two (.two .o (.two (.two .o .o) .o)) (.two .o .o))))
noncomputable def b_impl_countsIn : Code := bodyOf f73
theorem k_impl_countsIn (F g : Nat) (a0 a1 : AV) (h : H) : callD prog (Env.add (Env.add (fun _ _ _ => none : Env) 68 (u1 (c_impl_readTree F g))) 102 (u2 (c_impl_node_counts F g))) 18 F b_impl_countsIn [4, 5] A_impl_countsIn [a0, a1] h = c_impl_countsIn F g a0 a1 h := by kernel_rfl
theorem co_impl_countsIn (F g : Nat) : ∀ args h r, u2 (c_impl_countsIn F g) args h = some r -> CoTri prog tW Post main (none, false) 73 args h r := by
  intro args h r e; obtain ⟨a0, a1, rfl, e1⟩ := u2_some e; exact fn_soundC func73 rfl rfl rfl ntmps73 (by kernel_rfl) (CoSound.add (CoSound.add (CoSound.none _ _ _ _ _) (wk_impl_readTree F g)) (co_impl_node_counts F g)) ((k_impl_countsIn F g a0 a1 h).trans e1)
noncomputable abbrev D_impl_CountSizes (F g : Nat) : Env := (Env.add (fun _ _ _ => none : Env) 74 (u1 (c_impl_node_size F g)))
noncomputable def c_impl_CountSizes (F g : Nat) (a0 : AV) (h : H) : Option R := bindR (c_impl_countsIn F g a0 (AV.func (.func 74) (AV.leaf .nil) (AV.leaf .nil)) h) fun x1 h => aExtract x1 0 h fun x2 h => aExtract x1 1 h fun x3 h => some (AV.one .tup (AV.cons x2 (AV.cons x3 (AV.leaf .nil))), h)
noncomputable def A_impl_CountSizes : An := (.two .o (.two .o .o))
noncomputable def b_impl_CountSizes : Code := bodyOf f26
theorem k_impl_CountSizes (F g : Nat) (a0 : AV) (h : H) : callD prog (Env.add (D_impl_CountSizes F g) 73 (u2 (c_impl_countsIn F g))) 8 F b_impl_CountSizes [2, 3] A_impl_CountSizes [a0] h = c_impl_CountSizes F g a0 h := by kernel_rfl
theorem co_impl_CountSizes (F g : Nat) : ∀ args h r, u1 (c_impl_CountSizes F g) args h = some r -> CoTri prog tW Post main (none, false) 26 args h r := by
  intro args h r e; obtain ⟨a0, rfl, e1⟩ := u1_some e; exact fn_soundC func26 rfl rfl rfl ntmps26 (by kernel_rfl) (CoSound.add (CoSound.add (CoSound.none _ _ _ _ _) (wk_impl_node_size F g)) (co_impl_countsIn F g)) ((k_impl_CountSizes F g a0 h).trans e1)
noncomputable def c_laws_FnPart_j1 (F g : Nat) (vs : List AV) (h : H) : Option R := (fun x34 x35 => aPick x34 x35 (AV.bool false) h fun x36 h => some (x36, h)) (hd vs) (hd (tl vs))
noncomputable def c_laws_FnPart_j2 (F g : Nat) (vs : List AV) (h : H) : Option R := (fun x65 x66 => aPick x65 x66 (AV.bool false) h fun x67 h => some (x67, h)) (hd vs) (hd (tl vs))
noncomputable def c_laws_FnPart_j3 (F g : Nat) (vs : List AV) (h : H) : Option R := (fun x62 x63 x64 => guardB true x62 (aPick x63 (AV.bool true) x64 h fun x68 h => (c_laws_FnPart_j2 F g) [x62, x68] h) ((c_laws_FnPart_j2 F g) [x62, (AV.one .tup (AV.leaf .nil))] h)) (hd vs) (hd (tl vs)) (hd (tl (tl vs)))
noncomputable def c_laws_FnPart_j4 (F g : Nat) (vs : List AV) (h : H) : Option R := (fun x58 x59 x60 x61 => guardB false x61 (aCmpS eqL x59 x58 h fun x69 h => (c_laws_FnPart_j3 F g) [x60, x61, x69] h) ((c_laws_FnPart_j3 F g) [x60, x61, (AV.one .tup (AV.leaf .nil))] h)) (hd vs) (hd (tl vs)) (hd (tl (tl vs))) (hd (tl (tl (tl vs))))
noncomputable def c_laws_FnPart_j5 (F g : Nat) (vs : List AV) (h : H) : Option R := (fun x52 x53 x54 x55 x56 => aPick x55 x56 (AV.bool false) h fun x57 h => guardB true x57 (aCmpI (fun a b => ilt b a) x53 (AV.int 3 (Int.ofNat 0)) h fun x70 h => (c_laws_FnPart_j4 F g) [x52, x54, x57, x70] h) ((c_laws_FnPart_j4 F g) [x52, x54, x57, (AV.one .tup (AV.leaf .nil))] h)) (hd vs) (hd (tl vs)) (hd (tl (tl vs))) (hd (tl (tl (tl vs)))) (hd (tl (tl (tl (tl vs)))))
noncomputable def c_laws_FnPart_j6 (F g : Nat) (vs : List AV) (h : H) : Option R := (fun x44 x45 x46 x47 x48 x49 x50 => aPick x49 x50 (AV.bool false) h fun x51 h => guardB true x51 (aIdxAddr 1 x48 x45 h fun x71 h => aLoad x71 h fun x72 h => aCmpI ieq x47 x72 h fun x73 h => (c_laws_FnPart_j5 F g) [x44, x45, x46, x51, x73] h) ((c_laws_FnPart_j5 F g) [x44, x45, x46, x51, (AV.one .tup (AV.leaf .nil))] h)) (hd vs) (hd (tl vs)) (hd (tl (tl vs))) (hd (tl (tl (tl vs)))) (hd (tl (tl (tl (tl vs))))) (hd (tl (tl (tl (tl (tl vs)))))) (hd (tl (tl (tl (tl (tl (tl vs)))))))
noncomputable def c_laws_FnPart_j7 (F g : Nat) (vs : List AV) (h : H) : Option R := (fun x23 x24 x25 x26 x27 x28 x29 x30 => aPick x29 (AV.bool true) x30 h fun x31 h => withBool x31 fun t32 => bc t32 (aEq false 0 x26 x28 h fun x33 h => guardB true x33 (aCmpS eqL x25 x27 h fun x37 h => (c_laws_FnPart_j1 F g) [x33, x37] h) ((c_laws_FnPart_j1 F g) [x33, (AV.one .tup (AV.leaf .nil))] h)) (bindR (c_impl_TreeNodes F g x25 h) fun x38 h => aExtract x38 0 h fun x39 h => aExtract x38 1 h fun x40 h => bindR (c_impl_CountSizes F g x23 h) fun x41 h => aExtract x41 0 h fun x42 h => aExtract x41 1 h fun x43 h => guardB true x40 ((c_laws_FnPart_j6 F g) [x23, x24, x25, x39, x42, x40, x43] h) ((c_laws_FnPart_j6 F g) [x23, x24, x25, x39, x42, x40, (AV.one .tup (AV.leaf .nil))] h))) (hd vs) (hd (tl vs)) (hd (tl (tl vs))) (hd (tl (tl (tl vs)))) (hd (tl (tl (tl (tl vs))))) (hd (tl (tl (tl (tl (tl vs)))))) (hd (tl (tl (tl (tl (tl (tl vs))))))) (hd (tl (tl (tl (tl (tl (tl (tl vs))))))))
noncomputable def c_laws_FnPart_j8 (F g : Nat) (vs : List AV) (h : H) : Option R := (fun x14 x15 x16 x17 x18 x19 x20 x21 => aPick x20 (AV.bool true) x21 h fun x22 h => guardB false x22 (aNot x17 h fun x74 h => (c_laws_FnPart_j7 F g) [x14, x15, x16, x17, x18, x19, x22, x74] h) ((c_laws_FnPart_j7 F g) [x14, x15, x16, x17, x18, x19, x22, (AV.one .tup (AV.leaf .nil))] h)) (hd vs) (hd (tl vs)) (hd (tl (tl vs))) (hd (tl (tl (tl vs)))) (hd (tl (tl (tl (tl vs))))) (hd (tl (tl (tl (tl (tl vs)))))) (hd (tl (tl (tl (tl (tl (tl vs))))))) (hd (tl (tl (tl (tl (tl (tl (tl vs))))))))
noncomputable def c_laws_FnPart_r9 (F g : Nat) (x4 : AV) (h : H) : Option R := aExtract x4 0 h fun x5 h => aExtract x4 1 h fun x6 h => bindR (c_impl_TreePart F g x5 x6 h) fun x7 h => aExtract x7 0 h fun x8 h => aExtract x7 1 h fun x9 h => bindR (c_spec_TreePart F g x5 x6 h) fun x10 h => aExtract x10 0 h fun x11 h => aExtract x10 1 h fun x12 h => aEq true 0 x9 x12 h fun x13 h => guardB false x13 (aCmpS (fun a b => bnot (eqL a b)) x8 x11 h fun x75 h => (c_laws_FnPart_j8 F g) [x5, x6, x8, x9, x11, x12, x13, x75] h) ((c_laws_FnPart_j8 F g) [x5, x6, x8, x9, x11, x12, x13, (AV.one .tup (AV.leaf .nil))] h)
noncomputable def c_laws_FnPart (F g : Nat) (a0 : AV) (h : H) : Option R := aLenK 1 a0 h fun x1 h => aCmpI (fun a b => ilt b a) x1 (AV.int 3 (Int.ofNat 1048576)) h fun x2 h => withBool x2 fun t3 => bc t3 (some ((AV.bool true), h)) (bindR (c_spec_DrawTreePart F g a0 h) fun x4 h => c_laws_FnPart_r9 F g x4 h)
noncomputable def A_laws_FnPart : An := (.two .o (.two (.two .o (.two (.two .o .o) .o)) (.two .o (.two .o (.two .o (.two (.two (.at_ [3, 4, 5, 6, 7, 8, 36, 39] .o (.at_ [3, 4, 5, 6, 7, 8, 41, 43] .o .o)) (.two (.two (.at_ [48, 51] .o .o) .o) .o)) (.two .o (.two .o (.two (.at_ [3, 4, 5, 9, 11, 64, 65] .o (.at_ [3, 4, 5, 67, 73] .o (.at_ [3, 5, 75, 78] .o (.at_ [75, 78, 81] .o (.at_ [75, 82] .o .o))))) .o)))))))))
noncomputable def b_laws_FnPart : Code := bodyOf f3
theorem k_laws_FnPart (F g : Nat) (a0 : AV) (h : H) : callD prog (Env.add (Env.add (Env.add (Env.add (Env.add (fun _ _ _ => none : Env) 22 (u1 (c_spec_DrawTreePart F g))) 23 (u2 (c_impl_TreePart F g))) 24 (u2 (c_spec_TreePart F g))) 25 (u1 (c_impl_TreeNodes F g))) 26 (u1 (c_impl_CountSizes F g))) 84 F b_laws_FnPart [2] A_laws_FnPart [a0] h = c_laws_FnPart F g a0 h := by kernel_rfl
theorem root_laws_FnPart (F g : Nat) {a0 : AV} {h h' : H} (e1 : c_laws_FnPart F g a0 h = some (.bool true, h')) {ι : Inj} {v : Value} {W : World} (hR : Rel ι h W) (hC : Cov ι h (lgLaw W)) (hV : VL ι [a0] [v]) : Walk prog tW (fun v w' => v = .bool true /\ Below W.heap.size W w') true (lgLaw W) (G (Frame.enter prog 3 #[v] .normal) []) W :=
  root_soundC (fk0 := (none, false)) func3 rfl (by kernel_rfl) rfl ntmps3 (by kernel_rfl) (CoSound.add (CoSound.add (CoSound.add (CoSound.add (CoSound.add (CoSound.none _ _ _ _ _) (wk_spec_DrawTreePart F g)) (wk_impl_TreePart F g)) (wk_spec_TreePart F g)) (wk_impl_TreeNodes F g)) (co_impl_CountSizes F g)) ((k_laws_FnPart F g a0 h).trans e1) hR hC hV (fit_law W) rfl rfl rfl fun v s' w' q => law_post q

end
end Go.AI.T
