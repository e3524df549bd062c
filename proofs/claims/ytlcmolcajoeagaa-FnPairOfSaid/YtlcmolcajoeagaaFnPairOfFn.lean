/- The functions that the law FnPairOf reaches, as the evaluator reads them. -/
import Derived.Test.YtlcmolcajoeagaaRaw
import Derived.Test.YtlcmolcajoeagaaProg
import Derived.KernelRfl
namespace Go.AI
open Go Go.RowKit Go.AI
set_option linter.unusedVariables false
set_option linter.unusedSimpArgs false
set_option maxRecDepth 100000
noncomputable section
-- "loop.example/treenumbers/spec.DrawPairOf"
noncomputable def C_spec_DrawPairOf (F g : Nat) (q_spec_l6Open : AV → H → Option R) (q_spec_l6Rd_pick : AV → AV → H → Option R) (q_spec_l91Tree : AV → AV → H → Option R) (a0 : AV) (h : H) : Option R := bindR (q_spec_l6Open a0 h) fun x1 h => bindR (q_spec_l6Rd_pick x1 (AV.int 3 (Int.ofNat 24)) h) fun x2 h => aQuo x2 (AV.int 3 (Int.ofNat 23)) h fun x3 h => aArith iadd (AV.int 3 (Int.ofNat 5)) x3 h fun x4 h => bindR (q_spec_l91Tree x1 x4 h) fun x5 h => some (x5, h)
noncomputable def c_spec_DrawPairOf (F g : Nat) (a0 : AV) (h : H) : Option R := C_spec_DrawPairOf F g (c_spec_l6Open F g) (c_spec_l6Rd_pick F g) (c_spec_l91Tree F g) a0 h
noncomputable def A_spec_DrawPairOf : An := (.two .o (.two .o (.two .o .o)))
noncomputable def b_spec_DrawPairOf : Code := bodyOf Go.Proofs.Try.f42
theorem K_spec_DrawPairOf (F g : Nat) (q_spec_l6Open : AV → H → Option R) (q_spec_l6Rd_pick : AV → AV → H → Option R) (q_spec_l91Tree : AV → AV → H → Option R) (a0 : AV) (h : H) : callD Go.Proofs.Try.prog (Env.add (Env.add (Env.add (fun _ _ _ => none : Env) 66 (u1 q_spec_l6Open)) 76 (u2 q_spec_l6Rd_pick)) 65 (u2 q_spec_l91Tree)) 12 F b_spec_DrawPairOf [2] A_spec_DrawPairOf [a0] h = C_spec_DrawPairOf F g q_spec_l6Open q_spec_l6Rd_pick q_spec_l91Tree a0 h := by kernel_rfl
theorem k_spec_DrawPairOf (F g : Nat) (a0 : AV) (h : H) : callD Go.Proofs.Try.prog (Env.add (Env.add (Env.add (fun _ _ _ => none : Env) 66 (u1 (c_spec_l6Open F g))) 76 (u2 (c_spec_l6Rd_pick F g))) 65 (u2 (c_spec_l91Tree F g))) 12 F b_spec_DrawPairOf [2] A_spec_DrawPairOf [a0] h = c_spec_DrawPairOf F g a0 h := K_spec_DrawPairOf F g (c_spec_l6Open F g) (c_spec_l6Rd_pick F g) (c_spec_l91Tree F g) a0 h
theorem s_spec_DrawPairOf (F g : Nat) : ∀ args h r, u1 (c_spec_DrawPairOf F g) args h = some r → Tri Go.Proofs.Try.prog 42 args h r := by
  intro args h r e; obtain ⟨a0, rfl, e1⟩ := u1_some e; exact fn_sound Go.Proofs.Try.func42 rfl rfl rfl Go.Proofs.Try.ntmps42 (Sound.add (Sound.add (Sound.add (Sound.none _) (s_spec_l6Open F g)) (s_spec_l6Rd_pick F g)) (s_spec_l91Tree F g)) ((k_spec_DrawPairOf F g a0 h).trans e1)

end
end Go.AI
namespace Go.AI
open Go Go.RowKit Go.AI
set_option linter.unusedVariables false
set_option linter.unusedSimpArgs false
set_option maxRecDepth 100000
noncomputable section
theorem of6_ok {F g : Nat} {a : AV} {c : Nat} {L : List AV} {h : H} (hF : 10000 < F) (ha : (a = .leaf .nils ∧ c = 0) ∨ a = .osl 0 0 c 1) (h0 : 0 < c → ∃ fl, h.get 0 = .cells fl L) (hb : ∀ i, i < c → ∃ v, L[i]? = some (.int 4 (.ofNat v)) ∧ v < 256) (hn : 1 ≤ h.n) (hlo : 1 ≤ h.lo) :
    ∃ l h', (l.length ≤ 300 ∧ (isTree l = true → l.length ≤ 12)) ∧ c_spec_DrawPairOf F g a h = some (.str l l.length, h') ∧ 1 ≤ h'.lo := by
  obtain ⟨b, m, h1, e1, r1, _⟩ := open_ok (F := F) (g := g) ha h0 hb hn hlo
  obtain ⟨v, h2, hv, e2, r2, _, _⟩ := r1.pick (F := F) (g := g) (n := 24) (by omega) (by omega)
  obtain ⟨l, p', h3, g1, g2, g3, r3⟩ := tree_ok' (F := F) (g := g) (n := 5 + v / 23) r2 hF (by omega) (by omega)
  refine ⟨l, h3, ⟨g1.1, fun hT => by have := g1.2 hT; omega⟩, ?_, r3.lo⟩
  delta c_spec_DrawPairOf C_spec_DrawPairOf
  rw [e1, bindR_some', show AV.int 3 (Int.ofNat 24) = nI 24 from rfl, e2, bindR_some', show AV.int 3 (Int.ofNat 23) = nI 23 from rfl, quoN (by omega) (by omega), show AV.int 3 (Int.ofNat 5) = nI 5 from rfl, addN (by omega), g3, bindR_some']
end
end Go.AI
namespace Go.AI.T
open Go Go.RowKit Go.AI
set_option linter.unusedVariables false
set_option linter.unusedSimpArgs false
set_option maxRecDepth 100000
noncomputable section
def c_spec_DrawPairOf (F g : Nat) (a0 : AV) (h : H) : Option R := quietC (Go.AI.c_spec_DrawPairOf 20000 20) a0 h
theorem s_spec_DrawPairOf (F g : Nat) : ∀ args h r, u1 (c_spec_DrawPairOf F g) args h = some r → Tri Go.Proofs.Try.prog id_spec_DrawPairOf args h r := quietC_sound (Go.AI.s_spec_DrawPairOf 20000 20)
theorem draw_FnPairOf (F g : Nat) {a0 : AV} {n : Nat} {L : List AV} {B : Blk} (ha : (a0 = .leaf .nils ∧ n = 0) ∨ a0 = .osl 0 0 n 1) (hB : 0 < n → B = .cells 2 L) (hb : ∀ i, i < n → ∃ v, L[i]? = some (.int 4 (.ofNat v)) ∧ v < 256) :
    ∃ l, (l.length ≤ 300 ∧ (isTree l = true → l.length ≤ 12)) ∧ c_spec_DrawPairOf F g a0 (hCode B) = some (.str l l.length, hCode B) := by
  obtain ⟨l, h', hl, e, hlo⟩ := of6_ok (F := 20000) (g := 20) (h := hCode B) (by omega) ha (fun hn => ⟨2, hB hn⟩) hb (Nat.le_refl _) (Nat.le_refl _)
  exact ⟨l, hl, quietC_ok e rfl hlo⟩
end
end Go.AI.T
namespace Go.AI.T
open Go Go.RowKit Go.AI
set_option linter.unusedVariables false
set_option linter.unusedSimpArgs false
set_option maxRecDepth 100000
noncomputable section
-- "loop.example/treenumbers/impl.pairsOf"
noncomputable def c_impl_pairsOf (F g : Nat) : AV → H → Option R := Nat.rec (motive := fun _ => AV → H → Option R) (fun _ _ => none) (fun g self a0 h => aLenK 1 a0 h fun x1 h => aCmpI ieq x1 (AV.int 3 (Int.ofNat 0)) h fun x2 h => withBool x2 fun t3 => bc t3 (aBuild [] [] h fun x4 h => aMkIface 112 x4 h fun x5 h => some (x5, h)) (aIdxAddr 1 a0 (AV.int 3 (Int.ofNat 0)) h fun x6 _ => aLoad x6 h fun x7 _ => aNilCheck x7 h fun x8 _ => aField 2 x8 h fun x9 _ => aLoad x9 h fun x10 _ => bindR (self x10 h) fun x11 h => aSliceV 1 a0 (some (AV.int 3 (Int.ofNat 1))) none none h fun x12 _ => bindR (self x12 h) fun x13 h => aBuild [(AV.leaf .nili), (AV.leaf .nili)] [(0, 1, x11), (1, 1, x13)] h fun x14 h => aMkIface 92 x14 h fun x15 _ => some (x15, h))) g
noncomputable def A_impl_pairsOf : An := (.two .o (.two (.two .o (.two (.two .o .o) .o)) (.two .o .o)))
noncomputable def b_impl_pairsOf : Code := bodyOf Go.Proofs.Try.f90
theorem k_impl_pairsOf (F g : Nat) (a0 : AV) (h : H) : callD Go.Proofs.Try.prog (Env.add (fun _ _ _ => none : Env) 90 (u1 (c_impl_pairsOf F g))) 20 F b_impl_pairsOf [2] A_impl_pairsOf [a0] h = c_impl_pairsOf F (g + 1) a0 h := by kernel_rfl
theorem s_impl_pairsOf (F g : Nat) : ∀ args h r, u1 (c_impl_pairsOf F g) args h = some r → Tri Go.Proofs.Try.prog 90 args h r := by
  induction g with
  | zero => intro args h r e; obtain ⟨a0, rfl, e⟩ := u1_some e; cases e
  | succ g ih => intro args h r e; obtain ⟨a0, rfl, e1⟩ := u1_some e; exact fn_sound Go.Proofs.Try.func90 rfl rfl rfl Go.Proofs.Try.ntmps90 (Sound.add (Sound.none _) ih) ((k_impl_pairsOf F g a0 h).trans e1)

-- "loop.example/treenumbers/impl.TreeIn"
noncomputable def c_impl_TreeIn (F g : Nat) (a0 : AV) (h : H) : Option R := bindR (c_impl_readTree F g a0 h) fun x1 h => aExtract x1 0 h fun x2 h => aExtract x1 1 h fun x3 h => some (x3, h)
noncomputable def A_impl_TreeIn : An := (.two .o (.two .o (.two .o .o)))
noncomputable def b_impl_TreeIn : Code := bodyOf Go.Proofs.Try.f91
theorem k_impl_TreeIn (F g : Nat) (a0 : AV) (h : H) : callD Go.Proofs.Try.prog (Env.add (fun _ _ _ => none : Env) 72 (u1 (c_impl_readTree F g))) 11 F b_impl_TreeIn [2] A_impl_TreeIn [a0] h = c_impl_TreeIn F g a0 h := by kernel_rfl
theorem s_impl_TreeIn (F g : Nat) : ∀ args h r, u1 (c_impl_TreeIn F g) args h = some r → Tri Go.Proofs.Try.prog 91 args h r := by
  intro args h r e; obtain ⟨a0, rfl, e1⟩ := u1_some e; exact fn_sound Go.Proofs.Try.func91 rfl rfl rfl Go.Proofs.Try.ntmps91 (Sound.add (Sound.none _) (s_impl_readTree F g)) ((k_impl_TreeIn F g a0 h).trans e1)

-- "(*loop.example/treenumbers/impl.node).text"
noncomputable def c_impl_node_text_l1 (F g : Nat) (self : AV → H → Option R) : List AV → H → (List AV → H → Option R) → Option R := fun vs h kc5 => (fun x6 x7 x8 x9 => aCmpI ilt x9 x8 h fun x10 h => withBool x10 fun t11 => bc t11 (aIdxAddr 1 x7 x9 h fun x12 h => aLoad x12 h fun x13 h => bindR (self x13 h) fun x14 h => aSAdd x6 x14 h fun x15 h => aArith iadd x9 (AV.int 3 (Int.ofNat 1)) h fun x16 h => kc5 [x15, x7, x8, x16] h) (aSAdd x6 (AV.str [41] 1) h fun x17 h => some (x17, h))) (hd vs) (hd (tl vs)) (hd (tl (tl vs))) (hd (tl (tl (tl vs))))
noncomputable def c_impl_node_text (F g : Nat) : AV → H → Option R := Nat.rec (motive := fun _ => AV → H → Option R) (fun _ _ => none) (fun g self a0 h => aNilCheck a0 h fun x1 h => aField 2 x1 h fun x2 h => aLoad x2 h fun x3 h => aLenK 1 x3 h fun x4 h => loopD F (c_impl_node_text_l1 F g self) [(AV.str [40] 1), x3, x4, (AV.int 3 (Int.ofNat 0))] h) g
noncomputable def A_impl_node_text : An := (.two .o (.two .o (.two (.two .o (.two (.at_ [3, 9, 10, 11] (.two .o (.two (.two .o .o) (.two (.two (.two .o .o) .o) .o))) .o) .o)) (.two .o .o))))
noncomputable def b_impl_node_text : Code := bodyOf Go.Proofs.Try.f74
theorem k_impl_node_text (F g : Nat) (a0 : AV) (h : H) : callD Go.Proofs.Try.prog (Env.add (fun _ _ _ => none : Env) 74 (u1 (c_impl_node_text F g))) 22 F b_impl_node_text [2] A_impl_node_text [a0] h = c_impl_node_text F (g + 1) a0 h := by kernel_rfl
theorem s_impl_node_text (F g : Nat) : ∀ args h r, u1 (c_impl_node_text F g) args h = some r → Tri Go.Proofs.Try.prog 74 args h r := by
  induction g with
  | zero => intro args h r e; obtain ⟨a0, rfl, e⟩ := u1_some e; cases e
  | succ g ih => intro args h r e; obtain ⟨a0, rfl, e1⟩ := u1_some e; exact fn_sound Go.Proofs.Try.func74 rfl rfl rfl Go.Proofs.Try.ntmps74 (Sound.add (Sound.none _) ih) ((k_impl_node_text F g a0 h).trans e1)

-- "(loop.example/treenumbers/impl.lone).text"
noncomputable def c_impl_lone_text (F g : Nat) (a0 : AV) (h : H) : Option R := aBox a0 h fun x1 h => some ((AV.str [40, 41] 2), h)
noncomputable def A_impl_lone_text : An := (.two .o (.two .o .o))
noncomputable def b_impl_lone_text : Code := bodyOf Go.Proofs.Try.f200
theorem k_impl_lone_text (F g : Nat) (a0 : AV) (h : H) : callD Go.Proofs.Try.prog (fun _ _ _ => none : Env) 3 F b_impl_lone_text [2] A_impl_lone_text [a0] h = c_impl_lone_text F g a0 h := by kernel_rfl
theorem s_impl_lone_text (F g : Nat) : ∀ args h r, u1 (c_impl_lone_text F g) args h = some r → Tri Go.Proofs.Try.prog 200 args h r := by
  intro args h r e; obtain ⟨a0, rfl, e1⟩ := u1_some e; exact fn_sound Go.Proofs.Try.func200 rfl rfl rfl Go.Proofs.Try.ntmps200 (Sound.none _) ((k_impl_lone_text F g a0 h).trans e1)

-- "(loop.example/treenumbers/impl.inner).text"
noncomputable def c_impl_inner_text (F g : Nat) : AV → H → Option R := Nat.rec (motive := fun _ => AV → H → Option R) (fun _ _ => none) (fun g self a0 h => aBox a0 h fun x1 h => aField 0 x1 h fun x2 _ => aLoad x2 h fun x3 _ => dInvF (Env.add (Env.add (Env.add (fun _ _ _ => none : Env) 74 (u1 (c_impl_node_text F g))) 194 (u1 self)) 200 (u1 (c_impl_lone_text F g))) [(58, 74), (92, 194), (112, 200)] x3 [] h fun x4 _ => aSAdd (AV.str [40] 1) x4 h fun x5 _ => aField 1 x1 h fun x6 _ => aLoad x6 h fun x7 _ => dInvF (Env.add (Env.add (Env.add (fun _ _ _ => none : Env) 74 (u1 (c_impl_node_text F g))) 194 (u1 self)) 200 (u1 (c_impl_lone_text F g))) [(58, 74), (92, 194), (112, 200)] x7 [] h fun x8 _ => aSAdd x5 x8 h fun x9 _ => aSAdd x9 (AV.str [41] 1) h fun x10 _ => some (x10, h)) g
noncomputable def A_impl_inner_text : An := (.two .o (.two .o .o))
noncomputable def b_impl_inner_text : Code := bodyOf Go.Proofs.Try.f194
theorem k_impl_inner_text (F g : Nat) (a0 : AV) (h : H) : callD Go.Proofs.Try.prog (Env.add (Env.add (Env.add (fun _ _ _ => none : Env) 74 (u1 (c_impl_node_text F g))) 200 (u1 (c_impl_lone_text F g))) 194 (u1 (c_impl_inner_text F g))) 12 F b_impl_inner_text [2] A_impl_inner_text [a0] h = c_impl_inner_text F (g + 1) a0 h := by kernel_rfl
theorem s_impl_inner_text (F g : Nat) : ∀ args h r, u1 (c_impl_inner_text F g) args h = some r → Tri Go.Proofs.Try.prog 194 args h r := by
  induction g with
  | zero => intro args h r e; obtain ⟨a0, rfl, e⟩ := u1_some e; cases e
  | succ g ih => intro args h r e; obtain ⟨a0, rfl, e1⟩ := u1_some e; exact fn_sound Go.Proofs.Try.func194 rfl rfl rfl Go.Proofs.Try.ntmps194 (Sound.add (Sound.add (Sound.add (Sound.none _) (s_impl_node_text F g)) (s_impl_lone_text F g)) ih) ((k_impl_inner_text F g a0 h).trans e1)

-- "loop.example/treenumbers/impl.PairOf"
noncomputable def c_impl_PairOf (F g : Nat) (a0 : AV) (h : H) : Option R := bindR (c_impl_readTree F g a0 h) fun x1 h => aExtract x1 0 h fun x2 h => aExtract x1 1 h fun x3 h => aNot x3 h fun x4 h => withBool x4 fun t5 => bc t5 (some (AV.one .tup (AV.cons (AV.str [] 0) (AV.cons (AV.bool false) (AV.leaf .nil))), h)) (aNilCheck x2 h fun x6 h => aField 2 x6 h fun x7 h => aLoad x7 h fun x8 h => bindR (c_impl_pairsOf F g x8 h) fun x9 h => dInv (Env.add (Env.add (Env.add (fun _ _ _ => none : Env) 74 (u1 (c_impl_node_text F g))) 194 (u1 (c_impl_inner_text F g))) 200 (u1 (c_impl_lone_text F g))) [(58, 74), (92, 194), (112, 200)] x9 [] h fun x10 h => bindR (c_impl_TreeIn F g x10 h) fun x11 h => aNot x11 h fun x12 h => withBool x12 fun t13 => bc t13 (some (AV.one .tup (AV.cons (AV.str [] 0) (AV.cons (AV.bool false) (AV.leaf .nil))), h)) (some (AV.one .tup (AV.cons x10 (AV.cons (AV.bool true) (AV.leaf .nil))), h)))
noncomputable def A_impl_PairOf : An := (.two .o (.two .o (.two (.two .o (.two (.two .o .o) .o)) (.two .o (.two (.two .o (.two (.two .o .o) .o)) (.two .o .o))))))
noncomputable def b_impl_PairOf : Code := bodyOf Go.Proofs.Try.f43
theorem k_impl_PairOf (F g : Nat) (a0 : AV) (h : H) : callD Go.Proofs.Try.prog (Env.add (Env.add (Env.add (Env.add (Env.add (Env.add (fun _ _ _ => none : Env) 72 (u1 (c_impl_readTree F g))) 90 (u1 (c_impl_pairsOf F g))) 74 (u1 (c_impl_node_text F g))) 194 (u1 (c_impl_inner_text F g))) 200 (u1 (c_impl_lone_text F g))) 91 (u1 (c_impl_TreeIn F g))) 24 F b_impl_PairOf [2, 3] A_impl_PairOf [a0] h = c_impl_PairOf F g a0 h := by kernel_rfl
theorem s_impl_PairOf (F g : Nat) : ∀ args h r, u1 (c_impl_PairOf F g) args h = some r → Tri Go.Proofs.Try.prog 43 args h r := by
  intro args h r e; obtain ⟨a0, rfl, e1⟩ := u1_some e; exact fn_sound Go.Proofs.Try.func43 rfl rfl rfl Go.Proofs.Try.ntmps43 (Sound.add (Sound.add (Sound.add (Sound.add (Sound.add (Sound.add (Sound.none _) (s_impl_readTree F g)) (s_impl_pairsOf F g)) (s_impl_node_text F g)) (s_impl_inner_text F g)) (s_impl_lone_text F g)) (s_impl_TreeIn F g)) ((k_impl_PairOf F g a0 h).trans e1)

-- "loop.example/treenumbers/spec.l1End"
noncomputable def c_spec_l1End_j1 (F g : Nat) (kc1 : List AV → H → Option R) (vs : List AV) (h : H) : Option R := (fun x8 x9 x10 => aCmpI ieq x9 (AV.int 3 (Int.ofNat 0)) h fun x11 h => withBool x11 fun t12 => bc t12 (aArith iadd x10 (AV.int 3 (Int.ofNat 1)) h fun x13 h => some (x13, h)) (aCmpI ilt x9 (AV.int 3 (Int.ofNat 0)) h fun x14 h => withBool x14 fun t15 => bc t15 (some ((AV.int 3 (Int.negSucc 0)), h)) (aArith iadd x10 (AV.int 3 (Int.ofNat 1)) h fun x16 h => kc1 [x8, x9, x16] h))) (hd vs) (hd (tl vs)) (hd (tl (tl vs)))
noncomputable def c_spec_l1End_l2 (F g : Nat) : List AV → H → (List AV → H → Option R) → Option R := fun vs h kc1 => (fun x2 x3 x4 => aLenK 0 x2 h fun x5 h => aCmpI ilt x4 x5 h fun x6 h => withBool x6 fun t7 => bc t7 (aIdxStr x2 x4 h fun x17 h => aCmpI ieq x17 (AV.int 4 (Int.ofNat 40)) h fun x18 h => withBool x18 fun t19 => bc t19 (aArith iadd x3 (AV.int 3 (Int.ofNat 1)) h fun x20 h => (c_spec_l1End_j1 F g kc1) [x2, x20, x4] h) (aCmpI ieq x17 (AV.int 4 (Int.ofNat 41)) h fun x21 h => withBool x21 fun t22 => bc t22 (aArith isub x3 (AV.int 3 (Int.ofNat 1)) h fun x23 h => (c_spec_l1End_j1 F g kc1) [x2, x23, x4] h) (some ((AV.int 3 (Int.negSucc 0)), h)))) (some ((AV.int 3 (Int.negSucc 0)), h))) (hd vs) (hd (tl vs)) (hd (tl (tl vs)))
noncomputable def c_spec_l1End (F g : Nat) (a0 a1 : AV) (h : H) : Option R := loopD F (c_spec_l1End_l2 F g) [a0, (AV.int 3 (Int.ofNat 0)), a1] h
noncomputable def A_spec_l1End : An := (.two .o (.two .o (.two (.two .o (.two (.at_ [0, 5, 6] (.two (.two .o (.two .o .o)) (.two (.two (.at_ [0, 5, 6] (.two .o (.two (.two .o (.two .o (.two .o (.two .o (.two .o .o))))) .o)) (.two (.two .o (.two (.two .o .o) .o)) (.two .o (.two (.two .o .o) .o)))) .o) .o)) .o) .o)) (.two .o .o))))
noncomputable def b_spec_l1End : Code := bodyOf Go.Proofs.Try.f113
theorem k_spec_l1End (F g : Nat) (a0 a1 : AV) (h : H) : callD Go.Proofs.Try.prog (fun _ _ _ => none : Env) 31 F b_spec_l1End [4] A_spec_l1End [a0, a1] h = c_spec_l1End F g a0 a1 h := by kernel_rfl
theorem s_spec_l1End (F g : Nat) : ∀ args h r, u2 (c_spec_l1End F g) args h = some r → Tri Go.Proofs.Try.prog 113 args h r := by
  intro args h r e; obtain ⟨a0, a1, rfl, e1⟩ := u2_some e; exact fn_sound Go.Proofs.Try.func113 rfl rfl rfl Go.Proofs.Try.ntmps113 (Sound.none _) ((k_spec_l1End F g a0 a1 h).trans e1)

-- "loop.example/treenumbers/spec.l1Kids"
noncomputable def c_spec_l1Kids_l1 (F g : Nat) : List AV → H → (List AV → H → Option R) → Option R := fun vs h kc2 => (fun x3 x4 x5 => aLenK 0 x3 h fun x6 h => aArith isub x6 (AV.int 3 (Int.ofNat 1)) h fun x7 h => aCmpI ilt x5 x7 h fun x8 h => withBool x8 fun t9 => bc t9 (bindR (c_spec_l1End F g x3 x5 h) fun x10 h => aSliceS x3 (some x5) (some x10) none h fun x11 h => aBuildSlice 1 1 [(0, 1, x11)] h fun x12 h => aAppend 1 16 x4 x12 h fun x13 h => kc2 [x3, x13, x10] h) (some (x4, h))) (hd vs) (hd (tl vs)) (hd (tl (tl vs)))
noncomputable def c_spec_l1Kids (F g : Nat) (a0 : AV) (h : H) : Option R := aBuildSlice 0 1 [] h fun x1 h => loopD F (c_spec_l1Kids_l1 F g) [a0, x1, (AV.int 3 (Int.ofNat 1))] h
noncomputable def A_spec_l1Kids : An := (.two .o (.two .o (.two .o (.two (.two (.at_ [0, 3, 4] (.two (.two .o (.two .o .o)) (.two (.two .o (.two .o .o)) .o)) .o) .o) (.two .o .o)))))
noncomputable def b_spec_l1Kids : Code := bodyOf Go.Proofs.Try.f93
theorem k_spec_l1Kids (F g : Nat) (a0 : AV) (h : H) : callD Go.Proofs.Try.prog (Env.add (fun _ _ _ => none : Env) 113 (u2 (c_spec_l1End F g))) 24 F b_spec_l1Kids [2] A_spec_l1Kids [a0] h = c_spec_l1Kids F g a0 h := by kernel_rfl
theorem s_spec_l1Kids (F g : Nat) : ∀ args h r, u1 (c_spec_l1Kids F g) args h = some r → Tri Go.Proofs.Try.prog 93 args h r := by
  intro args h r e; obtain ⟨a0, rfl, e1⟩ := u1_some e; exact fn_sound Go.Proofs.Try.func93 rfl rfl rfl Go.Proofs.Try.ntmps93 (Sound.add (Sound.none _) (s_spec_l1End F g)) ((k_spec_l1Kids F g a0 h).trans e1)

-- "loop.example/treenumbers/spec.l8Of"
noncomputable def c_spec_l8Of (F g : Nat) : AV → H → Option R := Nat.rec (motive := fun _ => AV → H → Option R) (fun _ _ => none) (fun g self a0 h => aLenK 1 a0 h fun x1 h => aCmpI ieq x1 (AV.int 3 (Int.ofNat 0)) h fun x2 h => withBool x2 fun t3 => bc t3 (some ((AV.str [40, 41] 2), h)) (aIdxAddr 1 a0 (AV.int 3 (Int.ofNat 0)) h fun x4 _ => aLoad x4 h fun x5 _ => bindR (c_spec_l1Kids F g x5 h) fun x6 h => bindR (self x6 h) fun x7 h => aSAdd (AV.str [40] 1) x7 h fun x8 _ => aSliceV 1 a0 (some (AV.int 3 (Int.ofNat 1))) none none h fun x9 _ => bindR (self x9 h) fun x10 h => aSAdd x8 x10 h fun x11 _ => aSAdd x11 (AV.str [41] 1) h fun x12 _ => some (x12, h))) g
noncomputable def A_spec_l8Of : An := (.two .o (.two (.two .o (.two (.two .o .o) .o)) (.two .o .o)))
noncomputable def b_spec_l8Of : Code := bodyOf Go.Proofs.Try.f92
theorem k_spec_l8Of (F g : Nat) (a0 : AV) (h : H) : callD Go.Proofs.Try.prog (Env.add (Env.add (fun _ _ _ => none : Env) 93 (u1 (c_spec_l1Kids F g))) 92 (u1 (c_spec_l8Of F g))) 17 F b_spec_l8Of [2] A_spec_l8Of [a0] h = c_spec_l8Of F (g + 1) a0 h := by kernel_rfl
theorem s_spec_l8Of (F g : Nat) : ∀ args h r, u1 (c_spec_l8Of F g) args h = some r → Tri Go.Proofs.Try.prog 92 args h r := by
  induction g with
  | zero => intro args h r e; obtain ⟨a0, rfl, e⟩ := u1_some e; cases e
  | succ g ih => intro args h r e; obtain ⟨a0, rfl, e1⟩ := u1_some e; exact fn_sound Go.Proofs.Try.func92 rfl rfl rfl Go.Proofs.Try.ntmps92 (Sound.add (Sound.add (Sound.none _) (s_spec_l1Kids F g)) ih) ((k_spec_l8Of F g a0 h).trans e1)

-- "loop.example/treenumbers/spec.l1Done"
noncomputable def c_spec_l1Done (F g : Nat) (a0 : AV) (h : H) : Option R := bindR (c_spec_TreeIn F g a0 h) fun x1 h => aNot x1 h fun x2 h => withBool x2 fun t3 => bc t3 (some (AV.one .tup (AV.cons (AV.str [] 0) (AV.cons (AV.bool false) (AV.leaf .nil))), h)) (some (AV.one .tup (AV.cons a0 (AV.cons (AV.bool true) (AV.leaf .nil))), h))
noncomputable def A_spec_l1Done : An := (.two .o (.two (.two .o (.two (.two .o .o) .o)) (.two .o .o)))
noncomputable def b_spec_l1Done : Code := bodyOf Go.Proofs.Try.f84
theorem k_spec_l1Done (F g : Nat) (a0 : AV) (h : H) : callD Go.Proofs.Try.prog (Env.add (fun _ _ _ => none : Env) 68 (u1 (c_spec_TreeIn F g))) 8 F b_spec_l1Done [2, 3] A_spec_l1Done [a0] h = c_spec_l1Done F g a0 h := by kernel_rfl
theorem s_spec_l1Done (F g : Nat) : ∀ args h r, u1 (c_spec_l1Done F g) args h = some r → Tri Go.Proofs.Try.prog 84 args h r := by
  intro args h r e; obtain ⟨a0, rfl, e1⟩ := u1_some e; exact fn_sound Go.Proofs.Try.func84 rfl rfl rfl Go.Proofs.Try.ntmps84 (Sound.add (Sound.none _) (s_spec_TreeIn F g)) ((k_spec_l1Done F g a0 h).trans e1)

-- "loop.example/treenumbers/spec.PairOf"
noncomputable def c_spec_PairOf (F g : Nat) (a0 : AV) (h : H) : Option R := bindR (c_spec_TreeIn F g a0 h) fun x1 h => aNot x1 h fun x2 h => withBool x2 fun t3 => bc t3 (some (AV.one .tup (AV.cons (AV.str [] 0) (AV.cons (AV.bool false) (AV.leaf .nil))), h)) (bindR (c_spec_l1Kids F g a0 h) fun x4 h => bindR (c_spec_l8Of F g x4 h) fun x5 h => bindR (c_spec_l1Done F g x5 h) fun x6 h => aExtract x6 0 h fun x7 h => aExtract x6 1 h fun x8 h => some (AV.one .tup (AV.cons x7 (AV.cons x8 (AV.leaf .nil))), h))
noncomputable def A_spec_PairOf : An := (.two .o (.two (.two .o (.two (.two .o .o) .o)) (.two .o .o)))
noncomputable def b_spec_PairOf : Code := bodyOf Go.Proofs.Try.f44
theorem k_spec_PairOf (F g : Nat) (a0 : AV) (h : H) : callD Go.Proofs.Try.prog (Env.add (Env.add (Env.add (Env.add (fun _ _ _ => none : Env) 68 (u1 (c_spec_TreeIn F g))) 93 (u1 (c_spec_l1Kids F g))) 92 (u1 (c_spec_l8Of F g))) 84 (u1 (c_spec_l1Done F g))) 13 F b_spec_PairOf [2, 3] A_spec_PairOf [a0] h = c_spec_PairOf F g a0 h := by kernel_rfl
theorem s_spec_PairOf (F g : Nat) : ∀ args h r, u1 (c_spec_PairOf F g) args h = some r → Tri Go.Proofs.Try.prog 44 args h r := by
  intro args h r e; obtain ⟨a0, rfl, e1⟩ := u1_some e; exact fn_sound Go.Proofs.Try.func44 rfl rfl rfl Go.Proofs.Try.ntmps44 (Sound.add (Sound.add (Sound.add (Sound.add (Sound.none _) (s_spec_TreeIn F g)) (s_spec_l1Kids F g)) (s_spec_l8Of F g)) (s_spec_l1Done F g)) ((k_spec_PairOf F g a0 h).trans e1)

-- "loop.example/treenumbers/impl.pairsIn"
noncomputable def c_impl_pairsIn_j1 (F g : Nat) (vs : List AV) (h : H) : Option R := (fun x29 x30 x31 => aPick x30 x31 (AV.bool false) h fun x32 h => some (AV.one .tup (AV.cons x29 (AV.cons x32 (AV.leaf .nil))), h)) (hd vs) (hd (tl vs)) (hd (tl (tl vs)))
noncomputable def c_impl_pairsIn (F g : Nat) : AV → H → Option R := Nat.rec (motive := fun _ => AV → H → Option R) (fun _ _ => none) (fun g self a0 h => aNilCheck a0 h fun x1 h => aField 2 x1 h fun x2 h => aLoad x2 h fun x3 h => aLenK 1 x3 h fun x4 h => aCmpI ieq x4 (AV.int 3 (Int.ofNat 0)) h fun x5 h => withBool x5 fun t6 => bc t6 (aBuild [] [] h fun x7 h => aMkIface 112 x7 h fun x8 h => some (AV.one .tup (AV.cons x8 (AV.cons (AV.bool true) (AV.leaf .nil))), h)) (aCmpI ieq x4 (AV.int 3 (Int.ofNat 2)) h fun x9 h => withBool x9 fun t10 => bc t10 (aNilCheck a0 h fun x11 h => aField 2 x11 h fun x12 h => aLoad x12 h fun x13 h => aIdxAddr 1 x13 (AV.int 3 (Int.ofNat 0)) h fun x14 h => aLoad x14 h fun x15 h => bindR (self x15 h) fun x16 h => aExtract x16 0 h fun x17 h => aExtract x16 1 h fun x18 h => aNilCheck a0 h fun x19 h => aField 2 x19 h fun x20 h => aLoad x20 h fun x21 h => aIdxAddr 1 x21 (AV.int 3 (Int.ofNat 1)) h fun x22 h => aLoad x22 h fun x23 h => bindR (self x23 h) fun x24 h => aExtract x24 0 h fun x25 h => aExtract x24 1 h fun x26 h => aBuild [(AV.leaf .nili), (AV.leaf .nili)] [(0, 1, x17), (1, 1, x25)] h fun x27 h => aMkIface 92 x27 h fun x28 h => guardB true x18 ((c_impl_pairsIn_j1 F g) [x28, x18, x26] h) ((c_impl_pairsIn_j1 F g) [x28, x18, (AV.one .tup (AV.leaf .nil))] h)) (some (AV.one .tup (AV.cons (AV.leaf .nili) (AV.cons (AV.bool false) (AV.leaf .nil))), h)))) g
noncomputable def A_impl_pairsIn : An := (.two .o (.two .o (.two (.two .o (.two (.two .o .o) (.two .o (.two (.two .o (.two .o (.two (.at_ [42, 44, 45] .o .o) .o))) (.two .o .o))))) .o)))
noncomputable def b_impl_pairsIn : Code := bodyOf Go.Proofs.Try.f122
theorem k_impl_pairsIn (F g : Nat) (a0 : AV) (h : H) : callD Go.Proofs.Try.prog (Env.add (fun _ _ _ => none : Env) 122 (u1 (c_impl_pairsIn F g))) 47 F b_impl_pairsIn [2, 3] A_impl_pairsIn [a0] h = c_impl_pairsIn F (g + 1) a0 h := by kernel_rfl
theorem s_impl_pairsIn (F g : Nat) : ∀ args h r, u1 (c_impl_pairsIn F g) args h = some r → Tri Go.Proofs.Try.prog 122 args h r := by
  induction g with
  | zero => intro args h r e; obtain ⟨a0, rfl, e⟩ := u1_some e; cases e
  | succ g ih => intro args h r e; obtain ⟨a0, rfl, e1⟩ := u1_some e; exact fn_sound Go.Proofs.Try.func122 rfl rfl rfl Go.Proofs.Try.ntmps122 (Sound.add (Sound.none _) ih) ((k_impl_pairsIn F g a0 h).trans e1)

-- "loop.example/treenumbers/impl.readPairs"
noncomputable def c_impl_readPairs (F g : Nat) (a0 : AV) (h : H) : Option R := bindR (c_impl_readTree F g a0 h) fun x1 h => aExtract x1 0 h fun x2 h => aExtract x1 1 h fun x3 h => aNot x3 h fun x4 h => withBool x4 fun t5 => bc t5 (some (AV.one .tup (AV.cons (AV.leaf .nili) (AV.cons (AV.bool false) (AV.leaf .nil))), h)) (bindR (c_impl_pairsIn F g x2 h) fun x6 h => aExtract x6 0 h fun x7 h => aExtract x6 1 h fun x8 h => some (AV.one .tup (AV.cons x7 (AV.cons x8 (AV.leaf .nil))), h))
noncomputable def A_impl_readPairs : An := (.two .o (.two .o (.two (.two .o (.two (.two .o .o) .o)) (.two .o .o))))
noncomputable def b_impl_readPairs : Code := bodyOf Go.Proofs.Try.f87
theorem k_impl_readPairs (F g : Nat) (a0 : AV) (h : H) : callD Go.Proofs.Try.prog (Env.add (Env.add (fun _ _ _ => none : Env) 72 (u1 (c_impl_readTree F g))) 122 (u1 (c_impl_pairsIn F g))) 17 F b_impl_readPairs [2, 3] A_impl_readPairs [a0] h = c_impl_readPairs F g a0 h := by kernel_rfl
theorem s_impl_readPairs (F g : Nat) : ∀ args h r, u1 (c_impl_readPairs F g) args h = some r → Tri Go.Proofs.Try.prog 87 args h r := by
  intro args h r e; obtain ⟨a0, rfl, e1⟩ := u1_some e; exact fn_sound Go.Proofs.Try.func87 rfl rfl rfl Go.Proofs.Try.ntmps87 (Sound.add (Sound.add (Sound.none _) (s_impl_readTree F g)) (s_impl_pairsIn F g)) ((k_impl_readPairs F g a0 h).trans e1)

-- "loop.example/treenumbers/impl.childrenText"
noncomputable def c_impl_childrenText (F g : Nat) : AV → H → Option R := Nat.rec (motive := fun _ => AV → H → Option R) (fun _ _ => none) (fun g self a0 h => aAssertC true 92 (AV.one .agg (AV.cons (AV.leaf .nili) (AV.cons (AV.leaf .nili) (AV.leaf .nil)))) a0 h fun x1 h => aExtract x1 1 h fun x2 h => aExtract x1 0 h fun x3 h => withBool x2 fun t4 => bc t4 (aAlloc [(AV.leaf .nili), (AV.leaf .nili)] h fun x5 h => aStoreN 2 x5 x3 h fun x6 h => aField 0 x5 h fun x7 _ => aLoad x7 h fun x8 _ => bindF (self x8 h.mark) h fun x9 _ => aSAdd (AV.str [40] 1) x9 h fun x10 _ => aSAdd x10 (AV.str [41] 1) h fun x11 _ => aField 1 x5 h fun x12 _ => aLoad x12 h fun x13 _ => bindF (self x13 h.mark) h fun x14 _ => aSAdd x11 x14 h fun x15 _ => some (x15, h)) (some ((AV.str [] 0), h))) g
noncomputable def A_impl_childrenText : An := (.two .o (.two .o (.two (.two .o (.two (.two .o (.two .o .o)) (.two .o (.two .o .o)))) .o)))
noncomputable def b_impl_childrenText : Code := bodyOf Go.Proofs.Try.f94
theorem k_impl_childrenText (F g : Nat) (a0 : AV) (h : H) : callD Go.Proofs.Try.prog (Env.add (fun _ _ _ => none : Env) 94 (u1 (c_impl_childrenText F g))) 18 F b_impl_childrenText [2] A_impl_childrenText [a0] h = c_impl_childrenText F (g + 1) a0 h := by kernel_rfl
theorem s_impl_childrenText (F g : Nat) : ∀ args h r, u1 (c_impl_childrenText F g) args h = some r → Tri Go.Proofs.Try.prog 94 args h r := by
  induction g with
  | zero => intro args h r e; obtain ⟨a0, rfl, e⟩ := u1_some e; cases e
  | succ g ih => intro args h r e; obtain ⟨a0, rfl, e1⟩ := u1_some e; exact fn_sound Go.Proofs.Try.func94 rfl rfl rfl Go.Proofs.Try.ntmps94 (Sound.add (Sound.none _) ih) ((k_impl_childrenText F g a0 h).trans e1)

-- "loop.example/treenumbers/impl.PairBack"
noncomputable def c_impl_PairBack (F g : Nat) (a0 : AV) (h : H) : Option R := bindR (c_impl_readPairs F g a0 h) fun x1 h => aExtract x1 0 h fun x2 h => aExtract x1 1 h fun x3 h => aNot x3 h fun x4 h => withBool x4 fun t5 => bc t5 (some (AV.one .tup (AV.cons (AV.str [] 0) (AV.cons (AV.bool false) (AV.leaf .nil))), h)) (bindR (c_impl_childrenText F g x2 h) fun x6 h => aSAdd (AV.str [40] 1) x6 h fun x7 h => aSAdd x7 (AV.str [41] 1) h fun x8 h => some (AV.one .tup (AV.cons x8 (AV.cons (AV.bool true) (AV.leaf .nil))), h))
noncomputable def A_impl_PairBack : An := (.two .o (.two .o (.two (.two .o (.two (.two .o .o) .o)) (.two .o .o))))
noncomputable def b_impl_PairBack : Code := bodyOf Go.Proofs.Try.f45
theorem k_impl_PairBack (F g : Nat) (a0 : AV) (h : H) : callD Go.Proofs.Try.prog (Env.add (Env.add (fun _ _ _ => none : Env) 87 (u1 (c_impl_readPairs F g))) 94 (u1 (c_impl_childrenText F g))) 17 F b_impl_PairBack [2, 3] A_impl_PairBack [a0] h = c_impl_PairBack F g a0 h := by kernel_rfl
theorem s_impl_PairBack (F g : Nat) : ∀ args h r, u1 (c_impl_PairBack F g) args h = some r → Tri Go.Proofs.Try.prog 45 args h r := by
  intro args h r e; obtain ⟨a0, rfl, e1⟩ := u1_some e; exact fn_sound Go.Proofs.Try.func45 rfl rfl rfl Go.Proofs.Try.ntmps45 (Sound.add (Sound.add (Sound.none _) (s_impl_readPairs F g)) (s_impl_childrenText F g)) ((k_impl_PairBack F g a0 h).trans e1)

-- "(*loop.example/treenumbers/impl.node).nodes"
noncomputable def c_impl_node_nodes_l1 (F g : Nat) (self : AV → H → Option R) : List AV → H → (List AV → H → Option R) → Option R := fun vs h kc6 => (fun x7 x8 x9 x10 => aCmpI ilt x10 x9 h fun x11 h => withBool x11 fun t12 => bc t12 (aIdxAddr 1 x8 x10 h fun x13 h => aLoad x13 h fun x14 h => bindR (self x14 h) fun x15 h => aAppend 1 8 x7 x15 h fun x16 h => aArith iadd x10 (AV.int 3 (Int.ofNat 1)) h fun x17 h => kc6 [x16, x8, x9, x17] h) (some (x7, h))) (hd vs) (hd (tl vs)) (hd (tl (tl vs))) (hd (tl (tl (tl vs))))
noncomputable def c_impl_node_nodes (F g : Nat) : AV → H → Option R := Nat.rec (motive := fun _ => AV → H → Option R) (fun _ _ => none) (fun g self a0 h => aBuildSlice 1 1 [(0, 1, a0)] h fun x1 h => aNilCheck a0 h fun x2 h => aField 2 x2 h fun x3 h => aLoad x3 h fun x4 h => aLenK 1 x4 h fun x5 h => loopD F (c_impl_node_nodes_l1 F g self) [x1, x4, x5, (AV.int 3 (Int.ofNat 0))] h) g
noncomputable def A_impl_node_nodes : An := (.two .o (.two .o (.two (.two .o (.two (.at_ [3, 11, 12, 13] (.two .o (.two (.two .o .o) (.two (.two (.two .o .o) .o) .o))) .o) .o)) (.two .o .o))))
noncomputable def b_impl_node_nodes : Code := bodyOf Go.Proofs.Try.f75
theorem k_impl_node_nodes (F g : Nat) (a0 : AV) (h : H) : callD Go.Proofs.Try.prog (Env.add (fun _ _ _ => none : Env) 75 (u1 (c_impl_node_nodes F g))) 23 F b_impl_node_nodes [2] A_impl_node_nodes [a0] h = c_impl_node_nodes F (g + 1) a0 h := by kernel_rfl
theorem s_impl_node_nodes (F g : Nat) : ∀ args h r, u1 (c_impl_node_nodes F g) args h = some r → Tri Go.Proofs.Try.prog 75 args h r := by
  induction g with
  | zero => intro args h r e; obtain ⟨a0, rfl, e⟩ := u1_some e; cases e
  | succ g ih => intro args h r e; obtain ⟨a0, rfl, e1⟩ := u1_some e; exact fn_sound Go.Proofs.Try.func75 rfl rfl rfl Go.Proofs.Try.ntmps75 (Sound.add (Sound.none _) ih) ((k_impl_node_nodes F g a0 h).trans e1)

-- "loop.example/treenumbers/impl.TreeNodes"
noncomputable def c_impl_TreeNodes (F g : Nat) (a0 : AV) (h : H) : Option R := bindR (c_impl_readTree F g a0 h) fun x1 h => aExtract x1 0 h fun x2 h => aExtract x1 1 h fun x3 h => aNot x3 h fun x4 h => withBool x4 fun t5 => bc t5 (some (AV.one .tup (AV.cons (AV.int 3 (Int.ofNat 0)) (AV.cons (AV.bool false) (AV.leaf .nil))), h)) (bindR (c_impl_node_nodes F g x2 h) fun x6 h => aLenK 1 x6 h fun x7 h => some (AV.one .tup (AV.cons x7 (AV.cons (AV.bool true) (AV.leaf .nil))), h))
noncomputable def A_impl_TreeNodes : An := (.two .o (.two .o (.two (.two .o (.two (.two .o .o) .o)) (.two .o .o))))
noncomputable def b_impl_TreeNodes : Code := bodyOf Go.Proofs.Try.f22
theorem k_impl_TreeNodes (F g : Nat) (a0 : AV) (h : H) : callD Go.Proofs.Try.prog (Env.add (Env.add (fun _ _ _ => none : Env) 72 (u1 (c_impl_readTree F g))) 75 (u1 (c_impl_node_nodes F g))) 16 F b_impl_TreeNodes [2, 3] A_impl_TreeNodes [a0] h = c_impl_TreeNodes F g a0 h := by kernel_rfl
theorem s_impl_TreeNodes (F g : Nat) : ∀ args h r, u1 (c_impl_TreeNodes F g) args h = some r → Tri Go.Proofs.Try.prog 22 args h r := by
  intro args h r e; obtain ⟨a0, rfl, e1⟩ := u1_some e; exact fn_sound Go.Proofs.Try.func22 rfl rfl rfl Go.Proofs.Try.ntmps22 (Sound.add (Sound.add (Sound.none _) (s_impl_readTree F g)) (s_impl_node_nodes F g)) ((k_impl_TreeNodes F g a0 h).trans e1)

-- "loop.example/treenumbers/impl.PairIn"
noncomputable def c_impl_PairIn (F g : Nat) (a0 : AV) (h : H) : Option R := bindR (c_impl_readPairs F g a0 h) fun x1 h => aExtract x1 0 h fun x2 h => aExtract x1 1 h fun x3 h => some (x3, h)
noncomputable def A_impl_PairIn : An := (.two .o (.two .o (.two .o .o)))
noncomputable def b_impl_PairIn : Code := bodyOf Go.Proofs.Try.f38
theorem k_impl_PairIn (F g : Nat) (a0 : AV) (h : H) : callD Go.Proofs.Try.prog (Env.add (fun _ _ _ => none : Env) 87 (u1 (c_impl_readPairs F g))) 11 F b_impl_PairIn [2] A_impl_PairIn [a0] h = c_impl_PairIn F g a0 h := by kernel_rfl
theorem s_impl_PairIn (F g : Nat) : ∀ args h r, u1 (c_impl_PairIn F g) args h = some r → Tri Go.Proofs.Try.prog 38 args h r := by
  intro args h r e; obtain ⟨a0, rfl, e1⟩ := u1_some e; exact fn_sound Go.Proofs.Try.func38 rfl rfl rfl Go.Proofs.Try.ntmps38 (Sound.add (Sound.none _) (s_impl_readPairs F g)) ((k_impl_PairIn F g a0 h).trans e1)

-- "loop.example/treenumbers/laws.FnPairOf"
noncomputable def c_laws_FnPairOf_j1 (F g : Nat) (vs : List AV) (h : H) : Option R := (fun x30 x31 => aPick x30 x31 (AV.bool false) h fun x32 h => some (x32, h)) (hd vs) (hd (tl vs))
noncomputable def c_laws_FnPairOf_j2 (F g : Nat) (vs : List AV) (h : H) : Option R := (fun x72 x73 => aPick x72 x73 (AV.bool false) h fun x74 h => some (x74, h)) (hd vs) (hd (tl vs))
noncomputable def c_laws_FnPairOf_j3 (F g : Nat) (vs : List AV) (h : H) : Option R := (fun x67 x68 x69 x70 => aPick x69 x70 (AV.bool false) h fun x71 h => guardB true x71 (aArith imul (AV.int 3 (Int.ofNat 2)) x67 h fun x75 h => aArith isub x75 (AV.int 3 (Int.ofNat 1)) h fun x76 h => aCmpI ieq x68 x76 h fun x77 h => (c_laws_FnPairOf_j2 F g) [x71, x77] h) ((c_laws_FnPairOf_j2 F g) [x71, (AV.one .tup (AV.leaf .nil))] h)) (hd vs) (hd (tl vs)) (hd (tl (tl vs))) (hd (tl (tl (tl vs))))
noncomputable def c_laws_FnPairOf_j4 (F g : Nat) (vs : List AV) (h : H) : Option R := (fun x60 x61 x62 x63 x64 x65 => aPick x64 x65 (AV.bool false) h fun x66 h => guardB true x66 (aCmpS eqL x61 x60 h fun x78 h => (c_laws_FnPairOf_j3 F g) [x62, x63, x66, x78] h) ((c_laws_FnPairOf_j3 F g) [x62, x63, x66, (AV.one .tup (AV.leaf .nil))] h)) (hd vs) (hd (tl vs)) (hd (tl (tl vs))) (hd (tl (tl (tl vs)))) (hd (tl (tl (tl (tl vs))))) (hd (tl (tl (tl (tl (tl vs))))))
noncomputable def c_laws_FnPairOf_j5 (F g : Nat) (vs : List AV) (h : H) : Option R := (fun x52 x53 x54 x55 x56 x57 x58 => aPick x57 x58 (AV.bool false) h fun x59 h => guardB true x59 (bindR (c_impl_PairIn F g x53 h) fun x79 h => (c_laws_FnPairOf_j4 F g) [x52, x54, x55, x56, x59, x79] h) ((c_laws_FnPairOf_j4 F g) [x52, x54, x55, x56, x59, (AV.one .tup (AV.leaf .nil))] h)) (hd vs) (hd (tl vs)) (hd (tl (tl vs))) (hd (tl (tl (tl vs)))) (hd (tl (tl (tl (tl vs))))) (hd (tl (tl (tl (tl (tl vs)))))) (hd (tl (tl (tl (tl (tl (tl vs)))))))
noncomputable def c_laws_FnPairOf_j6 (F g : Nat) (vs : List AV) (h : H) : Option R := (fun x43 x44 x45 x46 x47 x48 x49 x50 => aPick x49 x50 (AV.bool false) h fun x51 h => guardB true x51 ((c_laws_FnPairOf_j5 F g) [x43, x44, x45, x46, x47, x51, x48] h) ((c_laws_FnPairOf_j5 F g) [x43, x44, x45, x46, x47, x51, (AV.one .tup (AV.leaf .nil))] h)) (hd vs) (hd (tl vs)) (hd (tl (tl vs))) (hd (tl (tl (tl vs)))) (hd (tl (tl (tl (tl vs))))) (hd (tl (tl (tl (tl (tl vs)))))) (hd (tl (tl (tl (tl (tl (tl vs))))))) (hd (tl (tl (tl (tl (tl (tl (tl vs))))))))
noncomputable def c_laws_FnPairOf_j7 (F g : Nat) (vs : List AV) (h : H) : Option R := (fun x20 x21 x22 x23 x24 x25 x26 => aPick x25 (AV.bool true) x26 h fun x27 h => withBool x27 fun t28 => bc t28 (aEq false 0 x22 x24 h fun x29 h => guardB true x29 (aCmpS eqL x21 x23 h fun x33 h => (c_laws_FnPairOf_j1 F g) [x29, x33] h) ((c_laws_FnPairOf_j1 F g) [x29, (AV.one .tup (AV.leaf .nil))] h)) (bindR (c_impl_PairBack F g x21 h) fun x34 h => aExtract x34 0 h fun x35 h => aExtract x34 1 h fun x36 h => bindR (c_impl_TreeNodes F g x20 h) fun x37 h => aExtract x37 0 h fun x38 h => aExtract x37 1 h fun x39 h => bindR (c_impl_TreeNodes F g x21 h) fun x40 h => aExtract x40 0 h fun x41 h => aExtract x40 1 h fun x42 h => guardB true x36 ((c_laws_FnPairOf_j6 F g) [x20, x21, x35, x38, x41, x42, x36, x39] h) ((c_laws_FnPairOf_j6 F g) [x20, x21, x35, x38, x41, x42, x36, (AV.one .tup (AV.leaf .nil))] h))) (hd vs) (hd (tl vs)) (hd (tl (tl vs))) (hd (tl (tl (tl vs)))) (hd (tl (tl (tl (tl vs))))) (hd (tl (tl (tl (tl (tl vs)))))) (hd (tl (tl (tl (tl (tl (tl vs)))))))
noncomputable def c_laws_FnPairOf_j8 (F g : Nat) (vs : List AV) (h : H) : Option R := (fun x12 x13 x14 x15 x16 x17 x18 => aPick x17 (AV.bool true) x18 h fun x19 h => guardB false x19 (aNot x14 h fun x80 h => (c_laws_FnPairOf_j7 F g) [x12, x13, x14, x15, x16, x19, x80] h) ((c_laws_FnPairOf_j7 F g) [x12, x13, x14, x15, x16, x19, (AV.one .tup (AV.leaf .nil))] h)) (hd vs) (hd (tl vs)) (hd (tl (tl vs))) (hd (tl (tl (tl vs)))) (hd (tl (tl (tl (tl vs))))) (hd (tl (tl (tl (tl (tl vs)))))) (hd (tl (tl (tl (tl (tl (tl vs)))))))
noncomputable def c_laws_FnPairOf_r9 (F g : Nat) (x4 : AV) (h : H) : Option R := bindR (c_impl_PairOf F g x4 h) fun x5 h => aExtract x5 0 h fun x6 h => aExtract x5 1 h fun x7 h => bindR (c_spec_PairOf F g x4 h) fun x8 h => aExtract x8 0 h fun x9 h => aExtract x8 1 h fun x10 h => aEq true 0 x7 x10 h fun x11 h => guardB false x11 (aCmpS (fun a b => bnot (eqL a b)) x6 x9 h fun x81 h => (c_laws_FnPairOf_j8 F g) [x4, x6, x7, x9, x10, x11, x81] h) ((c_laws_FnPairOf_j8 F g) [x4, x6, x7, x9, x10, x11, (AV.one .tup (AV.leaf .nil))] h)
noncomputable def c_laws_FnPairOf (F g : Nat) (a0 : AV) (h : H) : Option R := aLenK 1 a0 h fun x1 h => aCmpI (fun a b => ilt b a) x1 (AV.int 3 (Int.ofNat 1048576)) h fun x2 h => withBool x2 fun t3 => bc t3 (some ((AV.bool true), h)) (bindR (c_spec_DrawPairOf F g a0 h) fun x4 h => c_laws_FnPairOf_r9 F g x4 h)
noncomputable def A_laws_FnPairOf : An := (.two .o (.two (.two .o (.two (.two .o .o) .o)) (.two .o (.two .o (.two .o (.two (.two (.at_ [3, 4, 5, 6, 7, 32, 35] .o (.at_ [3, 4, 5, 6, 7, 37, 39] .o .o)) (.two (.two (.at_ [44, 47] .o .o) .o) .o)) (.two .o (.two .o (.two .o (.two (.at_ [3, 4, 8, 10, 12, 13, 65, 66] .o (.at_ [3, 4, 8, 10, 12, 68, 69] .o (.at_ [3, 8, 10, 12, 71, 73] .o (.at_ [10, 12, 75, 78] .o (.at_ [80, 85] .o .o))))) .o))))))))))
noncomputable def b_laws_FnPairOf : Code := bodyOf Go.Proofs.Try.f10
theorem k_laws_FnPairOf (F g : Nat) (a0 : AV) (h : H) : callD Go.Proofs.Try.prog (Env.add (Env.add (Env.add (Env.add (Env.add (Env.add (fun _ _ _ => none : Env) 42 (u1 (c_spec_DrawPairOf F g))) 43 (u1 (c_impl_PairOf F g))) 44 (u1 (c_spec_PairOf F g))) 45 (u1 (c_impl_PairBack F g))) 22 (u1 (c_impl_TreeNodes F g))) 38 (u1 (c_impl_PairIn F g))) 87 F b_laws_FnPairOf [2] A_laws_FnPairOf [a0] h = c_laws_FnPairOf F g a0 h := by kernel_rfl
theorem s_laws_FnPairOf (F g : Nat) : ∀ args h r, u1 (c_laws_FnPairOf F g) args h = some r → Tri Go.Proofs.Try.prog 10 args h r := by
  intro args h r e; obtain ⟨a0, rfl, e1⟩ := u1_some e; exact fn_sound Go.Proofs.Try.func10 rfl rfl rfl Go.Proofs.Try.ntmps10 (Sound.add (Sound.add (Sound.add (Sound.add (Sound.add (Sound.add (Sound.none _) (s_spec_DrawPairOf F g)) (s_impl_PairOf F g)) (s_spec_PairOf F g)) (s_impl_PairBack F g)) (s_impl_TreeNodes F g)) (s_impl_PairIn F g)) ((k_laws_FnPairOf F g a0 h).trans e1)

end
end Go.AI.T
