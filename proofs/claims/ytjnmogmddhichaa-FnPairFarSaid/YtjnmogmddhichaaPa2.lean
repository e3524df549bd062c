/- Two drawn trees of pairs. -/
import Derived.Test.YtjnmogmddhichaaRaw
import Derived.Test.YtjnmogmddhichaaProg
import Derived.KernelRfl
namespace Go.AI.P0
open Go Go.RowKit Go.AI
set_option linter.unusedVariables false
set_option linter.unusedSimpArgs false
set_option maxRecDepth 100000
noncomputable section
def c_spec_TreeIn (F g : Nat) (a0 : AV) (h : H) : Option R := Go.AI.T.c_spec_TreeIn F g a0 h
theorem s_spec_TreeIn (F g : Nat) : ∀ args h r, u1 (c_spec_TreeIn F g) args h = some r → Tri Go.Proofs.Try.prog id_spec_TreeIn args h r := Go.AI.T.s_spec_TreeIn F g
-- "loop.example/treenumbers/spec.l1End"
noncomputable def c_spec_l1End_j1 (F g : Nat) (kc1 : List AV → H → Option R) (vs : List AV) (h : H) : Option R := (fun x8 x9 x10 => aCmpI ieq x9 (AV.int 3 (Int.ofNat 0)) h fun x11 h => withBool x11 fun t12 => bc t12 (aArith iadd x10 (AV.int 3 (Int.ofNat 1)) h fun x13 h => some (x13, h)) (aCmpI ilt x9 (AV.int 3 (Int.ofNat 0)) h fun x14 h => withBool x14 fun t15 => bc t15 (some ((AV.int 3 (Int.negSucc 0)), h)) (aArith iadd x10 (AV.int 3 (Int.ofNat 1)) h fun x16 h => kc1 [x8, x9, x16] h))) (hd vs) (hd (tl vs)) (hd (tl (tl vs)))
noncomputable def c_spec_l1End_l2 (F g : Nat) : List AV → H → (List AV → H → Option R) → Option R := fun vs h kc1 => (fun x2 x3 x4 => aLenK 0 x2 h fun x5 h => aCmpI ilt x4 x5 h fun x6 h => withBool x6 fun t7 => bc t7 (aIdxStr x2 x4 h fun x17 h => aCmpI ieq x17 (AV.int 4 (Int.ofNat 40)) h fun x18 h => withBool x18 fun t19 => bc t19 (aArith iadd x3 (AV.int 3 (Int.ofNat 1)) h fun x20 h => (c_spec_l1End_j1 F g kc1) [x2, x20, x4] h) (aCmpI ieq x17 (AV.int 4 (Int.ofNat 41)) h fun x21 h => withBool x21 fun t22 => bc t22 (aArith isub x3 (AV.int 3 (Int.ofNat 1)) h fun x23 h => (c_spec_l1End_j1 F g kc1) [x2, x23, x4] h) (some ((AV.int 3 (Int.negSucc 0)), h)))) (some ((AV.int 3 (Int.negSucc 0)), h))) (hd vs) (hd (tl vs)) (hd (tl (tl vs)))
noncomputable def c_spec_l1End (F g : Nat) (a0 a1 : AV) (h : H) : Option R := loopD F (c_spec_l1End_l2 F g) [a0, (AV.int 3 (Int.ofNat 0)), a1] h
noncomputable def A_spec_l1End : An := (.two .o (.two .o (.two (.two .o (.two (.at_ [0, 5, 6] (.two (.two .o (.two .o .o)) (.two (.two (.at_ [0, 5, 6] (.two .o (.two (.two .o (.two .o (.two .o (.two .o (.two .o .o))))) .o)) (.two (.two .o (.two (.two .o .o) .o)) (.two .o (.two (.two .o .o) .o)))) .o) .o)) .o) .o)) (.two .o .o))))
noncomputable def b_spec_l1End : Code := bodyOf Go.Proofs.Try.f47
theorem k_spec_l1End (F g : Nat) (a0 a1 : AV) (h : H) : callD Go.Proofs.Try.prog (fun _ _ _ => none : Env) 31 F b_spec_l1End [4] A_spec_l1End [a0, a1] h = c_spec_l1End F g a0 a1 h := by kernel_rfl
theorem s_spec_l1End (F g : Nat) : ∀ args h r, u2 (c_spec_l1End F g) args h = some r → Tri Go.Proofs.Try.prog 47 args h r := by
  intro args h r e; obtain ⟨a0, a1, rfl, e1⟩ := u2_some e; exact fn_sound Go.Proofs.Try.func47 rfl rfl rfl Go.Proofs.Try.ntmps47 (Sound.none _) ((k_spec_l1End F g a0 a1 h).trans e1)

-- "loop.example/treenumbers/spec.l1Kids"
noncomputable def c_spec_l1Kids_l1 (F g : Nat) : List AV → H → (List AV → H → Option R) → Option R := fun vs h kc2 => (fun x3 x4 x5 => aLenK 0 x3 h fun x6 h => aArith isub x6 (AV.int 3 (Int.ofNat 1)) h fun x7 h => aCmpI ilt x5 x7 h fun x8 h => withBool x8 fun t9 => bc t9 (bindR (c_spec_l1End F g x3 x5 h) fun x10 h => aSliceS x3 (some x5) (some x10) none h fun x11 h => aBuildSlice 1 1 [(0, 1, x11)] h fun x12 h => aAppend 1 16 x4 x12 h fun x13 h => kc2 [x3, x13, x10] h) (some (x4, h))) (hd vs) (hd (tl vs)) (hd (tl (tl vs)))
noncomputable def c_spec_l1Kids (F g : Nat) (a0 : AV) (h : H) : Option R := aBuildSlice 0 1 [] h fun x1 h => loopD F (c_spec_l1Kids_l1 F g) [a0, x1, (AV.int 3 (Int.ofNat 1))] h
noncomputable def A_spec_l1Kids : An := (.two .o (.two .o (.two .o (.two (.two (.at_ [0, 3, 4] (.two (.two .o (.two .o .o)) (.two (.two .o (.two .o .o)) .o)) .o) .o) (.two .o .o)))))
noncomputable def b_spec_l1Kids : Code := bodyOf Go.Proofs.Try.f48
theorem k_spec_l1Kids (F g : Nat) (a0 : AV) (h : H) : callD Go.Proofs.Try.prog (Env.add (fun _ _ _ => none : Env) 47 (u2 (c_spec_l1End F g))) 24 F b_spec_l1Kids [2] A_spec_l1Kids [a0] h = c_spec_l1Kids F g a0 h := by kernel_rfl
theorem s_spec_l1Kids (F g : Nat) : ∀ args h r, u1 (c_spec_l1Kids F g) args h = some r → Tri Go.Proofs.Try.prog 48 args h r := by
  intro args h r e; obtain ⟨a0, rfl, e1⟩ := u1_some e; exact fn_sound Go.Proofs.Try.func48 rfl rfl rfl Go.Proofs.Try.ntmps48 (Sound.add (Sound.none _) (s_spec_l1End F g)) ((k_spec_l1Kids F g a0 h).trans e1)

-- "loop.example/treenumbers/spec.l8Of"
noncomputable def c_spec_l8Of (F g : Nat) : AV → H → Option R := Nat.rec (motive := fun _ => AV → H → Option R) (fun _ _ => none) (fun g self a0 h => aLenK 1 a0 h fun x1 h => aCmpI ieq x1 (AV.int 3 (Int.ofNat 0)) h fun x2 h => withBool x2 fun t3 => bc t3 (some ((AV.str [40, 41] 2), h)) (aIdxAddr 1 a0 (AV.int 3 (Int.ofNat 0)) h fun x4 _ => aLoad x4 h fun x5 _ => bindR (c_spec_l1Kids F g x5 h) fun x6 h => bindR (self x6 h) fun x7 h => aSAdd (AV.str [40] 1) x7 h fun x8 _ => aSliceV 1 a0 (some (AV.int 3 (Int.ofNat 1))) none none h fun x9 _ => bindR (self x9 h) fun x10 h => aSAdd x8 x10 h fun x11 _ => aSAdd x11 (AV.str [41] 1) h fun x12 _ => some (x12, h))) g
noncomputable def A_spec_l8Of : An := (.two .o (.two (.two .o (.two (.two .o .o) .o)) (.two .o .o)))
noncomputable def b_spec_l8Of : Code := bodyOf Go.Proofs.Try.f69
theorem k_spec_l8Of (F g : Nat) (a0 : AV) (h : H) : callD Go.Proofs.Try.prog (Env.add (Env.add (fun _ _ _ => none : Env) 48 (u1 (c_spec_l1Kids F g))) 69 (u1 (c_spec_l8Of F g))) 17 F b_spec_l8Of [2] A_spec_l8Of [a0] h = c_spec_l8Of F (g + 1) a0 h := by kernel_rfl
theorem s_spec_l8Of (F g : Nat) : ∀ args h r, u1 (c_spec_l8Of F g) args h = some r → Tri Go.Proofs.Try.prog 69 args h r := by
  induction g with
  | zero => intro args h r e; obtain ⟨a0, rfl, e⟩ := u1_some e; cases e
  | succ g ih => intro args h r e; obtain ⟨a0, rfl, e1⟩ := u1_some e; exact fn_sound Go.Proofs.Try.func69 rfl rfl rfl Go.Proofs.Try.ntmps69 (Sound.add (Sound.add (Sound.none _) (s_spec_l1Kids F g)) ih) ((k_spec_l8Of F g a0 h).trans e1)

-- "loop.example/treenumbers/spec.l1Done"
noncomputable def c_spec_l1Done (F g : Nat) (a0 : AV) (h : H) : Option R := bindR (c_spec_TreeIn F g a0 h) fun x1 h => aNot x1 h fun x2 h => withBool x2 fun t3 => bc t3 (some (AV.one .tup (AV.cons (AV.str [] 0) (AV.cons (AV.bool false) (AV.leaf .nil))), h)) (some (AV.one .tup (AV.cons a0 (AV.cons (AV.bool true) (AV.leaf .nil))), h))
noncomputable def A_spec_l1Done : An := (.two .o (.two (.two .o (.two (.two .o .o) .o)) (.two .o .o)))
noncomputable def b_spec_l1Done : Code := bodyOf Go.Proofs.Try.f68
theorem k_spec_l1Done (F g : Nat) (a0 : AV) (h : H) : callD Go.Proofs.Try.prog (Env.add (fun _ _ _ => none : Env) 25 (u1 (c_spec_TreeIn F g))) 8 F b_spec_l1Done [2, 3] A_spec_l1Done [a0] h = c_spec_l1Done F g a0 h := by kernel_rfl
theorem s_spec_l1Done (F g : Nat) : ∀ args h r, u1 (c_spec_l1Done F g) args h = some r → Tri Go.Proofs.Try.prog 68 args h r := by
  intro args h r e; obtain ⟨a0, rfl, e1⟩ := u1_some e; exact fn_sound Go.Proofs.Try.func68 rfl rfl rfl Go.Proofs.Try.ntmps68 (Sound.add (Sound.none _) (s_spec_TreeIn F g)) ((k_spec_l1Done F g a0 h).trans e1)

-- "loop.example/treenumbers/spec.PairOf"
noncomputable def c_spec_PairOf (F g : Nat) (a0 : AV) (h : H) : Option R := bindR (c_spec_TreeIn F g a0 h) fun x1 h => aNot x1 h fun x2 h => withBool x2 fun t3 => bc t3 (some (AV.one .tup (AV.cons (AV.str [] 0) (AV.cons (AV.bool false) (AV.leaf .nil))), h)) (bindR (c_spec_l1Kids F g a0 h) fun x4 h => bindR (c_spec_l8Of F g x4 h) fun x5 h => bindR (c_spec_l1Done F g x5 h) fun x6 h => aExtract x6 0 h fun x7 h => aExtract x6 1 h fun x8 h => some (AV.one .tup (AV.cons x7 (AV.cons x8 (AV.leaf .nil))), h))
noncomputable def A_spec_PairOf : An := (.two .o (.two (.two .o (.two (.two .o .o) .o)) (.two .o .o)))
noncomputable def b_spec_PairOf : Code := bodyOf Go.Proofs.Try.f52
theorem k_spec_PairOf (F g : Nat) (a0 : AV) (h : H) : callD Go.Proofs.Try.prog (Env.add (Env.add (Env.add (Env.add (fun _ _ _ => none : Env) 25 (u1 (c_spec_TreeIn F g))) 48 (u1 (c_spec_l1Kids F g))) 69 (u1 (c_spec_l8Of F g))) 68 (u1 (c_spec_l1Done F g))) 13 F b_spec_PairOf [2, 3] A_spec_PairOf [a0] h = c_spec_PairOf F g a0 h := by kernel_rfl
theorem s_spec_PairOf (F g : Nat) : ∀ args h r, u1 (c_spec_PairOf F g) args h = some r → Tri Go.Proofs.Try.prog 52 args h r := by
  intro args h r e; obtain ⟨a0, rfl, e1⟩ := u1_some e; exact fn_sound Go.Proofs.Try.func52 rfl rfl rfl Go.Proofs.Try.ntmps52 (Sound.add (Sound.add (Sound.add (Sound.add (Sound.none _) (s_spec_TreeIn F g)) (s_spec_l1Kids F g)) (s_spec_l8Of F g)) (s_spec_l1Done F g)) ((k_spec_PairOf F g a0 h).trans e1)

-- "loop.example/treenumbers/spec.l1Opens"
noncomputable def c_spec_l1Opens_j1 (F g : Nat) (kc2 : List AV → H → Option R) (vs : List AV) (h : H) : Option R := (fun x9 x10 x11 => aArith iadd x11 (AV.int 3 (Int.ofNat 1)) h fun x12 h => kc2 [x9, x10, x12] h) (hd vs) (hd (tl vs)) (hd (tl (tl vs)))
noncomputable def c_spec_l1Opens_l2 (F g : Nat) : List AV → H → (List AV → H → Option R) → Option R := fun vs h kc2 => (fun x3 x4 x5 => aLenK 0 x3 h fun x6 h => aCmpI ilt x5 x6 h fun x7 h => withBool x7 fun t8 => bc t8 (aIdxStr x3 x5 h fun x13 h => aCmpI ieq x13 (AV.int 4 (Int.ofNat 40)) h fun x14 h => withBool x14 fun t15 => bc t15 (aBuildSlice 1 1 [(0, 1, x5)] h fun x16 h => aAppend 1 8 x4 x16 h fun x17 h => (c_spec_l1Opens_j1 F g kc2) [x3, x17, x5] h) ((c_spec_l1Opens_j1 F g kc2) [x3, x4, x5] h)) (some (x4, h))) (hd vs) (hd (tl vs)) (hd (tl (tl vs)))
noncomputable def c_spec_l1Opens (F g : Nat) (a0 : AV) (h : H) : Option R := aBuildSlice 0 1 [] h fun x1 h => loopD F (c_spec_l1Opens_l2 F g) [a0, x1, (AV.int 3 (Int.ofNat 0))] h
noncomputable def A_spec_l1Opens : An := (.two .o (.two .o (.two (.two .o (.two (.at_ [0, 3, 4] (.two (.two .o (.two .o .o)) (.at_ [0, 3, 4] (.two (.two .o (.two .o .o)) .o) .o)) .o) .o)) (.two .o .o))))
noncomputable def b_spec_l1Opens : Code := bodyOf Go.Proofs.Try.f75
theorem k_spec_l1Opens (F g : Nat) (a0 : AV) (h : H) : callD Go.Proofs.Try.prog (fun _ _ _ => none : Env) 21 F b_spec_l1Opens [2] A_spec_l1Opens [a0] h = c_spec_l1Opens F g a0 h := by kernel_rfl
theorem s_spec_l1Opens (F g : Nat) : ∀ args h r, u1 (c_spec_l1Opens F g) args h = some r → Tri Go.Proofs.Try.prog 75 args h r := by
  intro args h r e; obtain ⟨a0, rfl, e1⟩ := u1_some e; exact fn_sound Go.Proofs.Try.func75 rfl rfl rfl Go.Proofs.Try.ntmps75 (Sound.none _) ((k_spec_l1Opens F g a0 h).trans e1)

-- "loop.example/treenumbers/spec.l8Turn"
noncomputable def c_spec_l8Turn_j1 (F g : Nat) (vs : List AV) (h : H) : Option R := (fun x4 x5 x6 => aPick x5 (AV.bool true) x6 h fun x7 h => withBool x7 fun t8 => bc t8 (some ((AV.str [] 0), h)) (aIdxAddr 1 x4 (AV.int 3 (Int.ofNat 0)) h fun x9 h => aLoad x9 h fun x10 h => bindR (c_spec_l1Kids F g x10 h) fun x11 h => aIdxAddr 1 x11 (AV.int 3 (Int.ofNat 0)) h fun x12 _ => aLoad x12 h fun x13 _ => aSAdd (AV.str [40] 1) x13 h fun x14 _ => aSAdd x14 (AV.str [40] 1) h fun x15 _ => aIdxAddr 1 x11 (AV.int 3 (Int.ofNat 1)) h fun x16 _ => aLoad x16 h fun x17 _ => aSAdd x15 x17 h fun x18 _ => aIdxAddr 1 x4 (AV.int 3 (Int.ofNat 1)) h fun x19 _ => aLoad x19 h fun x20 _ => aSAdd x18 x20 h fun x21 _ => aSAdd x21 (AV.str [41, 41] 2) h fun x22 _ => some (x22, h))) (hd vs) (hd (tl vs)) (hd (tl (tl vs)))
noncomputable def c_spec_l8Turn (F g : Nat) (a0 : AV) (h : H) : Option R := bindR (c_spec_l1Kids F g a0 h) fun x1 h => aLenK 1 x1 h fun x2 h => aCmpI ieq x2 (AV.int 3 (Int.ofNat 0)) h fun x3 h => guardB false x3 (aIdxAddr 1 x1 (AV.int 3 (Int.ofNat 0)) h fun x23 h => aLoad x23 h fun x24 h => aLenK 0 x24 h fun x25 h => aCmpI ieq x25 (AV.int 3 (Int.ofNat 2)) h fun x26 h => (c_spec_l8Turn_j1 F g) [x1, x3, x26] h) ((c_spec_l8Turn_j1 F g) [x1, x3, (AV.one .tup (AV.leaf .nil))] h)
noncomputable def A_spec_l8Turn : An := (.two .o (.two .o (.two (.two (.at_ [3, 10, 15] .o .o) (.two (.two .o .o) .o)) (.two .o (.two .o .o)))))
noncomputable def b_spec_l8Turn : Code := bodyOf Go.Proofs.Try.f76
theorem k_spec_l8Turn (F g : Nat) (a0 : AV) (h : H) : callD Go.Proofs.Try.prog (Env.add (fun _ _ _ => none : Env) 48 (u1 (c_spec_l1Kids F g))) 35 F b_spec_l8Turn [2] A_spec_l8Turn [a0] h = c_spec_l8Turn F g a0 h := by kernel_rfl
theorem s_spec_l8Turn (F g : Nat) : ∀ args h r, u1 (c_spec_l8Turn F g) args h = some r → Tri Go.Proofs.Try.prog 76 args h r := by
  intro args h r e; obtain ⟨a0, rfl, e1⟩ := u1_some e; exact fn_sound Go.Proofs.Try.func76 rfl rfl rfl Go.Proofs.Try.ntmps76 (Sound.add (Sound.none _) (s_spec_l1Kids F g)) ((k_spec_l8Turn F g a0 h).trans e1)

-- "loop.example/treenumbers/spec.l8At"
noncomputable def c_spec_l8At (F g : Nat) (a0 a1 : AV) (h : H) : Option R := bindR (c_spec_l1Opens F g a0 h) fun x1 h => aIdxAddr 1 x1 a1 h fun x2 h => aLoad x2 h fun x3 h => bindR (c_spec_l1End F g a0 x3 h) fun x4 h => aSliceS a0 (some x3) (some x4) none h fun x5 h => bindR (c_spec_l8Turn F g x5 h) fun x6 h => aCmpS eqL x6 (AV.str [] 0) h fun x7 h => withBool x7 fun t8 => bc t8 (some ((AV.str [] 0), h)) (aSliceS a0 none (some x3) none h fun x9 _ => aSAdd x9 x6 h fun x10 _ => aSliceS a0 (some x4) none none h fun x11 _ => aSAdd x10 x11 h fun x12 _ => some (x12, h))
noncomputable def A_spec_l8At : An := (.two .o (.two .o (.two .o (.two .o (.two (.two .o (.two (.two .o .o) .o)) (.two .o .o))))))
noncomputable def b_spec_l8At : Code := bodyOf Go.Proofs.Try.f61
theorem k_spec_l8At (F g : Nat) (a0 a1 : AV) (h : H) : callD Go.Proofs.Try.prog (Env.add (Env.add (Env.add (fun _ _ _ => none : Env) 75 (u1 (c_spec_l1Opens F g))) 47 (u2 (c_spec_l1End F g))) 76 (u1 (c_spec_l8Turn F g))) 32 F b_spec_l8At [4] A_spec_l8At [a0, a1] h = c_spec_l8At F g a0 a1 h := by kernel_rfl
theorem s_spec_l8At (F g : Nat) : ∀ args h r, u2 (c_spec_l8At F g) args h = some r → Tri Go.Proofs.Try.prog 61 args h r := by
  intro args h r e; obtain ⟨a0, a1, rfl, e1⟩ := u2_some e; exact fn_sound Go.Proofs.Try.func61 rfl rfl rfl Go.Proofs.Try.ntmps61 (Sound.add (Sound.add (Sound.add (Sound.none _) (s_spec_l1Opens F g)) (s_spec_l1End F g)) (s_spec_l8Turn F g)) ((k_spec_l8At F g a0 a1 h).trans e1)

-- "loop.example/treenumbers/spec.l8Put"
noncomputable def c_spec_l8Put_j1 (F g : Nat) (vs : List AV) (h : H) : Option R := (fun x16 x17 x18 x19 x20 => aPick x19 x20 (AV.bool false) h fun x21 h => withBool x21 fun t22 => bc t22 (some (x16, h)) (aBuildSlice 0 1 [] h fun x23 h => aSliceV 1 x16 none (some x18) none h fun x24 _ => aAppend 1 16 x23 x24 h fun x25 h => aBuildSlice 1 1 [(0, 1, x17)] h fun x26 h => aAppend 1 16 x25 x26 h fun x27 h => aSliceV 1 x16 (some x18) none none h fun x28 _ => aAppend 1 16 x27 x28 h fun x29 h => some (x29, h))) (hd vs) (hd (tl vs)) (hd (tl (tl vs))) (hd (tl (tl (tl vs)))) (hd (tl (tl (tl (tl vs)))))
noncomputable def c_spec_l8Put_j2 (F g : Nat) (kc2 : List AV → H → Option R) (vs : List AV) (h : H) : Option R := (fun x7 x8 x9 x10 x11 => aPick x10 x11 (AV.bool false) h fun x12 h => withBool x12 fun t13 => bc t13 (aArith isub x9 (AV.int 3 (Int.ofNat 1)) h fun x14 h => kc2 [x7, x8, x14] h) (aCmpI (fun a b => ilt b a) x9 (AV.int 3 (Int.ofNat 0)) h fun x15 h => guardB true x15 (aArith isub x9 (AV.int 3 (Int.ofNat 1)) h fun x30 h => aIdxAddr 1 x7 x30 h fun x31 h => aLoad x31 h fun x32 h => aCmpS eqL x32 x8 h fun x33 h => (c_spec_l8Put_j1 F g) [x7, x8, x9, x15, x33] h) ((c_spec_l8Put_j1 F g) [x7, x8, x9, x15, (AV.one .tup (AV.leaf .nil))] h))) (hd vs) (hd (tl vs)) (hd (tl (tl vs))) (hd (tl (tl (tl vs)))) (hd (tl (tl (tl (tl vs)))))
noncomputable def c_spec_l8Put_l3 (F g : Nat) : List AV → H → (List AV → H → Option R) → Option R := fun vs h kc2 => (fun x3 x4 x5 => aCmpI (fun a b => ilt b a) x5 (AV.int 3 (Int.ofNat 0)) h fun x6 h => guardB true x6 (aArith isub x5 (AV.int 3 (Int.ofNat 1)) h fun x34 h => aIdxAddr 1 x3 x34 h fun x35 h => aLoad x35 h fun x36 h => aCmpS ltL x4 x36 h fun x37 h => (c_spec_l8Put_j2 F g kc2) [x3, x4, x5, x6, x37] h) ((c_spec_l8Put_j2 F g kc2) [x3, x4, x5, x6, (AV.one .tup (AV.leaf .nil))] h)) (hd vs) (hd (tl vs)) (hd (tl (tl vs)))
noncomputable def c_spec_l8Put (F g : Nat) (a0 a1 : AV) (h : H) : Option R := aLenK 1 a0 h fun x1 h => loopD F (c_spec_l8Put_l3 F g) [a0, a1, x1] h
noncomputable def A_spec_l8Put : An := (.two .o (.two .o (.two (.two (.at_ [0, 1, 5] (.two (.two (.at_ [0, 1, 5, 10, 17] .o .o) (.two .o .o)) (.two .o .o)) .o) .o) (.two (.two (.at_ [0, 1, 5, 23, 30] .o .o) (.two (.two .o .o) .o)) (.two .o .o)))))
noncomputable def b_spec_l8Put : Code := bodyOf Go.Proofs.Try.f62
theorem k_spec_l8Put (F g : Nat) (a0 a1 : AV) (h : H) : callD Go.Proofs.Try.prog (fun _ _ _ => none : Env) 45 F b_spec_l8Put [4] A_spec_l8Put [a0, a1] h = c_spec_l8Put F g a0 a1 h := by kernel_rfl
theorem s_spec_l8Put (F g : Nat) : ∀ args h r, u2 (c_spec_l8Put F g) args h = some r → Tri Go.Proofs.Try.prog 62 args h r := by
  intro args h r e; obtain ⟨a0, a1, rfl, e1⟩ := u2_some e; exact fn_sound Go.Proofs.Try.func62 rfl rfl rfl Go.Proofs.Try.ntmps62 (Sound.none _) ((k_spec_l8Put F g a0 a1 h).trans e1)

-- "loop.example/treenumbers/spec.l8Turns"
noncomputable def c_spec_l8Turns_j1 (F g : Nat) (kc2 : List AV → H → Option R) (vs : List AV) (h : H) : Option R := (fun x10 x11 x12 => aArith iadd x12 (AV.int 3 (Int.ofNat 1)) h fun x13 h => kc2 [x10, x11, x13] h) (hd vs) (hd (tl vs)) (hd (tl (tl vs)))
noncomputable def c_spec_l8Turns_l2 (F g : Nat) : List AV → H → (List AV → H → Option R) → Option R := fun vs h kc2 => (fun x3 x4 x5 => aLenK 0 x3 h fun x6 h => aQuo x6 (AV.int 3 (Int.ofNat 2)) h fun x7 h => aCmpI ilt x5 x7 h fun x8 h => withBool x8 fun t9 => bc t9 (bindR (c_spec_l8At F g x3 x5 h) fun x14 h => aCmpS (fun a b => bnot (eqL a b)) x14 (AV.str [] 0) h fun x15 h => withBool x15 fun t16 => bc t16 (bindR (c_spec_l8Put F g x4 x14 h) fun x17 h => (c_spec_l8Turns_j1 F g kc2) [x3, x17, x5] h) ((c_spec_l8Turns_j1 F g kc2) [x3, x4, x5] h)) (some (x4, h))) (hd vs) (hd (tl vs)) (hd (tl (tl vs)))
noncomputable def c_spec_l8Turns (F g : Nat) (a0 : AV) (h : H) : Option R := aBuildSlice 0 1 [] h fun x1 h => loopD F (c_spec_l8Turns_l2 F g) [a0, x1, (AV.int 3 (Int.ofNat 0))] h
noncomputable def A_spec_l8Turns : An := (.two .o (.two .o (.two (.two .o (.two (.at_ [0, 3, 4] (.two (.two .o (.two .o .o)) (.at_ [0, 3, 4] (.two (.two .o (.two .o (.two .o .o))) .o) .o)) .o) .o)) (.two .o .o))))
noncomputable def b_spec_l8Turns : Code := bodyOf Go.Proofs.Try.f36
theorem k_spec_l8Turns (F g : Nat) (a0 : AV) (h : H) : callD Go.Proofs.Try.prog (Env.add (Env.add (fun _ _ _ => none : Env) 61 (u2 (c_spec_l8At F g))) 62 (u2 (c_spec_l8Put F g))) 23 F b_spec_l8Turns [2] A_spec_l8Turns [a0] h = c_spec_l8Turns F g a0 h := by kernel_rfl
theorem s_spec_l8Turns (F g : Nat) : ∀ args h r, u1 (c_spec_l8Turns F g) args h = some r → Tri Go.Proofs.Try.prog 36 args h r := by
  intro args h r e; obtain ⟨a0, rfl, e1⟩ := u1_some e; exact fn_sound Go.Proofs.Try.func36 rfl rfl rfl Go.Proofs.Try.ntmps36 (Sound.add (Sound.add (Sound.none _) (s_spec_l8At F g)) (s_spec_l8Put F g)) ((k_spec_l8Turns F g a0 h).trans e1)

end
end Go.AI.P0
namespace Go.AI
open Go Go.RowKit
noncomputable section
set_option linter.unusedVariables false
variable {P : Program}
theorem CellsR.plain {ι ι' : Inj} {l : List AV} {c : Array Value} {o : Nat} (hp : ∀ a ∈ l, a.plain = true) (hc : CellsR ι l c o) : CellsR ι' l c o :=
  fun i a hi => let ⟨v, h1, h2⟩ := hc i a hi; ⟨v, h1, plain_mono (hp a (List.mem_of_getElem? hi)) h2⟩

theorem row_rel {ι ι' : Inj} {h h' : H} {w w' : World} (r : Rel ι h w) (hb : Below w.heap.size w w') (r' : Rel ι' h' w') {b B base sz fl : Nat} {l : List AV}
    (eb : ι' b = some (B, base, sz)) (hB : w.heap.size ≤ B) (hg : h'.get b = .cells fl l) (hfl : fl < 4) (hp : ∀ a ∈ l, a.plain = true) :
    Ext ι h w (ι.add h.n (B, base, sz)) (h.push (.cells fl l)) w' ∧ Rel (ι.add h.n (B, base, sz)) (h.push (.cells fl l)) w' := by
  have hBlt := r'.lt _ _ _ _ eb
  refine ⟨⟨Inj.le_add r.noId, hb.os, hb.tape, hb.output, hb.size, fun C hC _ => hb.block C hC, ?_, Nat.le_succ _, Nat.le_refl _, ?_, ?_, ?_⟩, ⟨?_, ?_, ?_, ?_, ?_⟩⟩
  · intro C ⟨c, o', s', e, ho⟩
    unfold Inj.add at e
    rw [H.get_push] at ho
    split at e
    · cases e; exact .inr hB
    · rename_i hn; rw [if_neg hn] at ho; exact .inl ⟨c, o', s', e, ho⟩
  · intro c _ hc; rw [H.get_push, if_neg (by omega)]
  · intro c C o' s' _ _ _ e; exact hb.block _ (r.lt _ _ _ _ e)
  · intro c C o' s' e
    unfold Inj.add at e
    split at e
    · cases e; exact .inr hB
    · exact .inl ⟨c, _, _, e⟩
  · intro c y e
    unfold Inj.add at e; rw [H.n_push]
    split at e
    · omega
    · have := r.fresh _ _ e; omega
  · intro c C o' s' e
    unfold Inj.add at e
    split at e
    · cases e; exact hBlt
    · exact Nat.lt_of_lt_of_le (r.lt _ _ _ _ e) hb.size
  · intro c d C o1 s1 o2 s2 hc hd ec ed
    unfold Inj.add at ec ed
    rw [H.get_push] at hc hd
    split at ec
    · cases ec
      split at ed
      · omega
      · have := r.lt _ _ _ _ ed; omega
    · rename_i hcn
      rw [if_neg hcn] at hc
      split at ed
      · cases ed; have := r.lt _ _ _ _ ec; omega
      · rename_i hdn; rw [if_neg hdn] at hd; exact r.inj c d C o1 s1 o2 s2 hc hd ec ed
  · intro c hc
    rw [H.get_push] at hc ⊢
    by_cases hcn : c = h.n
    · subst hcn
      refine ⟨B, base, sz, by simp [Inj.add], ?_⟩
      rw [if_pos rfl]
      obtain ⟨B1, o1, s1, e1, hR⟩ := r'.blk b (by rw [hg]; intro h; cases h)
      rw [eb] at e1; cases e1
      rw [hg] at hR
      obtain ⟨x, t, lo, hi, h1, h2, h3, h4⟩ := hR
      exact ⟨x, t, lo, hi, h1, h2, h3.plain hp, h4⟩
    · rw [if_neg hcn] at hc ⊢
      obtain ⟨C, o', s', e, hR⟩ := r.blk c hc
      refine ⟨C, o', s', by simp [Inj.add, hcn, e], ?_⟩
      rw [hb.block _ (r.lt _ _ _ _ e)]
      exact hR.mono (Inj.le_add r.noId)
  · intro c r2 e2 hp2
    rw [H.get_push] at hp2
    by_cases hcn : c = h.n
    · rw [if_pos hcn] at hp2
      obtain ⟨_, l2, hl⟩ := hp2
      injection hl with h1 _
      omega
    · rw [if_neg hcn] at hp2
      obtain ⟨⟨z1, k1⟩, k2⟩ := (r.grow hb).pin c r2 e2 hp2
      exact ⟨⟨z1, Inj.le_add r.noId _ _ k1⟩, k2⟩

theorem row_val {ι ι' : Inj} {b c o n es : Nat} {v : Value} (e : ι' b = ι c) (hv : VR ι' (.osl b o n es) v) : VR ι (.osl c o n es) v := by
  obtain ⟨A, k, h1, h2, h3⟩ := hv
  exact ⟨A, k, h1, h2, h3.imp id fun ⟨B, base, sz, e1, h'⟩ => ⟨B, base, sz, by rw [← e, e1], h'⟩⟩

theorem row_valOk {ι ι' : Inj} {b c o n es : Nat} {ok : AV} {v : Value} (e : ι' b = ι c) (hok : ok.plain = true) (hv : VR ι' (.one .tup (.cons (.osl b o n es) (.cons ok (.leaf .nil)))) v) :
    VR ι (.one .tup (.cons (.osl c o n es) (.cons ok (.leaf .nil)))) v := by
  obtain ⟨cs, h1, x, xs, h2, h3, y, ys, h4, h5, h6⟩ := hv
  exact ⟨cs, h1, x, xs, h2, row_val e h3, y, ys, h4, plain_mono hok h5, h6⟩

/-- A call over the empty memory with plain arguments that tells a row of plain values tells it over every memory. -/
theorem Tri.forgetRow {f : FuncId} {args : List AV} {h' : H} {b o n es fl : Nat} {l : List AV} (T : Tri P f args H0 (.osl b o n es, h')) (ha : ∀ a ∈ args, a.plain = true)
    (hg : h'.get b = .cells fl l) (hfl : fl < 4) (hp : ∀ a ∈ l, a.plain = true) (h : H) : Tri P f args h (.osl h.n o n es, h.push (.cells fl l)) :=
  ⟨T.can, fun ι w vs hR hV => (T.run (fun _ => Option.none) w vs (Rel.empty w) (VL.plain ha hV)).mono fun e w' ⟨x, ι', he, hx, hE, hR'⟩ => by
    obtain ⟨B, base, sz, eb, _⟩ := hR'.blk b (by rw [show h'.get b = _ from hg]; intro h; cases h)
    have hB : w.heap.size ≤ B := by
      rcases hE.dom b B base sz eb with ⟨c, q, z, ec⟩ | hB
      · cases ec
      · exact hB
    obtain ⟨hE2, hR2⟩ := row_rel hR hE.below hR' eb hB hg hfl hp
    exact ⟨x, _, he, row_val (by rw [eb]; simp [Inj.add]) hx, hE2, hR2⟩⟩

end
end Go.AI
namespace Go.AI.Q
open Go Go.RowKit Go.AI
set_option linter.unusedVariables false
set_option linter.unusedSimpArgs false
set_option maxRecDepth 100000
noncomputable section
def fgC (c : AV → H → Option R) (a0 : AV) (h : H) : Option R := bc a0.plain (onSome (c a0 H0) fun r => bc r.1.plain (some (r.1, h)) none) none
theorem fgC_sound {P : Program} {f : FuncId} {c : AV → H → Option R} (hs : ∀ args h r, u1 c args h = some r → Tri P f args h r) : ∀ args h r, u1 (fgC c) args h = some r → Tri P f args h r := by
  intro args h r e
  obtain ⟨a0, rfl, e1⟩ := u1_some e
  obtain ⟨h0, e1⟩ := bif_some e1
  obtain ⟨r1, h1, e2⟩ := onSome_some e1
  obtain ⟨h2, e3⟩ := bif_some e2
  cases e3
  exact Tri.forget (hs [a0] H0 r1 h1) (fun a hm => by cases hm with | head => exact h0 | tail _ hm => cases hm) h2 h
theorem _root_.Go.AI.Tri.sl0 {P : Program} {f : FuncId} {args : List AV} {h h' : H} {b o : Nat} (T : Tri P f args h (.leaf (.sl b o 0 0), h')) : Tri P f args h (.osl b o 0 1, h') :=
  ⟨T.can, fun ι w vs hR hV => (T.run ι w vs hR hV).mono fun e w' ⟨x, ι', he, hx, hE, hR'⟩ => ⟨x, ι', he, (by obtain ⟨B, base, sz, e1, hl⟩ := hx; exact ⟨_, 0, hl, Nat.le_refl _, .inl rfl⟩), hE, hR'⟩⟩
/-- A row over the empty memory, laid anew. -/
def rwH (n : Nat) (h h' : H) (b o es : Nat) : Option R := match h'.get b with
  | .cells fl l => bc (Nat.ble fl 3) (bc (l.all AV.plain) (some (.osl h.n o n es, h.push (.cells fl l))) none) none
  | _ => none
def rwC (c : AV → H → Option R) (a0 : AV) (h : H) : Option R := bc a0.plain (match c a0 H0 with
  | some (.osl b o n es, h') => rwH n h h' b o es
  | some (.leaf (.sl b o 0 0), h') => rwH 0 h h' b o 1
  | _ => none) none
theorem rwH_sound {P : Program} {f : FuncId} {a0 : AV} {n b o es : Nat} {h h' : H} {r : R} (T : Tri P f [a0] H0 (.osl b o n es, h')) (hp : a0.plain = true) (e : rwH n h h' b o es = some r) : Tri P f [a0] h r := by
  unfold rwH at e
  split at e
  · rename_i fl l hg
    obtain ⟨h1, e2⟩ := bif_some e
    obtain ⟨h2, e3⟩ := bif_some e2
    cases e3
    have := Nat.le_of_ble_eq_true h1
    exact Tri.forgetRow T (fun a hm => by cases hm with | head => exact hp | tail _ hm => cases hm) hg (by omega) (fun a ha => List.all_eq_true.1 h2 a ha) h
  · cases e
theorem rwC_sound {P : Program} {f : FuncId} {c : AV → H → Option R} (hs : ∀ args h r, u1 c args h = some r → Tri P f args h r) : ∀ args h r, u1 (rwC c) args h = some r → Tri P f args h r := by
  intro args h r e
  obtain ⟨a0, rfl, e1⟩ := u1_some e
  obtain ⟨h0, e1⟩ := bif_some e1
  split at e1
  · rename_i b o n es h' hc
    exact rwH_sound (hs [a0] H0 _ hc) h0 e1
  · rename_i b o h' hc
    exact rwH_sound (Tri.sl0 (hs [a0] H0 _ hc)) h0 e1
  · cases e1
def c_spec_PairOf (F g : Nat) (a0 : AV) (h : H) : Option R := fgC (Go.AI.P0.c_spec_PairOf 20000 20) a0 h
theorem s_spec_PairOf (F g : Nat) : ∀ args h r, u1 (c_spec_PairOf F g) args h = some r → Tri Go.Proofs.Try.prog id_spec_PairOf args h r := fgC_sound (Go.AI.P0.s_spec_PairOf 20000 20)
def c_spec_l8Turns (F g : Nat) (a0 : AV) (h : H) : Option R := rwC (Go.AI.P0.c_spec_l8Turns 20000 20) a0 h
theorem s_spec_l8Turns (F g : Nat) : ∀ args h r, u1 (c_spec_l8Turns F g) args h = some r → Tri Go.Proofs.Try.prog id_spec_l8Turns args h r := rwC_sound (Go.AI.P0.s_spec_l8Turns 20000 20)
-- "loop.example/treenumbers/spec.l92Two"
noncomputable def c_spec_l92Two_j1 (F g : Nat) (kc9 : List AV → H → Option R) (vs : List AV) (h : H) : Option R := (fun x18 x19 x20 x21 x22 x23 => aArith iadd x23 (AV.int 3 (Int.ofNat 1)) h fun x24 h => kc9 [x18, x19, x20, x21, x22, x24] h) (hd vs) (hd (tl vs)) (hd (tl (tl vs))) (hd (tl (tl (tl vs)))) (hd (tl (tl (tl (tl vs))))) (hd (tl (tl (tl (tl (tl vs))))))
noncomputable def c_spec_l92Two_j2 (F g : Nat) (vs : List AV) (h : H) : Option R := (fun x33 x34 x35 => bindR (c_spec_l6Rd_pick F g x33 (AV.int 3 (Int.ofNat 24)) h) fun x36 h => aCmpI ieq x36 (AV.int 3 (Int.ofNat 0)) h fun x37 h => withBool x37 fun t38 => bc t38 (some (AV.one .tup (AV.cons x34 (AV.cons (AV.str [40, 40, 41, 40, 41, 41] 6) (AV.leaf .nil))), h)) (some (AV.one .tup (AV.cons x34 (AV.cons x35 (AV.leaf .nil))), h))) (hd vs) (hd (tl vs)) (hd (tl (tl vs)))
noncomputable def c_spec_l92Two_l3 (F g : Nat) : List AV → H → (List AV → H → Option R) → Option R := fun vs h kc9 => (fun x10 x11 x12 x13 x14 x15 => aCmpI ilt x15 x14 h fun x16 h => withBool x16 fun t17 => bc t17 (bindR (c_spec_l8Turns F g x13 h) fun x25 h => aLenK 1 x25 h fun x26 h => aCmpI (fun a b => ilt b a) x26 (AV.int 3 (Int.ofNat 0)) h fun x27 h => withBool x27 fun t28 => bc t28 (aLenK 1 x25 h fun x29 h => bindR (c_spec_l6Rd_pick F g x10 x29 h) fun x30 h => aIdxAddr 1 x25 x30 h fun x31 h => aLoad x31 h fun x32 h => (c_spec_l92Two_j1 F g kc9) [x10, x11, x12, x32, x14, x15] h) ((c_spec_l92Two_j1 F g kc9) [x10, x11, x12, x13, x14, x15] h)) (bindR (c_spec_l6Rd_pick F g x10 (AV.int 3 (Int.ofNat 4)) h) fun x39 h => aCmpI ieq x39 (AV.int 3 (Int.ofNat 0)) h fun x40 h => withBool x40 fun t41 => bc t41 (bindR (c_spec_l91Nodes F g x10 x11 h) fun x42 h => bindR (c_spec_PairOf F g x42 h) fun x43 h => aExtract x43 0 h fun x44 h => aExtract x43 1 h fun x45 h => (c_spec_l92Two_j2 F g) [x10, x12, x44] h) (aCmpI ieq x39 (AV.int 3 (Int.ofNat 1)) h fun x46 h => withBool x46 fun t47 => bc t47 (some (AV.one .tup (AV.cons x13 (AV.cons x12 (AV.leaf .nil))), h)) ((c_spec_l92Two_j2 F g) [x10, x12, x13] h)))) (hd vs) (hd (tl vs)) (hd (tl (tl vs))) (hd (tl (tl (tl vs)))) (hd (tl (tl (tl (tl vs))))) (hd (tl (tl (tl (tl (tl vs))))))
noncomputable def c_spec_l92Two (F g : Nat) (a0 : AV) (h : H) : Option R := bindR (c_spec_l6Open F g a0 h) fun x1 h => bindR (c_spec_l6Rd_pick F g x1 (AV.int 3 (Int.ofNat 5)) h) fun x2 h => aArith iadd (AV.int 3 (Int.ofNat 1)) x2 h fun x3 h => bindR (c_spec_l91Nodes F g x1 x3 h) fun x4 h => bindR (c_spec_PairOf F g x4 h) fun x5 h => aExtract x5 0 h fun x6 h => aExtract x5 1 h fun x7 h => bindR (c_spec_l6Rd_pick F g x1 (AV.int 3 (Int.ofNat 4)) h) fun x8 h => loopD F (c_spec_l92Two_l3 F g) [x1, x3, x6, x6, x8, (AV.int 3 (Int.ofNat 0))] h
noncomputable def A_spec_l92Two : An := (.two .o (.two .o (.two .o (.two .o (.two .o (.two .o (.two (.two .o (.two (.at_ [4, 5, 6, 8, 9, 10] (.two (.two .o (.two .o .o)) (.at_ [4, 5, 6, 8, 9, 10] (.two (.two .o (.two .o (.two .o .o))) .o) .o)) .o) .o)) (.at_ [4, 6, 8] (.two .o (.two (.two .o (.two .o (.two .o (.two (.two .o .o) .o)))) .o)) (.two (.two .o (.two (.two .o .o) .o)) (.two .o .o))))))))))
noncomputable def b_spec_l92Two : Code := bodyOf Go.Proofs.Try.f30
theorem k_spec_l92Two (F g : Nat) (a0 : AV) (h : H) : callD Go.Proofs.Try.prog (Env.add (Env.add (Env.add (Env.add (Env.add (fun _ _ _ => none : Env) 45 (u1 (c_spec_l6Open F g))) 51 (u2 (c_spec_l6Rd_pick F g))) 53 (u2 (c_spec_l91Nodes F g))) 52 (u1 (c_spec_PairOf F g))) 36 (u1 (c_spec_l8Turns F g))) 65 F b_spec_l92Two [2, 3] A_spec_l92Two [a0] h = c_spec_l92Two F g a0 h := by kernel_rfl
theorem s_spec_l92Two (F g : Nat) : ∀ args h r, u1 (c_spec_l92Two F g) args h = some r → Tri Go.Proofs.Try.prog 30 args h r := by
  intro args h r e; obtain ⟨a0, rfl, e1⟩ := u1_some e; exact fn_sound Go.Proofs.Try.func30 rfl rfl rfl Go.Proofs.Try.ntmps30 (Sound.add (Sound.add (Sound.add (Sound.add (Sound.add (Sound.none _) (s_spec_l6Open F g)) (s_spec_l6Rd_pick F g)) (s_spec_l91Nodes F g)) (s_spec_PairOf F g)) (s_spec_l8Turns F g)) ((k_spec_l92Two F g a0 h).trans e1)

end
end Go.AI.Q
namespace Go.AI.Q
open Go Go.RowKit Go.AI
set_option linter.unusedVariables false
set_option linter.unusedSimpArgs false
set_option maxRecDepth 100000
noncomputable section
/-- What may be drawn: no text, or a tree of pairs of at most nine nodes. -/
def PLx : List (List Nat) := [[], [40, 41], [40, 40, 41, 40, 41, 41], [40, 40, 41, 40, 40, 41, 40, 41, 41, 41], [40, 40, 40, 41, 40, 41, 41, 40, 41, 41], [40, 40, 41, 40, 40, 41, 40, 40, 41, 40, 41, 41, 41, 41], [40, 40, 41, 40, 40, 40, 41, 40, 41, 41, 40, 41, 41, 41], [40, 40, 40, 41, 40, 41, 41, 40, 40, 41, 40, 41, 41, 41], [40, 40, 40, 41, 40, 40, 41, 40, 41, 41, 41, 40, 41, 41], [40, 40, 40, 40, 41, 40, 41, 41, 40, 41, 41, 40, 41, 41], [40, 40, 41, 40, 40, 41, 40, 40, 41, 40, 40, 41, 40, 41, 41, 41, 41, 41], [40, 40, 41, 40, 40, 41, 40, 40, 40, 41, 40, 41, 41, 40, 41, 41, 41, 41], [40, 40, 41, 40, 40, 40, 41, 40, 41, 41, 40, 40, 41, 40, 41, 41, 41, 41], [40, 40, 41, 40, 40, 40, 41, 40, 40, 41, 40, 41, 41, 41, 40, 41, 41, 41], [40, 40, 41, 40, 40, 40, 40, 41, 40, 41, 41, 40, 41, 41, 40, 41, 41, 41], [40, 40, 40, 41, 40, 41, 41, 40, 40, 41, 40, 40, 41, 40, 41, 41, 41, 41], [40, 40, 40, 41, 40, 41, 41, 40, 40, 40, 41, 40, 41, 41, 40, 41, 41, 41], [40, 40, 40, 41, 40, 40, 41, 40, 41, 41, 41, 40, 40, 41, 40, 41, 41, 41], [40, 40, 40, 40, 41, 40, 41, 41, 40, 41, 41, 40, 40, 41, 40, 41, 41, 41], [40, 40, 40, 41, 40, 40, 41, 40, 40, 41, 40, 41, 41, 41, 41, 40, 41, 41], [40, 40, 40, 41, 40, 40, 40, 41, 40, 41, 41, 40, 41, 41, 41, 40, 41, 41], [40, 40, 40, 40, 41, 40, 41, 41, 40, 40, 41, 40, 41, 41, 41, 40, 41, 41], [40, 40, 40, 40, 41, 40, 40, 41, 40, 41, 41, 41, 40, 41, 41, 40, 41, 41], [40, 40, 40, 40, 40, 41, 40, 41, 41, 40, 41, 41, 40, 41, 41, 40, 41, 41]]
def memT (l : List Nat) : List (List Nat) → Bool
  | [] => false
  | x :: t => bc (eqL l x) true (memT l t)
theorem eqL_of : ∀ {x y : List Nat}, eqL x y = true → x = y
  | [], [], _ => rfl
  | [], _ :: _, h => by cases h
  | _ :: _, [], h => by cases h
  | a :: x, b :: y, h => by
    rw [eqL_cons] at h
    cases h1 : Nat.beq a b with
    | false => rw [h1] at h; cases h
    | true => rw [h1, bc_true] at h; rw [Nat.eq_of_beq_eq_true h1, eqL_of h]
theorem memT_mem {l : List Nat} : ∀ {L : List (List Nat)}, memT l L = true → l ∈ L
  | [], h => by cases h
  | x :: t, h => by
    have h : bc (eqL l x) true (memT l t) = true := h
    cases h1 : eqL l x with
    | true => rw [eqL_of h1]; exact List.mem_cons_self ..
    | false => rw [h1, bc_false] at h; exact List.mem_cons_of_mem _ (memT_mem h)
theorem bcb {c x : Bool} (h : bc c x false = true) : c = true ∧ x = true := by cases c; cases h; exact ⟨rfl, h⟩
theorem plx_len {s : List Nat} (h : s ∈ PLx) : s.length ≤ 18 := by
  have := List.all_eq_true.1 (show PLx.all (fun l => Nat.ble l.length 18) = true by kernel_rfl) s h
  exact Nat.le_of_ble_eq_true this
def pairsOk (l : List Nat) : Bool := bc (Nat.ble (lenL l) 10) (match Go.AI.P0.c_spec_PairOf 20000 20 (.str l (lenL l)) H0 with
  | some (.one .tup (.cons (.str p n) (.cons (.bool _) (.leaf .nil))), _) => bc (Nat.beq (lenL p) n) (memT p PLx) false
  | _ => false) true
theorem pairs_all : allR pairsOk 17 1 1 (fun l => 40 :: l) = true := by kernel_rfl
theorem pairs_bad {l : List Nat} {n : Nat} (hn : lenL l = n) (ht : isTree l = false) (h : H) : Go.AI.P0.c_spec_PairOf 20000 20 (.str l n) h = some (.one .tup (.cons (.str [] 0) (.cons (.bool false) (.leaf .nil))), h) := by
  delta Go.AI.P0.c_spec_PairOf Go.AI.P0.c_spec_TreeIn
  rw [Go.AI.T.spec_bad hn ht, bindR_some', Go.AI.T.aNot_b, Go.AI.T.bnot_f, withBool_bool, bc_true]
  try rfl
theorem pairs_run {F g : Nat} {l : List Nat} (hl : l.length ≤ 10) (h : H) : ∃ (s : List Nat) (ok : Bool), s ∈ PLx ∧ c_spec_PairOf F g (.str l l.length) h = some (.one .tup (.cons (.str s s.length) (.cons (.bool ok) (.leaf .nil))), h) := by
  have hL : lenL l = l.length := lenL_eq l
  cases ht : isTree l with
  | false =>
    refine ⟨[], false, List.mem_cons_self .., ?_⟩
    show bc true (onSome (Go.AI.P0.c_spec_PairOf 20000 20 (.str l l.length) H0) fun r => bc r.1.plain (some (r.1, h)) none) none = _
    rw [pairs_bad hL ht]; rfl
  | true =>
    have hm := isTree_mem ht
    obtain ⟨r, hr, he⟩ := List.mem_map.1 hm
    have h1 := allR_mem pairsOk 17 1 1 (fun l => 40 :: l) pairs_all r hr
    rw [show (40 :: r) = l from he] at h1
    unfold pairsOk at h1
    rw [hL, ble_true hl, bc_true] at h1
    show ∃ (s : List Nat) (ok : Bool), s ∈ PLx ∧ bc true (onSome (Go.AI.P0.c_spec_PairOf 20000 20 (.str l l.length) H0) fun r => bc r.1.plain (some (r.1, h)) none) none = _
    generalize Go.AI.P0.c_spec_PairOf 20000 20 (.str l l.length) H0 = x at h1 ⊢
    split at h1
    · rename_i p n ok _
      obtain ⟨hb, h2⟩ := bcb h1
      have hb := Nat.eq_of_beq_eq_true hb
      rw [lenL_eq] at hb
      subst hb
      exact ⟨p, ok, memT_mem h2, rfl⟩
    · cases h1
def strOk : AV → Bool
  | .str t m => bc (Nat.beq (lenL t) m) (memT t PLx) false
  | _ => false
def allS : Nat → List AV → Bool
  | 0, _ => true
  | _ + 1, [] => false
  | n + 1, a :: l => bc (strOk a) (allS n l) false
theorem allS_get : ∀ {n : Nat} {l : List AV}, allS n l = true → ∀ i, i < n → ∃ t, t ∈ PLx ∧ l[i]? = some (.str t t.length)
  | n + 1, a :: l, h, i, hi => by
    obtain ⟨h1, h2⟩ := bcb (show bc (strOk a) (allS n l) false = true from h)
    cases i with
    | zero =>
      unfold strOk at h1
      split at h1
      · obtain ⟨h3, h4⟩ := bcb h1
        have h3 := Nat.eq_of_beq_eq_true h3
        rw [lenL_eq] at h3
        subst h3
        exact ⟨_, memT_mem h4, rfl⟩
      · cases h1
    | succ i => exact allS_get h2 i (by omega)
  | _ + 1, [], h, _, _ => by cases h
/-- The trees that are one turn away: a row of texts that may be drawn. -/
def rowOk (r : Option R) : Bool := match r with
  | some (.osl b o n es, h') => match h'.get b with
    | .cells _ l => bc (Nat.beq o 0) (bc (Nat.beq es 1) (bc (Nat.ble n 100) (allS n l) false) false) false
    | _ => false
  | _ => false
def turnsOk (s : List Nat) : Bool := rowOk (rwC (Go.AI.P0.c_spec_l8Turns 20000 20) (.str s (lenL s)) H0)
theorem turns_all : PLx.all turnsOk = true := by kernel_rfl
theorem rwH_at {n b o es : Nat} {h h' : H} {v : AV} {h2 : H} (e : rwH n H0 h' b o es = some (v, h2)) : ∃ fl l, v = .osl 0 o n es ∧ h2 = H0.push (.cells fl l) ∧ rwH n h h' b o es = some (.osl h.n o n es, h.push (.cells fl l)) := by
  unfold rwH at e ⊢
  split at e
  · rename_i fl l hg
    obtain ⟨h1, e2⟩ := bif_some e
    obtain ⟨h3, e3⟩ := bif_some e2
    cases e3
    refine ⟨fl, l, rfl, rfl, ?_⟩
    rw [h1, bc_true, h3, bc_true]
  · cases e
theorem rwC_at {c : AV → H → Option R} {a0 : AV} {h : H} {v : AV} {h2 : H} (e : rwC c a0 H0 = some (v, h2)) : ∃ n o es fl l, v = .osl 0 o n es ∧ h2 = H0.push (.cells fl l) ∧ rwC c a0 h = some (.osl h.n o n es, h.push (.cells fl l)) := by
  unfold rwC at e ⊢
  obtain ⟨h0, e1⟩ := bif_some e
  rw [h0, bc_true]
  split at e1
  · rename_i b o n es h' hc
    obtain ⟨fl, l, g1, g2, g3⟩ := rwH_at (h := h) e1
    exact ⟨n, o, es, fl, l, g1, g2, g3⟩
  · rename_i b o h' hc
    obtain ⟨fl, l, g1, g2, g3⟩ := rwH_at (h := h) e1
    exact ⟨0, o, 1, fl, l, g1, g2, g3⟩
  · cases e1
theorem turns_run {F g : Nat} {s : List Nat} (hs : s ∈ PLx) (h : H) : ∃ n fl l, n ≤ 100 ∧ (∀ i, i < n → ∃ t, t ∈ PLx ∧ l[i]? = some (.str t t.length)) ∧ c_spec_l8Turns F g (.str s s.length) h = some (.osl h.n 0 n 1, h.push (.cells fl l)) := by
  have h1 := List.all_eq_true.1 turns_all s hs
  unfold turnsOk at h1
  rw [lenL_eq] at h1
  show ∃ n fl l, _ ∧ _ ∧ rwC (Go.AI.P0.c_spec_l8Turns 20000 20) (.str s s.length) h = _
  cases e : rwC (Go.AI.P0.c_spec_l8Turns 20000 20) (.str s s.length) H0 with
  | none => rw [e] at h1; cases h1
  | some r =>
    obtain ⟨v, h2⟩ := r
    obtain ⟨n, o, es, fl, l, rfl, rfl, e2⟩ := rwC_at (h := h) e
    rw [e] at h1
    have g1 : bc (Nat.beq o 0) (bc (Nat.beq es 1) (bc (Nat.ble n 100) (allS n l) false) false) false = true := h1
    obtain ⟨k1, g2⟩ := bcb g1
    obtain ⟨k2, g3⟩ := bcb g2
    obtain ⟨k3, g4⟩ := bcb g3
    have k1 := Nat.eq_of_beq_eq_true k1
    have k2 := Nat.eq_of_beq_eq_true k2
    rw [k1, k2] at e2
    exact ⟨n, fl, l, Nat.le_of_ble_eq_true k3, allS_get g4, e2⟩
def pair (s t : List Nat) : AV := .one .tup (.cons (.str s s.length) (.cons (.str t t.length) (.leaf .nil)))
section
variable {F g m Q p : Nat} {b : AV} {L : List AV} {h : H}
theorem two_j2 (r : Rdr b m L Q p h) (hp : p < 900000) {s t : List Nat} (hs : s ∈ PLx) (ht : t ∈ PLx) :
    ∃ s' t' h', s' ∈ PLx ∧ t' ∈ PLx ∧ c_spec_l92Two_j2 F g [.ptr Q 0, .str s s.length, .str t t.length] h = some (pair s' t', h') ∧ 1 ≤ h'.lo := by
  obtain ⟨v, h2, hv, e2, r2, _, _⟩ := r.pick (F := F) (g := g) (n := 24) (by omega) (by omega)
  delta c_spec_l92Two_j2
  dsimp only [hd_cons, tl_cons]
  rw [show AV.int 3 (Int.ofNat 24) = nI 24 from rfl, show AV.int 3 (Int.ofNat 0) = nI 0 from rfl, e2, bindR_some', eqlN, withBool_bool]
  cases hz : Nat.beq v 0 with
  | true => exact ⟨s, [40, 40, 41, 40, 41, 41], h2, hs, memT_mem (by kernel_rfl), rfl, r2.lo⟩
  | false => exact ⟨s, t, h2, hs, ht, rfl, r2.lo⟩
theorem two_out (r : Rdr b m L Q p h) (hF : 10000 < F) (hp : p < 60000) {n : Nat} (hn : n ≤ 5) {s t : List Nat} (hs : s ∈ PLx) (ht : t ∈ PLx) :
    ∃ s' t' h', s' ∈ PLx ∧ t' ∈ PLx ∧ (bindR (c_spec_l6Rd_pick F g (.ptr Q 0) (nI 4) h) fun x39 h => aCmpI ieq x39 (nI 0) h fun x40 h => withBool x40 fun t41 => bc t41 (bindR (c_spec_l91Nodes F g (.ptr Q 0) (nI n) h) fun x42 h => bindR (c_spec_PairOf F g x42 h) fun x43 h => aExtract x43 0 h fun x44 h => aExtract x43 1 h fun x45 h => (c_spec_l92Two_j2 F g) [.ptr Q 0, .str s s.length, x44] h) (aCmpI ieq x39 (nI 1) h fun x46 h => withBool x46 fun t47 => bc t47 (some (AV.one .tup (AV.cons (.str t t.length) (AV.cons (.str s s.length) (AV.leaf .nil))), h)) ((c_spec_l92Two_j2 F g) [.ptr Q 0, .str s s.length, .str t t.length] h))) = some (pair s' t', h') ∧ 1 ≤ h'.lo := by
  obtain ⟨v, h2, hv, e2, r2, _, _⟩ := r.pick (F := F) (g := g) (n := 4) (by omega) (by omega)
  rw [e2, bindR_some', eqlN, withBool_bool]
  cases hz : Nat.beq v 0 with
  | true =>
    obtain ⟨l, p3, h3, g1, g2, g3, r3⟩ := nodes_ok (F := F) (g := g) (n := n) r2 hF (by omega) (by omega)
    obtain ⟨u, ok, hu, ep⟩ := pairs_run (F := F) (g := g) (l := l) (by omega) h3
    obtain ⟨s', t', h', k1, k2, k3, k4⟩ := two_j2 (F := F) (g := g) r3 (by omega) hs hu
    refine ⟨s', t', h', k1, k2, ?_, k4⟩
    rw [bc_true, g3, bindR_some', ep, bindR_some', aExtract_0, aExtract_1]
    exact k3
  | false =>
    rw [bc_false, eqlN, withBool_bool]
    cases hz : Nat.beq v 1 with
    | true => exact ⟨t, s, h2, ht, hs, rfl, r2.lo⟩
    | false =>
      obtain ⟨s', t', h', k1, k2, k3, k4⟩ := two_j2 (F := F) (g := g) r2 (by omega) hs ht
      exact ⟨s', t', h', k1, k2, k3, k4⟩
theorem two_loop (hF : 10000 < F) {n v : Nat} (hn : n ≤ 5) (hv : v < 4) {s : List Nat} (hs : s ∈ PLx) : ∀ (N i p : Nat) (t : List Nat) (h : H), Rdr b m L Q p h → p < 50000 + i → i ≤ v → v - i < N → t ∈ PLx →
    ∃ s' t' h', s' ∈ PLx ∧ t' ∈ PLx ∧ loopD N (c_spec_l92Two_l3 F g) [.ptr Q 0, nI n, .str s s.length, .str t t.length, nI v, nI i] h = some (pair s' t', h') ∧ 1 ≤ h'.lo
  | 0, _, _, _, _, _, _, _, h0, _ => by omega
  | N + 1, i, p, t, h, r, hp, hi, hN, ht => by
    rw [loopD_succ]
    delta c_spec_l92Two_l3
    dsimp only [hd_cons, tl_cons]
    rw [lssN, withBool_bool]
    by_cases hiv : i < v
    · rw [ble_true (show Nat.succ i ≤ v from hiv), bc_true]
      obtain ⟨c, fl, l, hc, hl, e1⟩ := turns_run (F := F) (g := g) ht h
      have hq := r.lt
      have hq0 := r.q0
      have r1 : Rdr b m L Q p (h.push (.cells fl l)) := r.later (get_push_lt (by omega)) (get_push_lt hq) (Nat.le_succ _) r.lo
      rw [e1, bindR_some', show ∀ k : AV → H → Option R, aLenK 1 (.osl h.n 0 c 1) (h.push (.cells fl l)) k = k (nI c) (h.push (.cells fl l)) from fun k => rfl, show AV.int 3 (Int.ofNat 0) = nI 0 from rfl, gtrN, withBool_bool]
      have go : ∀ (p' : Nat) (u : List Nat) (h' : H), Rdr b m L Q p' h' → p' < 50000 + (i + 1) → u ∈ PLx → ∃ s' t' h2, s' ∈ PLx ∧ t' ∈ PLx ∧ c_spec_l92Two_j1 F g (loopD N (c_spec_l92Two_l3 F g)) [.ptr Q 0, nI n, .str s s.length, .str u u.length, nI v, nI i] h' = some (pair s' t', h2) ∧ 1 ≤ h2.lo := fun p' u h' r' hp' hu => by
        obtain ⟨s', t', h2, k1, k2, k3, k4⟩ := two_loop hF hn hv hs N (i + 1) p' u h' r' hp' (by omega) (by omega) hu
        refine ⟨s', t', h2, k1, k2, ?_, k4⟩
        delta c_spec_l92Two_j1
        dsimp only [hd_cons, tl_cons]
        rw [show AV.int 3 (Int.ofNat 1) = nI 1 from rfl, addN (by omega)]
        exact k3
      by_cases hc0 : 0 < c
      · rw [ble_true (show Nat.succ 0 ≤ c from hc0), bc_true]
        obtain ⟨x, h2, hx, e2, r2, n2, f2⟩ := r1.pick (F := F) (g := g) (n := c) (by omega) (by omega)
        have hxc : x < c := by omega
        obtain ⟨u, hu, hlu⟩ := hl x hxc
        obtain ⟨s', t', h3, k1, k2, k3, k4⟩ := go (p + 1) u h2 r2 (by omega) hu
        refine ⟨s', t', h3, k1, k2, ?_, k4⟩
        rw [show ∀ k : AV → H → Option R, aLenK 1 (.osl h.n 0 c 1) (h.push (.cells fl l)) k = k (nI c) (h.push (.cells fl l)) from fun k => rfl, e2, bindR_some', idxOsl hxc, Nat.zero_add, Nat.mul_one]
        rw [load_at (fl := fl) (l := l) (a := .str u u.length) (by rw [f2 h.n (by omega)]; exact get_push_eq rfl) (by rw [nthO_eq]; exact hlu)]
        exact k3
      · rw [ble_false (show c < Nat.succ 0 by omega), bc_false]
        exact go p t _ r1 (by omega) ht
    · rw [ble_false (show v < Nat.succ i by omega), bc_false]
      exact two_out r hF (by omega) hn hs ht
end
theorem two_ok {F g : Nat} {a : AV} {c : Nat} {L : List AV} {h : H} (hF : 10000 < F) (ha : (a = .leaf .nils ∧ c = 0) ∨ a = .osl 0 0 c 1) (h0 : 0 < c → ∃ fl, h.get 0 = .cells fl L) (hb : ∀ i, i < c → ∃ v, L[i]? = some (.int 4 (.ofNat v)) ∧ v < 256) (hn : 1 ≤ h.n) (hlo : 1 ≤ h.lo) :
    ∃ s t h', s ∈ PLx ∧ t ∈ PLx ∧ c_spec_l92Two F g a h = some (pair s t, h') ∧ 1 ≤ h'.lo := by
  obtain ⟨b, m, h1, e1, r1, _⟩ := open_ok (F := F) (g := g) ha h0 hb hn hlo
  obtain ⟨v, h2, hv, e2, r2, _, _⟩ := r1.pick (F := F) (g := g) (n := 5) (by omega) (by omega)
  obtain ⟨l, p3, h3, g1, g2, g3, r3⟩ := nodes_ok (F := F) (g := g) (n := 1 + v) r2 hF (by omega) (by omega)
  obtain ⟨s, ok, hs, ep⟩ := pairs_run (F := F) (g := g) (l := l) (by omega) h3
  obtain ⟨k, h4, hk, e4, r4, _, _⟩ := r3.pick (F := F) (g := g) (n := 4) (by omega) (by omega)
  obtain ⟨s', t', h', k1, k2, k3, k4⟩ := two_loop (F := F) (g := g) hF (n := 1 + v) (v := k) (by omega) (by omega) hs F 0 _ s h4 r4 (by omega) (by omega) (by omega) hs
  refine ⟨s', t', h', k1, k2, ?_, k4⟩
  delta c_spec_l92Two
  rw [e1, bindR_some', show AV.int 3 (Int.ofNat 5) = nI 5 from rfl, e2, bindR_some', show AV.int 3 (Int.ofNat 1) = nI 1 from rfl, addN (by omega), g3, bindR_some', ep, bindR_some', aExtract_0, aExtract_1, show AV.int 3 (Int.ofNat 4) = nI 4 from rfl, e4, bindR_some']
  exact k3
end
end Go.AI.Q
