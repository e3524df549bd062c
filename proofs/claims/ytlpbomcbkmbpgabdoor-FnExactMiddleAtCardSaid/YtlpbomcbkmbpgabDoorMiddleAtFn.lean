/- The functions that the law FnExactMiddleAt reaches, as the evaluator reads them. -/
import Derived.KernelRfl
import Derived.Test.YtlpbomcbkmbpgabDoorRaw
import Derived.Test.YtlpbomcbkmbpgabDoorLd
import Derived.Test.YtlpbomcbkmbpgabDoorProg
namespace Go.AI.T
open Go Go.RowKit Go.AI
set_option linter.unusedVariables false
set_option linter.unusedSimpArgs false
set_option maxRecDepth 100000
noncomputable section
-- "loop.example/treenumbers/spec.l6In"
noncomputable def c_spec_l6In_j1 (F g : Nat) (vs : List AV) (h : H) : Option R := (fun x2 x3 => aPick x2 x3 (AV.bool false) h fun x4 h => some (x4, h)) (hd vs) (hd (tl vs))
noncomputable def c_spec_l6In (F g : Nat) (a0 a1 a2 : AV) (h : H) : Option R := aCmpI (fun a b => ile b a) a0 a1 h fun x1 h => guardB true x1 (aCmpI ile a0 a2 h fun x5 h => (c_spec_l6In_j1 F g) [x1, x5] h) ((c_spec_l6In_j1 F g) [x1, (AV.one .tup (AV.leaf .nil))] h)
noncomputable def A_spec_l6In : An := (.two .o (.two (.at_ [10, 13] .o .o) .o))
noncomputable def b_spec_l6In : Code := bodyOf Go.Proofs.Tryd.f12
theorem k_spec_l6In (F g : Nat) (a0 a1 a2 : AV) (h : H) : callD Go.Proofs.Tryd.prog (fun _ _ _ => none : Env) 15 F b_spec_l6In [6] A_spec_l6In [a0, a1, a2] h = c_spec_l6In F g a0 a1 a2 h := by kernel_rfl
theorem s_spec_l6In (F g : Nat) : ∀ args h r, u3 (c_spec_l6In F g) args h = some r → Tri Go.Proofs.Tryd.prog 12 args h r := by
  intro args h r e; obtain ⟨a0, a1, a2, rfl, e1⟩ := u3_some e; exact fn_sound Go.Proofs.Tryd.func12 rfl rfl rfl Go.Proofs.Tryd.ntmps12 (Sound.none _) ((k_spec_l6In F g a0 a1 a2 h).trans e1)

-- "loop.example/treenumbers/spec.l1Node"
noncomputable def c_spec_l1Node_j1 (F g : Nat) (vs : List AV) (h : H) : Option R := (fun x2 x3 => aPick x2 x3 (AV.bool false) h fun x4 h => some (x4, h)) (hd vs) (hd (tl vs))
noncomputable def c_spec_l1Node (F g : Nat) (a0 a1 : AV) (h : H) : Option R := bindR (c_spec_TreeIn F g a0 h) fun x1 h => guardB true x1 (aLenK 0 a0 h fun x5 h => aQuo x5 (AV.int 3 (Int.ofNat 2)) h fun x6 h => aArith isub x6 (AV.int 3 (Int.ofNat 1)) h fun x7 h => bindR (c_spec_l6In F g a1 (AV.int 3 (Int.ofNat 0)) x7 h) fun x8 h => (c_spec_l1Node_j1 F g) [x1, x8] h) ((c_spec_l1Node_j1 F g) [x1, (AV.one .tup (AV.leaf .nil))] h)
noncomputable def A_spec_l1Node : An := (.two .o (.two (.at_ [7, 13] .o .o) .o))
noncomputable def b_spec_l1Node : Code := bodyOf Go.Proofs.Tryd.f6
theorem k_spec_l1Node (F g : Nat) (a0 a1 : AV) (h : H) : callD Go.Proofs.Tryd.prog (Env.add (Env.add (fun _ _ _ => none : Env) 11 (u1 (c_spec_TreeIn F g))) 12 (u3 (c_spec_l6In F g))) 15 F b_spec_l1Node [4] A_spec_l1Node [a0, a1] h = c_spec_l1Node F g a0 a1 h := by kernel_rfl
theorem s_spec_l1Node (F g : Nat) : ∀ args h r, u2 (c_spec_l1Node F g) args h = some r → Tri Go.Proofs.Tryd.prog 6 args h r := by
  intro args h r e; obtain ⟨a0, a1, rfl, e1⟩ := u2_some e; exact fn_sound Go.Proofs.Tryd.func6 rfl rfl rfl Go.Proofs.Tryd.ntmps6 (Sound.add (Sound.add (Sound.none _) (s_spec_TreeIn F g)) (s_spec_l6In F g)) ((k_spec_l1Node F g a0 a1 h).trans e1)

-- "loop.example/treenumbers/spec.l1Depths"
noncomputable def c_spec_l1Depths_j1 (F g : Nat) (kc2 : List AV → H → Option R) (vs : List AV) (h : H) : Option R := (fun x10 x11 x12 x13 => aArith iadd x13 (AV.int 3 (Int.ofNat 1)) h fun x14 h => kc2 [x10, x11, x12, x14] h) (hd vs) (hd (tl vs)) (hd (tl (tl vs))) (hd (tl (tl (tl vs))))
noncomputable def c_spec_l1Depths_l2 (F g : Nat) : List AV → H → (List AV → H → Option R) → Option R := fun vs h kc2 => (fun x3 x4 x5 x6 => aLenK 0 x3 h fun x7 h => aCmpI ilt x6 x7 h fun x8 h => withBool x8 fun t9 => bc t9 (aIdxStr x3 x6 h fun x15 h => aCmpI ieq x15 (AV.int 4 (Int.ofNat 40)) h fun x16 h => withBool x16 fun t17 => bc t17 (aBuildSlice 1 1 [(0, 1, x5)] h fun x18 h => aAppend 1 8 x4 x18 h fun x19 h => aArith iadd x5 (AV.int 3 (Int.ofNat 1)) h fun x20 h => (c_spec_l1Depths_j1 F g kc2) [x3, x19, x20, x6] h) (aArith isub x5 (AV.int 3 (Int.ofNat 1)) h fun x21 h => (c_spec_l1Depths_j1 F g kc2) [x3, x4, x21, x6] h)) (some (x4, h))) (hd vs) (hd (tl vs)) (hd (tl (tl vs))) (hd (tl (tl (tl vs))))
noncomputable def c_spec_l1Depths (F g : Nat) (a0 : AV) (h : H) : Option R := aBuildSlice 0 1 [] h fun x1 h => loopD F (c_spec_l1Depths_l2 F g) [a0, x1, (AV.int 3 (Int.ofNat 0)), (AV.int 3 (Int.ofNat 0))] h
noncomputable def A_spec_l1Depths : An := (.two .o (.two .o (.two .o (.two (.two .o (.two (.at_ [0, 3, 4, 5] (.two (.two .o (.two .o .o)) (.at_ [0, 3, 4, 5] (.two (.two .o (.two (.two .o .o) .o)) .o) .o)) .o) .o)) (.two .o .o)))))
noncomputable def b_spec_l1Depths : Code := bodyOf Go.Proofs.Tryd.f21
theorem k_spec_l1Depths (F g : Nat) (a0 : AV) (h : H) : callD Go.Proofs.Tryd.prog (fun _ _ _ => none : Env) 26 F b_spec_l1Depths [2] A_spec_l1Depths [a0] h = c_spec_l1Depths F g a0 h := by kernel_rfl
theorem s_spec_l1Depths (F g : Nat) : ∀ args h r, u1 (c_spec_l1Depths F g) args h = some r → Tri Go.Proofs.Tryd.prog 21 args h r := by
  intro args h r e; obtain ⟨a0, rfl, e1⟩ := u1_some e; exact fn_sound Go.Proofs.Tryd.func21 rfl rfl rfl Go.Proofs.Tryd.ntmps21 (Sound.none _) ((k_spec_l1Depths F g a0 h).trans e1)

-- "loop.example/treenumbers/spec.l1Up"
noncomputable def c_spec_l1Up_j1 (F g : Nat) (kc3 : List AV → H → Option R) (kc11 : List AV → H → Option R) (vs : List AV) (h : H) : Option R := (fun x17 x18 x19 x20 x21 x22 => aPick x21 x22 (AV.bool false) h fun x23 _ => withBool x23 fun t24 => bc t24 (aArith isub x20 (AV.int 3 (Int.ofNat 1)) h fun x25 h => kc11 [x17, x18, x19, x25] h) (aBuildSlice 1 1 [(0, 1, x20)] h fun x26 h => aAppend 1 8 x18 x26 h fun x27 h => aArith iadd x19 (AV.int 3 (Int.ofNat 1)) h fun x28 h => kc3 [x17, x27, x28] h)) (hd vs) (hd (tl vs)) (hd (tl (tl vs))) (hd (tl (tl (tl vs)))) (hd (tl (tl (tl (tl vs))))) (hd (tl (tl (tl (tl (tl vs))))))
noncomputable def c_spec_l1Up_l2 (F g : Nat) (kc3 : List AV → H → Option R) : List AV → H → (List AV → H → Option R) → Option R := fun vs h kc11 => (fun x12 x13 x14 x15 => aCmpI (fun a b => ile b a) x15 (AV.int 3 (Int.ofNat 0)) h fun x16 _ => guardB true x16 (aIdxAddr 1 x12 x15 h fun x29 _ => aLoad x29 h fun x30 _ => aIdxAddr 1 x12 x14 h fun x31 _ => aLoad x31 h fun x32 _ => aCmpI (fun a b => ile b a) x30 x32 h fun x33 _ => (c_spec_l1Up_j1 F g kc3 kc11) [x12, x13, x14, x15, x16, x33] h) ((c_spec_l1Up_j1 F g kc3 kc11) [x12, x13, x14, x15, x16, (AV.one .tup (AV.leaf .nil))] h)) (hd vs) (hd (tl vs)) (hd (tl (tl vs))) (hd (tl (tl (tl vs))))
noncomputable def c_spec_l1Up_l3 (F g : Nat) : List AV → H → (List AV → H → Option R) → Option R := fun vs h kc3 => (fun x4 x5 x6 => aLenK 1 x4 h fun x7 h => aCmpI ilt x6 x7 h fun x8 h => withBool x8 fun t9 => bc t9 (aArith isub x6 (AV.int 3 (Int.ofNat 1)) h fun x10 h => loopD F (c_spec_l1Up_l2 F g kc3) [x4, x5, x6, x10] h) (some (x5, h))) (hd vs) (hd (tl vs)) (hd (tl (tl vs)))
noncomputable def c_spec_l1Up (F g : Nat) (a0 : AV) (h : H) : Option R := bindR (c_spec_l1Depths F g a0 h) fun x1 h => aBuildSlice 0 1 [] h fun x2 h => loopD F (c_spec_l1Up_l3 F g) [x1, x2, (AV.int 3 (Int.ofNat 0))] h
noncomputable def A_spec_l1Up : An := (.two .o (.two .o (.two .o (.two (.two .o (.two (.at_ [3, 4, 5] (.two (.two .o (.two .o .o)) (.two (.two (.two .o (.two (.two (.at_ [3, 4, 5, 6] (.two (.two (.at_ [3, 4, 5, 6, 20, 29] .o .o) (.two .o .o)) (.two .o .o)) .o) .o) .o)) .o) .o)) .o) .o)) (.two .o .o)))))
noncomputable def b_spec_l1Up : Code := bodyOf Go.Proofs.Tryd.f13
theorem k_spec_l1Up (F g : Nat) (a0 : AV) (h : H) : callD Go.Proofs.Tryd.prog (Env.add (fun _ _ _ => none : Env) 21 (u1 (c_spec_l1Depths F g))) 38 F b_spec_l1Up [2] A_spec_l1Up [a0] h = c_spec_l1Up F g a0 h := by kernel_rfl
theorem s_spec_l1Up (F g : Nat) : ∀ args h r, u1 (c_spec_l1Up F g) args h = some r → Tri Go.Proofs.Tryd.prog 13 args h r := by
  intro args h r e; obtain ⟨a0, rfl, e1⟩ := u1_some e; exact fn_sound Go.Proofs.Tryd.func13 rfl rfl rfl Go.Proofs.Tryd.ntmps13 (Sound.add (Sound.none _) (s_spec_l1Depths F g)) ((k_spec_l1Up F g a0 h).trans e1)

-- "loop.example/treenumbers/spec.l1Opens"
noncomputable def c_spec_l1Opens_j1 (F g : Nat) (kc2 : List AV → H → Option R) (vs : List AV) (h : H) : Option R := (fun x9 x10 x11 => aArith iadd x11 (AV.int 3 (Int.ofNat 1)) h fun x12 h => kc2 [x9, x10, x12] h) (hd vs) (hd (tl vs)) (hd (tl (tl vs)))
noncomputable def c_spec_l1Opens_l2 (F g : Nat) : List AV → H → (List AV → H → Option R) → Option R := fun vs h kc2 => (fun x3 x4 x5 => aLenK 0 x3 h fun x6 h => aCmpI ilt x5 x6 h fun x7 h => withBool x7 fun t8 => bc t8 (aIdxStr x3 x5 h fun x13 h => aCmpI ieq x13 (AV.int 4 (Int.ofNat 40)) h fun x14 h => withBool x14 fun t15 => bc t15 (aBuildSlice 1 1 [(0, 1, x5)] h fun x16 h => aAppend 1 8 x4 x16 h fun x17 h => (c_spec_l1Opens_j1 F g kc2) [x3, x17, x5] h) ((c_spec_l1Opens_j1 F g kc2) [x3, x4, x5] h)) (some (x4, h))) (hd vs) (hd (tl vs)) (hd (tl (tl vs)))
noncomputable def c_spec_l1Opens (F g : Nat) (a0 : AV) (h : H) : Option R := aBuildSlice 0 1 [] h fun x1 h => loopD F (c_spec_l1Opens_l2 F g) [a0, x1, (AV.int 3 (Int.ofNat 0))] h
noncomputable def A_spec_l1Opens : An := (.two .o (.two .o (.two (.two .o (.two (.at_ [0, 3, 4] (.two (.two .o (.two .o .o)) (.at_ [0, 3, 4] (.two (.two .o (.two .o .o)) .o) .o)) .o) .o)) (.two .o .o))))
noncomputable def b_spec_l1Opens : Code := bodyOf Go.Proofs.Tryd.f22
theorem k_spec_l1Opens (F g : Nat) (a0 : AV) (h : H) : callD Go.Proofs.Tryd.prog (fun _ _ _ => none : Env) 21 F b_spec_l1Opens [2] A_spec_l1Opens [a0] h = c_spec_l1Opens F g a0 h := by kernel_rfl
theorem s_spec_l1Opens (F g : Nat) : ∀ args h r, u1 (c_spec_l1Opens F g) args h = some r → Tri Go.Proofs.Tryd.prog 22 args h r := by
  intro args h r e; obtain ⟨a0, rfl, e1⟩ := u1_some e; exact fn_sound Go.Proofs.Tryd.func22 rfl rfl rfl Go.Proofs.Tryd.ntmps22 (Sound.none _) ((k_spec_l1Opens F g a0 h).trans e1)

-- "loop.example/treenumbers/spec.l1End"
noncomputable def c_spec_l1End_j1 (F g : Nat) (kc1 : List AV → H → Option R) (vs : List AV) (h : H) : Option R := (fun x8 x9 x10 => aCmpI ieq x9 (AV.int 3 (Int.ofNat 0)) h fun x11 h => withBool x11 fun t12 => bc t12 (aArith iadd x10 (AV.int 3 (Int.ofNat 1)) h fun x13 h => some (x13, h)) (aCmpI ilt x9 (AV.int 3 (Int.ofNat 0)) h fun x14 h => withBool x14 fun t15 => bc t15 (some ((AV.int 3 (Int.negSucc 0)), h)) (aArith iadd x10 (AV.int 3 (Int.ofNat 1)) h fun x16 h => kc1 [x8, x9, x16] h))) (hd vs) (hd (tl vs)) (hd (tl (tl vs)))
noncomputable def c_spec_l1End_l2 (F g : Nat) : List AV → H → (List AV → H → Option R) → Option R := fun vs h kc1 => (fun x2 x3 x4 => aLenK 0 x2 h fun x5 h => aCmpI ilt x4 x5 h fun x6 h => withBool x6 fun t7 => bc t7 (aIdxStr x2 x4 h fun x17 h => aCmpI ieq x17 (AV.int 4 (Int.ofNat 40)) h fun x18 h => withBool x18 fun t19 => bc t19 (aArith iadd x3 (AV.int 3 (Int.ofNat 1)) h fun x20 h => (c_spec_l1End_j1 F g kc1) [x2, x20, x4] h) (aCmpI ieq x17 (AV.int 4 (Int.ofNat 41)) h fun x21 h => withBool x21 fun t22 => bc t22 (aArith isub x3 (AV.int 3 (Int.ofNat 1)) h fun x23 h => (c_spec_l1End_j1 F g kc1) [x2, x23, x4] h) (some ((AV.int 3 (Int.negSucc 0)), h)))) (some ((AV.int 3 (Int.negSucc 0)), h))) (hd vs) (hd (tl vs)) (hd (tl (tl vs)))
noncomputable def c_spec_l1End (F g : Nat) (a0 a1 : AV) (h : H) : Option R := loopD F (c_spec_l1End_l2 F g) [a0, (AV.int 3 (Int.ofNat 0)), a1] h
noncomputable def A_spec_l1End : An := (.two .o (.two .o (.two (.two .o (.two (.at_ [0, 5, 6] (.two (.two .o (.two .o .o)) (.two (.two (.at_ [0, 5, 6] (.two .o (.two (.two .o (.two .o (.two .o (.two .o (.two .o .o))))) .o)) (.two (.two .o (.two (.two .o .o) .o)) (.two .o (.two (.two .o .o) .o)))) .o) .o)) .o) .o)) (.two .o .o))))
noncomputable def b_spec_l1End : Code := bodyOf Go.Proofs.Tryd.f20
theorem k_spec_l1End (F g : Nat) (a0 a1 : AV) (h : H) : callD Go.Proofs.Tryd.prog (fun _ _ _ => none : Env) 31 F b_spec_l1End [4] A_spec_l1End [a0, a1] h = c_spec_l1End F g a0 a1 h := by kernel_rfl
theorem s_spec_l1End (F g : Nat) : ∀ args h r, u2 (c_spec_l1End F g) args h = some r → Tri Go.Proofs.Tryd.prog 20 args h r := by
  intro args h r e; obtain ⟨a0, a1, rfl, e1⟩ := u2_some e; exact fn_sound Go.Proofs.Tryd.func20 rfl rfl rfl Go.Proofs.Tryd.ntmps20 (Sound.none _) ((k_spec_l1End F g a0 a1 h).trans e1)

-- "loop.example/treenumbers/spec.l1Part"
noncomputable def c_spec_l1Part (F g : Nat) (a0 a1 : AV) (h : H) : Option R := bindR (c_spec_l1Opens F g a0 h) fun x1 h => aIdxAddr 1 x1 a1 h fun x2 h => aLoad x2 h fun x3 h => bindR (c_spec_l1End F g a0 x3 h) fun x4 h => aSliceS a0 (some x3) (some x4) none h fun x5 h => some (x5, h)
noncomputable def A_spec_l1Part : An := (.two .o (.two .o (.two .o .o)))
noncomputable def b_spec_l1Part : Code := bodyOf Go.Proofs.Tryd.f14
theorem k_spec_l1Part (F g : Nat) (a0 a1 : AV) (h : H) : callD Go.Proofs.Tryd.prog (Env.add (Env.add (fun _ _ _ => none : Env) 22 (u1 (c_spec_l1Opens F g))) 20 (u2 (c_spec_l1End F g))) 17 F b_spec_l1Part [4] A_spec_l1Part [a0, a1] h = c_spec_l1Part F g a0 a1 h := by kernel_rfl
theorem s_spec_l1Part (F g : Nat) : ∀ args h r, u2 (c_spec_l1Part F g) args h = some r → Tri Go.Proofs.Tryd.prog 14 args h r := by
  intro args h r e; obtain ⟨a0, a1, rfl, e1⟩ := u2_some e; exact fn_sound Go.Proofs.Tryd.func14 rfl rfl rfl Go.Proofs.Tryd.ntmps14 (Sound.add (Sound.add (Sound.none _) (s_spec_l1Opens F g)) (s_spec_l1End F g)) ((k_spec_l1Part F g a0 a1 h).trans e1)

-- "loop.example/treenumbers/spec.l1Of"
noncomputable def c_spec_l1Of_l1 (F g : Nat) : List AV → H → (List AV → H → Option R) → Option R := fun vs h kc1 => (fun x2 x3 x4 => aLenK 1 x2 h fun x5 h => aCmpI ilt x4 x5 h fun x6 h => withBool x6 fun t7 => bc t7 (aIdxAddr 1 x2 x4 h fun x8 h => aLoad x8 h fun x9 h => aSAdd x3 x9 h fun x10 h => aArith iadd x4 (AV.int 3 (Int.ofNat 1)) h fun x11 h => kc1 [x2, x10, x11] h) (aSAdd x3 (AV.str [41] 1) h fun x12 h => some (x12, h))) (hd vs) (hd (tl vs)) (hd (tl (tl vs)))
noncomputable def c_spec_l1Of (F g : Nat) (a0 : AV) (h : H) : Option R := loopD F (c_spec_l1Of_l1 F g) [a0, (AV.str [40] 1), (AV.int 3 (Int.ofNat 0))] h
noncomputable def A_spec_l1Of : An := (.two .o (.two .o (.two (.two .o (.two (.at_ [0, 3, 4] (.two (.two .o (.two .o .o)) (.two (.two .o .o) .o)) .o) .o)) (.two .o .o))))
noncomputable def b_spec_l1Of : Code := bodyOf Go.Proofs.Tryd.f15
theorem k_spec_l1Of (F g : Nat) (a0 : AV) (h : H) : callD Go.Proofs.Tryd.prog (fun _ _ _ => none : Env) 19 F b_spec_l1Of [2] A_spec_l1Of [a0] h = c_spec_l1Of F g a0 h := by kernel_rfl
theorem s_spec_l1Of (F g : Nat) : ∀ args h r, u1 (c_spec_l1Of F g) args h = some r → Tri Go.Proofs.Tryd.prog 15 args h r := by
  intro args h r e; obtain ⟨a0, rfl, e1⟩ := u1_some e; exact fn_sound Go.Proofs.Tryd.func15 rfl rfl rfl Go.Proofs.Tryd.ntmps15 (Sound.none _) ((k_spec_l1Of F g a0 h).trans e1)

-- "loop.example/treenumbers/spec.l6mAt"
noncomputable def c_spec_l6mAt_j1 (F g : Nat) (kc9 : List AV → H → Option R) (vs : List AV) (h : H) : Option R := (fun x19 x20 x21 x22 x23 x24 => aArith iadd x24 (AV.int 3 (Int.ofNat 1)) h fun x25 h => kc9 [x19, x20, x21, x22, x23, x25] h) (hd vs) (hd (tl vs)) (hd (tl (tl vs))) (hd (tl (tl (tl vs)))) (hd (tl (tl (tl (tl vs))))) (hd (tl (tl (tl (tl (tl vs))))))
noncomputable def c_spec_l6mAt_j2 (F g : Nat) (kc9 : List AV → H → Option R) (vs : List AV) (h : H) : Option R := (fun x29 x30 x31 x32 x33 x34 x35 x36 => aPick x35 x36 (AV.bool false) h fun x37 h => withBool x37 fun t38 => bc t38 (bindR (c_spec_l1Part F g x29 x34 h) fun x39 h => aBuildSlice 1 1 [(0, 1, x39)] h fun x40 h => aAppend 1 16 x33 x40 h fun x41 h => (c_spec_l6mAt_j1 F g kc9) [x29, x30, x31, x32, x41, x34] h) ((c_spec_l6mAt_j1 F g kc9) [x29, x30, x31, x32, x33, x34] h)) (hd vs) (hd (tl vs)) (hd (tl (tl vs))) (hd (tl (tl (tl vs)))) (hd (tl (tl (tl (tl vs))))) (hd (tl (tl (tl (tl (tl vs)))))) (hd (tl (tl (tl (tl (tl (tl vs))))))) (hd (tl (tl (tl (tl (tl (tl (tl vs))))))))
noncomputable def c_spec_l6mAt_l3 (F g : Nat) : List AV → H → (List AV → H → Option R) → Option R := fun vs h kc9 => (fun x10 x11 x12 x13 x14 x15 => aLenK 1 x13 h fun x16 h => aCmpI ilt x15 x16 h fun x17 h => withBool x17 fun t18 => bc t18 (aIdxAddr 1 x13 x15 h fun x26 h => aLoad x26 h fun x27 h => aCmpI ieq x27 x11 h fun x28 h => guardB true x28 (aCmpI (fun a b => bnot (ieq a b)) x15 x12 h fun x42 h => (c_spec_l6mAt_j2 F g kc9) [x10, x11, x12, x13, x14, x15, x28, x42] h) ((c_spec_l6mAt_j2 F g kc9) [x10, x11, x12, x13, x14, x15, x28, (AV.one .tup (AV.leaf .nil))] h)) (bindR (c_spec_l1Of F g x14 h) fun x43 h => some (x43, h))) (hd vs) (hd (tl vs)) (hd (tl (tl vs))) (hd (tl (tl (tl vs)))) (hd (tl (tl (tl (tl vs))))) (hd (tl (tl (tl (tl (tl vs))))))
noncomputable def c_spec_l6mAt_j4 (F g : Nat) (vs : List AV) (h : H) : Option R := (fun x3 x4 x5 x6 x7 => aArith iadd x4 (AV.int 3 (Int.ofNat 1)) h fun x8 h => loopD F (c_spec_l6mAt_l3 F g) [x3, x4, x5, x6, x7, x8] h) (hd vs) (hd (tl vs)) (hd (tl (tl vs))) (hd (tl (tl (tl vs)))) (hd (tl (tl (tl (tl vs)))))
noncomputable def c_spec_l6mAt_j5 (F g : Nat) (self : AV → AV → AV → H → Option R) (vs : List AV) (h : H) : Option R := (fun x47 x48 x49 x50 x51 x52 x53 => aPick x52 x53 (AV.bool false) h fun x54 h => withBool x54 fun t55 => bc t55 (aIdxAddr 1 x50 x48 h fun x56 h => aLoad x56 h fun x57 h => bindR (self x47 x57 x48 h) fun x58 h => aBuildSlice 1 1 [(0, 1, x58)] h fun x59 h => aAppend 1 16 x51 x59 h fun x60 h => (c_spec_l6mAt_j4 F g) [x47, x48, x49, x50, x60] h) ((c_spec_l6mAt_j4 F g) [x47, x48, x49, x50, x51] h)) (hd vs) (hd (tl vs)) (hd (tl (tl vs))) (hd (tl (tl (tl vs)))) (hd (tl (tl (tl (tl vs))))) (hd (tl (tl (tl (tl (tl vs)))))) (hd (tl (tl (tl (tl (tl (tl vs)))))))
noncomputable def c_spec_l6mAt (F g : Nat) : AV → AV → AV → H → Option R := Nat.rec (motive := fun _ => AV → AV → AV → H → Option R) (fun _ _ _ _ => none) (fun g self a0 a1 a2 h => bindR (c_spec_l1Up F g a0 h) fun x1 h => aBuildSlice 0 1 [] h fun x2 h => aIdxAddr 1 x1 a1 h fun x44 h => aLoad x44 h fun x45 h => aCmpI (fun a b => ile b a) x45 (AV.int 3 (Int.ofNat 0)) h fun x46 h => guardB true x46 (aIdxAddr 1 x1 a1 h fun x61 h => aLoad x61 h fun x62 h => aCmpI (fun a b => bnot (ieq a b)) x62 a2 h fun x63 h => (c_spec_l6mAt_j5 F g self) [a0, a1, a2, x1, x2, x46, x63] h) ((c_spec_l6mAt_j5 F g self) [a0, a1, a2, x1, x2, x46, (AV.one .tup (AV.leaf .nil))] h)) g
noncomputable def A_spec_l6mAt : An := (.two .o (.two .o (.two .o (.at_ [0, 1, 2, 7, 8] (.two (.at_ [0, 1, 2, 7, 8, 18, 24] .o .o) (.two .o .o)) (.two (.two .o (.two (.at_ [0, 1, 2, 7, 8, 9] (.two (.two .o (.two .o .o)) (.at_ [0, 1, 2, 7, 8, 9] (.two (.two (.at_ [0, 1, 2, 7, 8, 9, 50, 53] .o .o) (.two .o .o)) .o) .o)) .o) .o)) (.two .o .o))))))
noncomputable def b_spec_l6mAt : Code := bodyOf Go.Proofs.Tryd.f7
theorem k_spec_l6mAt (F g : Nat) (a0 a1 a2 : AV) (h : H) : callD Go.Proofs.Tryd.prog (Env.add (Env.add (Env.add (Env.add (fun _ _ _ => none : Env) 13 (u1 (c_spec_l1Up F g))) 14 (u2 (c_spec_l1Part F g))) 15 (u1 (c_spec_l1Of F g))) 7 (u3 (c_spec_l6mAt F g))) 63 F b_spec_l6mAt [6] A_spec_l6mAt [a0, a1, a2] h = c_spec_l6mAt F (g + 1) a0 a1 a2 h := by kernel_rfl
theorem s_spec_l6mAt (F g : Nat) : ∀ args h r, u3 (c_spec_l6mAt F g) args h = some r → Tri Go.Proofs.Tryd.prog 7 args h r := by
  induction g with
  | zero => intro args h r e; obtain ⟨a0, a1, a2, rfl, e⟩ := u3_some e; cases e
  | succ g ih => intro args h r e; obtain ⟨a0, a1, a2, rfl, e1⟩ := u3_some e; exact fn_sound Go.Proofs.Tryd.func7 rfl rfl rfl Go.Proofs.Tryd.ntmps7 (Sound.add (Sound.add (Sound.add (Sound.add (Sound.none _) (s_spec_l1Up F g)) (s_spec_l1Part F g)) (s_spec_l1Of F g)) ih) ((k_spec_l6mAt F g a0 a1 a2 h).trans e1)

-- "loop.example/treenumbers/spec.MiddleAt"
noncomputable def c_spec_MiddleAt (F g : Nat) (a0 a1 : AV) (h : H) : Option R := bindR (c_spec_l1Node F g a0 a1 h) fun x1 h => aNot x1 h fun x2 h => withBool x2 fun t3 => bc t3 (some (AV.one .tup (AV.cons (AV.str [] 0) (AV.cons (AV.bool false) (AV.leaf .nil))), h)) (bindR (c_spec_l6mAt F g a0 a1 (AV.int 3 (Int.negSucc 0)) h) fun x4 h => some (AV.one .tup (AV.cons x4 (AV.cons (AV.bool true) (AV.leaf .nil))), h))
noncomputable def A_spec_MiddleAt : An := (.two .o (.two (.two .o (.two (.two .o .o) .o)) (.two .o .o)))
noncomputable def b_spec_MiddleAt : Code := bodyOf Go.Proofs.Tryd.f4
theorem k_spec_MiddleAt (F g : Nat) (a0 a1 : AV) (h : H) : callD Go.Proofs.Tryd.prog (Env.add (Env.add (fun _ _ _ => none : Env) 6 (u2 (c_spec_l1Node F g))) 7 (u3 (c_spec_l6mAt F g))) 13 F b_spec_MiddleAt [4, 5] A_spec_MiddleAt [a0, a1] h = c_spec_MiddleAt F g a0 a1 h := by kernel_rfl
theorem s_spec_MiddleAt (F g : Nat) : ∀ args h r, u2 (c_spec_MiddleAt F g) args h = some r → Tri Go.Proofs.Tryd.prog 4 args h r := by
  intro args h r e; obtain ⟨a0, a1, rfl, e1⟩ := u2_some e; exact fn_sound Go.Proofs.Tryd.func4 rfl rfl rfl Go.Proofs.Tryd.ntmps4 (Sound.add (Sound.add (Sound.none _) (s_spec_l1Node F g)) (s_spec_l6mAt F g)) ((k_spec_MiddleAt F g a0 a1 h).trans e1)

-- "(*loop.example/treenumbers/impl.node).nodes"
noncomputable def c_impl_node_nodes_l1 (F g : Nat) (self : AV → H → Option R) : List AV → H → (List AV → H → Option R) → Option R := fun vs h kc6 => (fun x7 x8 x9 x10 => aCmpI ilt x10 x9 h fun x11 h => withBool x11 fun t12 => bc t12 (aIdxAddr 1 x8 x10 h fun x13 h => aLoad x13 h fun x14 h => bindR (self x14 h) fun x15 h => aAppend 1 8 x7 x15 h fun x16 h => aArith iadd x10 (AV.int 3 (Int.ofNat 1)) h fun x17 h => kc6 [x16, x8, x9, x17] h) (some (x7, h))) (hd vs) (hd (tl vs)) (hd (tl (tl vs))) (hd (tl (tl (tl vs))))
noncomputable def c_impl_node_nodes (F g : Nat) : AV → H → Option R := Nat.rec (motive := fun _ => AV → H → Option R) (fun _ _ => none) (fun g self a0 h => aBuildSlice 1 1 [(0, 1, a0)] h fun x1 h => aNilCheck a0 h fun x2 h => aField 2 x2 h fun x3 h => aLoad x3 h fun x4 h => aLenK 1 x4 h fun x5 h => loopD F (c_impl_node_nodes_l1 F g self) [x1, x4, x5, (AV.int 3 (Int.ofNat 0))] h) g
noncomputable def A_impl_node_nodes : An := (.two .o (.two .o (.two (.two .o (.two (.at_ [3, 11, 12, 13] (.two .o (.two (.two .o .o) (.two (.two (.two .o .o) .o) .o))) .o) .o)) (.two .o .o))))
noncomputable def b_impl_node_nodes : Code := bodyOf Go.Proofs.Tryd.f17
theorem k_impl_node_nodes (F g : Nat) (a0 : AV) (h : H) : callD Go.Proofs.Tryd.prog (Env.add (fun _ _ _ => none : Env) 17 (u1 (c_impl_node_nodes F g))) 23 F b_impl_node_nodes [2] A_impl_node_nodes [a0] h = c_impl_node_nodes F (g + 1) a0 h := by kernel_rfl
theorem s_impl_node_nodes (F g : Nat) : ∀ args h r, u1 (c_impl_node_nodes F g) args h = some r → Tri Go.Proofs.Tryd.prog 17 args h r := by
  induction g with
  | zero => intro args h r e; obtain ⟨a0, rfl, e⟩ := u1_some e; cases e
  | succ g ih => intro args h r e; obtain ⟨a0, rfl, e1⟩ := u1_some e; exact fn_sound Go.Proofs.Tryd.func17 rfl rfl rfl Go.Proofs.Tryd.ntmps17 (Sound.add (Sound.none _) ih) ((k_impl_node_nodes F g a0 h).trans e1)

-- "loop.example/treenumbers/impl.nodeIn"
noncomputable def c_impl_nodeIn_j1 (F g : Nat) (vs : List AV) (h : H) : Option R := (fun x10 x11 x12 x13 => aPick x12 (AV.bool true) x13 h fun x14 h => withBool x14 fun t15 => bc t15 (aBuild [(AV.int 3 (Int.ofNat 0))] [(0, 1, x10)] h fun x16 h => aMkIface 43 x16 h fun x17 h => some (AV.one .tup (AV.cons (AV.leaf .nilp) (AV.cons x17 (AV.leaf .nil))), h)) (aIdxAddr 1 x11 x10 h fun x18 h => aLoad x18 h fun x19 h => some (AV.one .tup (AV.cons x19 (AV.cons (AV.leaf .nili) (AV.leaf .nil))), h))) (hd vs) (hd (tl vs)) (hd (tl (tl vs))) (hd (tl (tl (tl vs))))
noncomputable def c_impl_nodeIn (F g : Nat) (a0 a1 : AV) (h : H) : Option R := bindR (c_impl_readTree F g a0 h) fun x1 h => aExtract x1 0 h fun x2 h => aExtract x1 1 h fun x3 h => aNot x3 h fun x4 h => withBool x4 fun t5 => bc t5 (aBuild [(AV.int 3 (Int.ofNat 0))] [(0, 1, a1)] h fun x6 h => aMkIface 43 x6 h fun x7 h => some (AV.one .tup (AV.cons (AV.leaf .nilp) (AV.cons x7 (AV.leaf .nil))), h)) (bindR (c_impl_node_nodes F g x2 h) fun x8 h => aCmpI ilt a1 (AV.int 3 (Int.ofNat 0)) h fun x9 h => guardB false x9 (aLenK 1 x8 h fun x20 h => aCmpI (fun a b => ile b a) a1 x20 h fun x21 h => (c_impl_nodeIn_j1 F g) [a1, x8, x9, x21] h) ((c_impl_nodeIn_j1 F g) [a1, x8, x9, (AV.one .tup (AV.leaf .nil))] h))
noncomputable def A_impl_nodeIn : An := (.two .o (.two .o (.two (.two .o (.two (.two .o .o) .o)) (.two .o (.two (.two (.at_ [1, 8, 23, 27] .o .o) (.two (.two .o .o) .o)) (.two .o .o))))))
noncomputable def b_impl_nodeIn : Code := bodyOf Go.Proofs.Tryd.f8
theorem k_impl_nodeIn (F g : Nat) (a0 a1 : AV) (h : H) : callD Go.Proofs.Tryd.prog (Env.add (Env.add (fun _ _ _ => none : Env) 16 (u1 (c_impl_readTree F g))) 17 (u1 (c_impl_node_nodes F g))) 36 F b_impl_nodeIn [4, 5] A_impl_nodeIn [a0, a1] h = c_impl_nodeIn F g a0 a1 h := by kernel_rfl
theorem s_impl_nodeIn (F g : Nat) : ∀ args h r, u2 (c_impl_nodeIn F g) args h = some r → Tri Go.Proofs.Tryd.prog 8 args h r := by
  intro args h r e; obtain ⟨a0, a1, rfl, e1⟩ := u2_some e; exact fn_sound Go.Proofs.Tryd.func8 rfl rfl rfl Go.Proofs.Tryd.ntmps8 (Sound.add (Sound.add (Sound.none _) (s_impl_readTree F g)) (s_impl_node_nodes F g)) ((k_impl_nodeIn F g a0 a1 h).trans e1)

-- "(*loop.example/treenumbers/impl.node).text"
noncomputable def c_impl_node_text_l1 (F g : Nat) (self : AV → H → Option R) : List AV → H → (List AV → H → Option R) → Option R := fun vs h kc5 => (fun x6 x7 x8 x9 => aCmpI ilt x9 x8 h fun x10 h => withBool x10 fun t11 => bc t11 (aIdxAddr 1 x7 x9 h fun x12 h => aLoad x12 h fun x13 h => bindR (self x13 h) fun x14 h => aSAdd x6 x14 h fun x15 h => aArith iadd x9 (AV.int 3 (Int.ofNat 1)) h fun x16 h => kc5 [x15, x7, x8, x16] h) (aSAdd x6 (AV.str [41] 1) h fun x17 h => some (x17, h))) (hd vs) (hd (tl vs)) (hd (tl (tl vs))) (hd (tl (tl (tl vs))))
noncomputable def c_impl_node_text (F g : Nat) : AV → H → Option R := Nat.rec (motive := fun _ => AV → H → Option R) (fun _ _ => none) (fun g self a0 h => aNilCheck a0 h fun x1 h => aField 2 x1 h fun x2 h => aLoad x2 h fun x3 h => aLenK 1 x3 h fun x4 h => loopD F (c_impl_node_text_l1 F g self) [(AV.str [40] 1), x3, x4, (AV.int 3 (Int.ofNat 0))] h) g
noncomputable def A_impl_node_text : An := (.two .o (.two .o (.two (.two .o (.two (.at_ [3, 9, 10, 11] (.two .o (.two (.two .o .o) (.two (.two (.two .o .o) .o) .o))) .o) .o)) (.two .o .o))))
noncomputable def b_impl_node_text : Code := bodyOf Go.Proofs.Tryd.f19
theorem k_impl_node_text (F g : Nat) (a0 : AV) (h : H) : callD Go.Proofs.Tryd.prog (Env.add (fun _ _ _ => none : Env) 19 (u1 (c_impl_node_text F g))) 22 F b_impl_node_text [2] A_impl_node_text [a0] h = c_impl_node_text F (g + 1) a0 h := by kernel_rfl
theorem s_impl_node_text (F g : Nat) : ∀ args h r, u1 (c_impl_node_text F g) args h = some r → Tri Go.Proofs.Tryd.prog 19 args h r := by
  induction g with
  | zero => intro args h r e; obtain ⟨a0, rfl, e⟩ := u1_some e; cases e
  | succ g ih => intro args h r e; obtain ⟨a0, rfl, e1⟩ := u1_some e; exact fn_sound Go.Proofs.Tryd.func19 rfl rfl rfl Go.Proofs.Tryd.ntmps19 (Sound.add (Sound.none _) ih) ((k_impl_node_text F g a0 h).trans e1)

-- "(*loop.example/treenumbers/impl.node).textAt"
noncomputable def c_impl_node_textAt_j1 (F g : Nat) (kc8 : List AV → H → Option R) (vs : List AV) (h : H) : Option R := (fun x16 x17 x18 x19 x20 => aArith iadd x20 (AV.int 3 (Int.ofNat 1)) h fun x21 h => kc8 [x16, x17, x18, x19, x21] h) (hd vs) (hd (tl vs)) (hd (tl (tl vs))) (hd (tl (tl (tl vs)))) (hd (tl (tl (tl (tl vs)))))
noncomputable def c_impl_node_textAt_l2 (F g : Nat) : List AV → H → (List AV → H → Option R) → Option R := fun vs h kc8 => (fun x9 x10 x11 x12 x13 => aCmpI ilt x13 x12 h fun x14 h => withBool x14 fun t15 => bc t15 (aIdxAddr 1 x11 x13 h fun x22 h => aLoad x22 h fun x23 h => aEq true 1 x23 x9 h fun x24 h => withBool x24 fun t25 => bc t25 (bindR (c_impl_node_text F g x23 h) fun x26 h => aSAdd x10 x26 h fun x27 h => (c_impl_node_textAt_j1 F g kc8) [x9, x27, x11, x12, x13] h) ((c_impl_node_textAt_j1 F g kc8) [x9, x10, x11, x12, x13] h)) (aSAdd x10 (AV.str [41] 1) h fun x28 h => some (x28, h))) (hd vs) (hd (tl vs)) (hd (tl (tl vs))) (hd (tl (tl (tl vs)))) (hd (tl (tl (tl (tl vs)))))
noncomputable def c_impl_node_textAt_j3 (F g : Nat) (vs : List AV) (h : H) : Option R := (fun x1 x2 x3 => aNilCheck x1 h fun x4 h => aField 2 x4 h fun x5 h => aLoad x5 h fun x6 h => aLenK 1 x6 h fun x7 h => loopD F (c_impl_node_textAt_l2 F g) [x2, x3, x6, x7, (AV.int 3 (Int.ofNat 0))] h) (hd vs) (hd (tl vs)) (hd (tl (tl vs)))
noncomputable def c_impl_node_textAt (F g : Nat) : AV → AV → H → Option R := Nat.rec (motive := fun _ => AV → AV → H → Option R) (fun _ _ _ => none) (fun g self a0 a1 h => aNilCheck a0 h fun x29 h => aField 1 x29 h fun x30 h => aLoad x30 h fun x31 h => aEq true 1 x31 (AV.leaf .nilp) h fun x32 h => withBool x32 fun t33 => bc t33 (aNilCheck a0 h fun x34 h => aField 1 x34 h fun x35 h => aLoad x35 h fun x36 h => bindR (self x36 a0 h) fun x37 h => aSAdd (AV.str [40] 1) x37 h fun x38 h => (c_impl_node_textAt_j3 F g) [a0, a1, x38] h) ((c_impl_node_textAt_j3 F g) [a0, a1, (AV.str [40] 1)] h)) g
noncomputable def A_impl_node_textAt : An := (.two .o (.two .o (.at_ [0, 1, 5] (.two .o (.two .o .o)) (.two (.two .o (.two (.at_ [1, 5, 24, 25, 26] (.two .o (.two (.two .o .o) (.at_ [1, 5, 24, 25, 26] (.two (.two .o (.two .o (.two .o .o))) .o) .o))) .o) .o)) (.two .o .o)))))
noncomputable def b_impl_node_textAt : Code := bodyOf Go.Proofs.Tryd.f10
theorem k_impl_node_textAt (F g : Nat) (a0 a1 : AV) (h : H) : callD Go.Proofs.Tryd.prog (Env.add (Env.add (fun _ _ _ => none : Env) 19 (u1 (c_impl_node_text F g))) 10 (u2 (c_impl_node_textAt F g))) 40 F b_impl_node_textAt [4] A_impl_node_textAt [a0, a1] h = c_impl_node_textAt F (g + 1) a0 a1 h := by kernel_rfl
theorem s_impl_node_textAt (F g : Nat) : ∀ args h r, u2 (c_impl_node_textAt F g) args h = some r → Tri Go.Proofs.Tryd.prog 10 args h r := by
  induction g with
  | zero => intro args h r e; obtain ⟨a0, a1, rfl, e⟩ := u2_some e; cases e
  | succ g ih => intro args h r e; obtain ⟨a0, a1, rfl, e1⟩ := u2_some e; exact fn_sound Go.Proofs.Tryd.func10 rfl rfl rfl Go.Proofs.Tryd.ntmps10 (Sound.add (Sound.add (Sound.none _) (s_impl_node_text F g)) ih) ((k_impl_node_textAt F g a0 a1 h).trans e1)

-- "loop.example/treenumbers/impl.MiddleAt"
noncomputable def c_impl_MiddleAt (F g : Nat) (a0 a1 : AV) (h : H) : Option R := bindR (c_impl_nodeIn F g a0 a1 h) fun x1 h => aExtract x1 0 h fun x2 h => aExtract x1 1 h fun x3 h => bindR (c_impl_isNoNode F g x3 h) fun x4 h => withBool x4 fun t5 => bc t5 (some (AV.one .tup (AV.cons (AV.str [] 0) (AV.cons (AV.bool false) (AV.leaf .nil))), h)) (bindR (c_impl_node_textAt F g x2 (AV.leaf .nilp) h) fun x6 h => some (AV.one .tup (AV.cons x6 (AV.cons (AV.bool true) (AV.leaf .nil))), h))
noncomputable def A_impl_MiddleAt : An := (.two .o (.two .o (.two (.two .o (.two (.two .o .o) .o)) (.two .o .o))))
noncomputable def b_impl_MiddleAt : Code := bodyOf Go.Proofs.Tryd.f5
theorem k_impl_MiddleAt (F g : Nat) (a0 a1 : AV) (h : H) : callD Go.Proofs.Tryd.prog (Env.add (Env.add (Env.add (fun _ _ _ => none : Env) 8 (u2 (c_impl_nodeIn F g))) 9 (u1 (c_impl_isNoNode F g))) 10 (u2 (c_impl_node_textAt F g))) 18 F b_impl_MiddleAt [4, 5] A_impl_MiddleAt [a0, a1] h = c_impl_MiddleAt F g a0 a1 h := by kernel_rfl
theorem s_impl_MiddleAt (F g : Nat) : ∀ args h r, u2 (c_impl_MiddleAt F g) args h = some r → Tri Go.Proofs.Tryd.prog 5 args h r := by
  intro args h r e; obtain ⟨a0, a1, rfl, e1⟩ := u2_some e; exact fn_sound Go.Proofs.Tryd.func5 rfl rfl rfl Go.Proofs.Tryd.ntmps5 (Sound.add (Sound.add (Sound.add (Sound.none _) (s_impl_nodeIn F g)) (s_impl_isNoNode F g)) (s_impl_node_textAt F g)) ((k_impl_MiddleAt F g a0 a1 h).trans e1)

-- "loop.example/treenumbers/laws.FnExactMiddleAt"
noncomputable def c_laws_FnExactMiddleAt_j1 (F g : Nat) (vs : List AV) (h : H) : Option R := (fun x11 x12 => aPick x11 (AV.bool true) x12 h fun x13 h => withBool x13 fun t14 => bc t14 (some ((AV.bool false), h)) (some ((AV.bool true), h))) (hd vs) (hd (tl vs))
noncomputable def c_laws_FnExactMiddleAt (F g : Nat) (a0 a1 : AV) (h : H) : Option R := aLenK 0 a0 h fun x1 h => aCmpI (fun a b => ilt b a) x1 (AV.int 3 (Int.ofNat 1048576)) h fun x2 h => withBool x2 fun t3 => bc t3 (some ((AV.bool true), h)) (bindR (c_spec_MiddleAt F g a0 a1 h) fun x4 h => aExtract x4 0 h fun x5 h => aExtract x4 1 h fun x6 h => bindR (c_impl_MiddleAt F g a0 a1 h) fun x7 h => aExtract x7 0 h fun x8 h => aExtract x7 1 h fun x9 h => aCmpS (fun a b => bnot (eqL a b)) x8 x5 h fun x10 h => guardB false x10 (aEq true 0 x9 x6 h fun x15 h => (c_laws_FnExactMiddleAt_j1 F g) [x10, x15] h) ((c_laws_FnExactMiddleAt_j1 F g) [x10, (AV.one .tup (AV.leaf .nil))] h))
noncomputable def A_laws_FnExactMiddleAt : An := (.two .o (.two (.two .o (.two (.two .o .o) .o)) (.two .o (.two .o (.two (.two (.at_ [27, 30] .o .o) (.two (.two .o .o) .o)) (.two .o .o))))))
noncomputable def b_laws_FnExactMiddleAt : Code := bodyOf Go.Proofs.Tryd.f3
theorem k_laws_FnExactMiddleAt (F g : Nat) (a0 a1 : AV) (h : H) : callD Go.Proofs.Tryd.prog (Env.add (Env.add (fun _ _ _ => none : Env) 4 (u2 (c_spec_MiddleAt F g))) 5 (u2 (c_impl_MiddleAt F g))) 32 F b_laws_FnExactMiddleAt [4] A_laws_FnExactMiddleAt [a0, a1] h = c_laws_FnExactMiddleAt F g a0 a1 h := by kernel_rfl
theorem s_laws_FnExactMiddleAt (F g : Nat) : ∀ args h r, u2 (c_laws_FnExactMiddleAt F g) args h = some r → Tri Go.Proofs.Tryd.prog 3 args h r := by
  intro args h r e; obtain ⟨a0, a1, rfl, e1⟩ := u2_some e; exact fn_sound Go.Proofs.Tryd.func3 rfl rfl rfl Go.Proofs.Tryd.ntmps3 (Sound.add (Sound.add (Sound.none _) (s_spec_MiddleAt F g)) (s_impl_MiddleAt F g)) ((k_laws_FnExactMiddleAt F g a0 a1 h).trans e1)

end
end Go.AI.T
