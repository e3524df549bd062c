/- The function that draws, and what it draws from every code; the table of the powers of ten stands beside the code. -/
import Derived.Test.YtelijoecjhgleaaGreatDoorRaw
import Derived.Test.YtelijoecjhgleaaGreatDoorProg
import Derived.Test.YtelijoecjhgleaaGreatDoorAi2
import Derived.KernelRfl
set_option linter.unusedVariables false
set_option linter.unusedSimpArgs false
set_option maxRecDepth 100000
namespace Go.AI
open Go Go.RowKit Go.AI
noncomputable section
noncomputable def c_spec_l6Open_j1 (F g:Nat) (vs:List AV) (h:H):Option R:=(fun x1=>aBuild [(AV.leaf .nils),(AV.int 3 (Int.ofNat 0))] [(0,1,x1)] h fun x2 h=>aBox x2 h fun x3 h=>some (x3,h)) (hd vs)
noncomputable def c_spec_l6Open (F g:Nat) (a0:AV) (h:H):Option R:=aLenK 1 a0 h fun x4 h=>aCmpI (fun a b=>ilt b a) x4 (AV.int 3 (Int.ofNat 2000)) h fun x5 h=>withBool x5 fun t6=>bc t6 (aSliceV 1 a0 none (some (AV.int 3 (Int.ofNat 2000))) none h fun x7 h=>(c_spec_l6Open_j1 F g) [x7] h) ((c_spec_l6Open_j1 F g) [a0] h)
noncomputable def A_spec_l6Open:An:=(.two .o (.at_ [0] (.two .o (.two .o .o)) (.two .o .o)))
noncomputable def b_spec_l6Open:Code:=bodyOf Go.Proofs.Tryz.f22
theorem k_spec_l6Open (F g:Nat) (a0:AV) (h:H):callD Go.Proofs.Tryz.prog (fun _ _ _=>none:Env) 11 F b_spec_l6Open [2] A_spec_l6Open [a0] h=c_spec_l6Open F g a0 h:=by kernel_rfl
noncomputable def c_spec_l6Rd_pick_j1 (F g:Nat) (vs:List AV) (h:H):Option R:=(fun x67 x68 x69 x70 x71=>aArith iadd x70 x71 h fun x72 _=>aArith imul x69 (AV.int 3 (Int.ofNat 29)) h fun x73 _=>aArith iadd x72 x73 h fun x74 _=>aNilCheck x67 h fun x75 _=>aField 0 x75 h fun x76 _=>aLoad x76 h fun x77 _=>aLenK 1 x77 h fun x78 _=>aQuo x69 x78 h fun x79 _=>aArith imul x79 (AV.int 3 (Int.ofNat 53)) h fun x80 _=>aArith iadd x74 x80 h fun x81 _=>aQuo x81 (AV.int 3 (Int.ofNat 64)) h fun x82 h=>aBits .xor x81 x82 h fun x83 h=>aRem x83 x68 h fun x84 h=>some (x84,h)) (hd vs) (hd (tl vs)) (hd (tl (tl vs))) (hd (tl (tl (tl vs)))) (hd (tl (tl (tl (tl vs)))))
noncomputable def c_spec_l6Rd_pick_j2 (F g:Nat) (vs:List AV) (h:H):Option R:=(fun x50 x51 x52 x53 x54=>aLoad x54 h fun x55 _=>aArith imul x52 (AV.int 3 (Int.ofNat 7)) h fun x56 _=>aArith iadd x56 (AV.int 3 (Int.ofNat 3)) h fun x57 _=>aNilCheck x50 h fun x58 _=>aField 0 x58 h fun x59 _=>aLoad x59 h fun x60 _=>aLenK 1 x60 h fun x61 _=>aRem x57 x61 h fun x62 _=>aIdxAddr 1 x55 x62 h fun x63 _=>aLoad x63 h fun x64 _=>aConvI 3 x64 h fun x65 _=>aArith imul x65 (AV.int 3 (Int.ofNat 1117)) h fun x66 _=>(c_spec_l6Rd_pick_j1 F g) [x50,x51,x52,x53,x66] h) (hd vs) (hd (tl vs)) (hd (tl (tl vs))) (hd (tl (tl (tl vs)))) (hd (tl (tl (tl (tl vs)))))
noncomputable def c_spec_l6Rd_pick_j3 (F g:Nat) (vs:List AV) (h:H):Option R:=(fun x35 x36 x37 x38=>aNilCheck x35 h fun x39 _=>aField 0 x39 h fun x40 _=>aLoad x40 h fun x41 _=>aLenK 1 x41 h fun x42 _=>aRem x37 x42 h fun x43 _=>aIdxAddr 1 x38 x43 h fun x44 _=>aLoad x44 h fun x45 _=>aConvI 3 x45 h fun x46 _=>aArith imul x46 (AV.int 3 (Int.ofNat 131)) h fun x47 _=>aNilCheck x35 h fun x48 _=>aField 0 x48 h fun x49 _=>(c_spec_l6Rd_pick_j2 F g) [x35,x36,x37,x47,x49] h) (hd vs) (hd (tl vs)) (hd (tl (tl vs))) (hd (tl (tl (tl vs))))
noncomputable def c_spec_l6Rd_pick_j4 (F g:Nat) (vs:List AV) (h:H):Option R:=(fun x9 x10 x11 x12=>aPick x11 (AV.bool true) x12 h fun x13 h=>withBool x13 fun t14=>bc t14 (some ((AV.int 3 (Int.ofNat 0)),h)) (aNilCheck x9 h fun x15 h=>aField 1 x15 h fun x16 h=>aLoad x16 h fun x17 h=>aArith isub x17 (AV.int 3 (Int.ofNat 1)) h fun x18 h=>aNilCheck x9 h fun x19 h=>aField 0 x19 h fun x20 h=>aLoad x20 h fun x21 h=>aLenK 1 x21 h fun x22 h=>aCmpI ilt x18 x22 h fun x23 h=>withBool x23 fun t24=>bc t24 (aNilCheck x9 h fun x25 h=>aField 0 x25 h fun x26 h=>aLoad x26 h fun x27 h=>aIdxAddr 1 x27 x18 h fun x28 h=>aLoad x28 h fun x29 h=>aConvI 3 x29 h fun x30 h=>aRem x30 x10 h fun x31 h=>some (x31,h)) (aNilCheck x9 h fun x32 _=>aField 0 x32 h fun x33 _=>aLoad x33 h fun x34 _=>(c_spec_l6Rd_pick_j3 F g) [x9,x10,x18,x34] h))) (hd vs) (hd (tl vs)) (hd (tl (tl vs))) (hd (tl (tl (tl vs))))
noncomputable def c_spec_l6Rd_pick (F g:Nat) (a0 a1:AV) (h:H):Option R:=aNilCheck a0 h fun x1 h=>aField 1 x1 h fun x2 h=>aLoad x2 h fun x3 h=>aArith iadd x3 (AV.int 3 (Int.ofNat 1)) h fun x4 h=>aNilCheck a0 h fun x5 h=>aField 1 x5 h fun x6 h=>aStore x6 x4 h fun x7 h=>aCmpI ilt a1 (AV.int 3 (Int.ofNat 1)) h fun x8 h=>guardB false x8 (aNilCheck a0 h fun x85 h=>aField 0 x85 h fun x86 h=>aLoad x86 h fun x87 h=>aLenK 1 x87 h fun x88 h=>aCmpI ieq x88 (AV.int 3 (Int.ofNat 0)) h fun x89 h=>(c_spec_l6Rd_pick_j4 F g) [a0,a1,x8,x89] h) ((c_spec_l6Rd_pick_j4 F g) [a0,a1,x8,(AV.one .tup (AV.leaf .nil))] h)
noncomputable def A_spec_l6Rd_pick:An:=(.two .o (.two .o (.two (.two (.at_ [0,1,17,23] .o .o) (.two (.two .o .o) .o)) (.two .o (.two (.two .o (.two (.two .o .o) .o)) (.two (.skip (.skip (.skip (.skip (.cut [0,1,5,50] (.skip (.skip (.skip (.skip (.skip (.skip (.skip (.skip (.skip (.skip (.skip (.skip (.skip (.cut [0,1,5,61,64] (.skip (.skip (.skip (.skip (.skip (.skip (.skip (.skip (.skip (.skip (.skip (.skip (.skip (.cut [0,1,5,61,78] .o))))))))))))))))))))))))))))))))) (.two .o (.two .o .o))))))))
noncomputable def b_spec_l6Rd_pick:Code:=bodyOf Go.Proofs.Tryz.f35
theorem k_spec_l6Rd_pick (F g:Nat) (a0 a1:AV) (h:H):callD Go.Proofs.Tryz.prog (fun _ _ _=>none:Env) 99 F b_spec_l6Rd_pick [4] A_spec_l6Rd_pick [a0,a1] h=c_spec_l6Rd_pick F g a0 a1 h:=by kernel_rfl
noncomputable def c_spec_l3Tree_l1 (F g:Nat) (kc1:List AV->H->Option R):List AV->H->(List AV->H->Option R)->Option R:=fun vs h kc9=>(fun x10 x11 x12 x13=>aIdxAddr 1 x10 x13 h fun x14 h=>aLoad x14 h fun x15 h=>aCmpI (fun a b=>ilt b a) x12 x15 h fun x16 h=>withBool x16 fun t17=>bc t17 (aSAdd x11 (AV.str [41] 1) h fun x18 h=>aArith isub x12 (AV.int 3 (Int.ofNat 1)) h fun x19 h=>kc9 [x10,x18,x19,x13] h) (aSAdd x11 (AV.str [40] 1) h fun x20 h=>aArith iadd x12 (AV.int 3 (Int.ofNat 1)) h fun x21 h=>aArith iadd x13 (AV.int 3 (Int.ofNat 1)) h fun x22 h=>kc1 [x10,x20,x21,x22] h)) (hd vs) (hd (tl vs)) (hd (tl (tl vs))) (hd (tl (tl (tl vs))))
noncomputable def c_spec_l3Tree_l2 (F g:Nat):List AV->H->(List AV->H->Option R)->Option R:=fun vs h kc23=>(fun x24 x25=>aCmpI (fun a b=>ilt b a) x25 (AV.int 3 (Int.ofNat 0)) h fun x26 h=>withBool x26 fun t27=>bc t27 (aSAdd x24 (AV.str [41] 1) h fun x28 h=>aArith isub x25 (AV.int 3 (Int.ofNat 1)) h fun x29 h=>kc23 [x28,x29] h) (some (x24,h))) (hd vs) (hd (tl vs))
noncomputable def c_spec_l3Tree_l3 (F g:Nat):List AV->H->(List AV->H->Option R)->Option R:=fun vs h kc1=>(fun x2 x3 x4 x5=>aLenK 1 x2 h fun x6 h=>aCmpI ilt x5 x6 h fun x7 h=>withBool x7 fun t8=>bc t8 (loopD F (c_spec_l3Tree_l1 F g kc1) [x2,x3,x4,x5] h) (loopD F (c_spec_l3Tree_l2 F g) [x3,x4] h)) (hd vs) (hd (tl vs)) (hd (tl (tl vs))) (hd (tl (tl (tl vs))))
noncomputable def c_spec_l3Tree (F g:Nat) (a0:AV) (h:H):Option R:=loopD F (c_spec_l3Tree_l3 F g) [a0,(AV.str [] 0),(AV.int 3 (Int.ofNat 0)),(AV.int 3 (Int.ofNat 0))] h
noncomputable def A_spec_l3Tree:An:=(.two .o (.two .o (.two .o (.two (.two .o (.two (.at_ [0,3,4,5] (.two (.two .o (.two .o .o)) (.two (.two (.two (.two (.at_ [0,3,4,5] (.two (.two .o (.two .o .o)) (.two (.two .o .o) .o)) .o) .o) (.two .o .o)) .o) .o)) .o) .o)) (.two (.two (.at_ [3,4] (.two (.two .o (.two .o .o)) (.two (.two .o .o) .o)) .o) .o) (.two .o .o))))))
noncomputable def b_spec_l3Tree:Code:=bodyOf Go.Proofs.Tryz.f53
theorem k_spec_l3Tree (F g:Nat) (a0:AV) (h:H):callD Go.Proofs.Tryz.prog (fun _ _ _=>none:Env) 33 F b_spec_l3Tree [2] A_spec_l3Tree [a0] h=c_spec_l3Tree F g a0 h:=by kernel_rfl
noncomputable def c_spec_l91Nodes_j1 (F g:Nat) (kc3:List AV->H->Option R) (vs:List AV) (h:H):Option R:=(fun x17 x18 x19 x20 x21 x22=>aBuildSlice 1 1 [(0,1,x22)] h fun x23 h=>aAppend 1 8 x19 x23 h fun x24 h=>aArith iadd x21 (AV.int 3 (Int.ofNat 1)) h fun x25 h=>kc3 [x17,x18,x24,x20,x25] h) (hd vs) (hd (tl vs)) (hd (tl (tl vs))) (hd (tl (tl (tl vs)))) (hd (tl (tl (tl (tl vs))))) (hd (tl (tl (tl (tl (tl vs))))))
noncomputable def c_spec_l91Nodes_l2 (F g:Nat):List AV->H->(List AV->H->Option R)->Option R:=fun vs h kc3=>(fun x4 x5 x6 x7 x8=>aCmpI ilt x8 x5 h fun x9 h=>withBool x9 fun t10=>bc t10 (aArith isub x8 (AV.int 3 (Int.ofNat 1)) h fun x11 h=>aIdxAddr 1 x6 x11 h fun x12 h=>aLoad x12 h fun x13 h=>aArith iadd x13 (AV.int 3 (Int.ofNat 1)) h fun x14 h=>bindR (c_spec_l6Rd_pick F g x4 x14 h) fun x15 h=>aArith iadd (AV.int 3 (Int.ofNat 1)) x15 h fun x16 h=>aCmpI ieq x7 (AV.int 3 (Int.ofNat 1)) h fun x26 h=>withBool x26 fun t27=>bc t27 ((fun W28=>bc (okW W28 h) (bc (okW W28 h) (aArith isub x8 (AV.int 3 (Int.ofNat 1)) h fun x29 _=>bc (okW W28 h) (aIdxAddr 1 x6 x29 h fun x30 _=>bc (okW W28 h) (aLoadW W28 x30 h fun x31 h=>aArith iadd (AV.int 3 (Int.ofNat 1)) x31 h fun x32 _=>bc (okW W28 h) (bc (okW W28 h) (bc (okW W28 h) (bc (okW W28 h) (aArith isub x8 (AV.int 3 (Int.ofNat 1)) h fun x33 _=>bc (okW W28 h) (aIdxAddr 1 x6 x33 h fun x34 _=>bc (okW W28 h) (aLoadW W28 x34 h fun x35 h=>aArith iadd x35 (AV.int 3 (Int.ofNat 1)) h fun x36 _=>bc (okW W28 h) (aMM false x36 (AV.int 3 (Int.ofNat 2)) h fun x37 _=>bc (okW W28 h) (bindR (c_spec_l6Rd_pick F g x4 x37 h) fun x38 h=>bc (okW W28 h) (aArith isub x32 x38 h fun x39 _=>bc (okW W28 h) (bc (okW W28 h) ((c_spec_l91Nodes_j1 F g kc3) [x4,x5,x6,x7,x8,x39] h) none) none) none) none) none) none) none) none) none) none) none) none) none) none) none) (watch h [x6,x6])) ((c_spec_l91Nodes_j1 F g kc3) [x4,x5,x6,x7,x8,x16] h)) (bindR (c_spec_l3Tree F g x6 h) fun x40 h=>some (x40,h))) (hd vs) (hd (tl vs)) (hd (tl (tl vs))) (hd (tl (tl (tl vs)))) (hd (tl (tl (tl (tl vs)))))
noncomputable def c_spec_l91Nodes (F g:Nat) (a0 a1:AV) (h:H):Option R:=aBuildSlice 1 1 [(0,1,(AV.int 3 (Int.ofNat 0)))] h fun x1 h=>bindR (c_spec_l6Rd_pick F g a0 (AV.int 3 (Int.ofNat 3)) h) fun x2 h=>loopD F (c_spec_l91Nodes_l2 F g) [a0,a1,x1,x2,(AV.int 3 (Int.ofNat 1))] h
noncomputable def A_spec_l91Nodes:An:=(.two .o (.two .o (.two .o (.two (.two .o (.two (.at_ [0,1,5,6,7] (.two (.two .o (.two .o .o)) (.two (.two (.two .o (.at_ [0,1,5,6,7,8] (.two .o (.two .o .o)) .o)) .o) .o)) .o) .o)) (.two .o .o)))))
noncomputable def b_spec_l91Nodes:Code:=bodyOf Go.Proofs.Tryz.f34
theorem k_spec_l91Nodes (F g:Nat) (a0 a1:AV) (h:H):callD Go.Proofs.Tryz.prog (Env.add (Env.add (fun _ _ _=>none:Env) 35 (u2 (c_spec_l6Rd_pick F g))) 53 (u1 (c_spec_l3Tree F g))) 50 F b_spec_l91Nodes [4] A_spec_l91Nodes [a0,a1] h=c_spec_l91Nodes F g a0 a1 h:=by kernel_rfl
noncomputable def c_spec_l6Rd_of (F g:Nat) (a0 a1:AV) (h:H):Option R:=aLenK 1 a1 h fun x1 h=>bindR (c_spec_l6Rd_pick F g a0 x1 h) fun x2 h=>aIdxAddr 1 a1 x2 h fun x3 h=>aLoad x3 h fun x4 h=>some (x4,h)
noncomputable def A_spec_l6Rd_of:An:=(.two .o (.two .o .o))
noncomputable def b_spec_l6Rd_of:Code:=bodyOf Go.Proofs.Tryz.f36
theorem k_spec_l6Rd_of (F g:Nat) (a0 a1:AV) (h:H):callD Go.Proofs.Tryz.prog (Env.add (fun _ _ _=>none:Env) 35 (u2 (c_spec_l6Rd_pick F g))) 12 F b_spec_l6Rd_of [4] A_spec_l6Rd_of [a0,a1] h=c_spec_l6Rd_of F g a0 a1 h:=by kernel_rfl
noncomputable def c_spec_l91Tree (F g:Nat) (a0 a1:AV) (h:H):Option R:=bindR (c_spec_l6Rd_pick F g a0 a1 h) fun x1 h=>aArith iadd (AV.int 3 (Int.ofNat 1)) x1 h fun x2 h=>bindR (c_spec_l91Nodes F g a0 x2 h) fun x3 h=>bindR (c_spec_l6Rd_pick F g a0 (AV.int 3 (Int.ofNat 40)) h) fun x4 h=>aCmpI ieq x4 (AV.int 3 (Int.ofNat 0)) h fun x5 h=>withBool x5 fun t6=>bc t6 (aBuildSlice 4 1 [(0,1,(AV.str [40,41] 2)),(1,1,(AV.str [40] 1)),(2,1,(AV.str [41] 1)),(3,1,(AV.str [120] 1))] h fun x7 h=>bindR (c_spec_l6Rd_of F g a0 x7 h) fun x8 h=>aSAdd x3 x8 h fun x9 h=>some (x9,h)) (some (x3,h))
noncomputable def A_spec_l91Tree:An:=(.two .o (.two .o (.two (.two .o (.two (.two .o .o) .o)) (.two .o .o))))
noncomputable def b_spec_l91Tree:Code:=bodyOf Go.Proofs.Tryz.f21
theorem k_spec_l91Tree (F g:Nat) (a0 a1:AV) (h:H):callD Go.Proofs.Tryz.prog (Env.add (Env.add (Env.add (fun _ _ _=>none:Env) 35 (u2 (c_spec_l6Rd_pick F g))) 34 (u2 (c_spec_l91Nodes F g))) 36 (u2 (c_spec_l6Rd_of F g))) 21 F b_spec_l91Tree [4] A_spec_l91Tree [a0,a1] h=c_spec_l91Tree F g a0 a1 h:=by kernel_rfl
noncomputable def c_spec_l91Some (F g:Nat) (a0:AV) (h:H):Option R:=bindR (c_spec_l6Open F g a0 h) fun x1 h=>bindR (c_spec_l91Tree F g x1 (AV.int 3 (Int.ofNat 8)) h) fun x2 h=>some (x2,h)
noncomputable def A_spec_l91Some:An:=(.two .o (.two .o .o))
noncomputable def b_spec_l91Some:Code:=bodyOf Go.Proofs.Tryz.f10
theorem k_spec_l91Some (F g:Nat) (a0:AV) (h:H):callD Go.Proofs.Tryz.prog (Env.add (Env.add (fun _ _ _=>none:Env) 22 (u1 (c_spec_l6Open F g))) 21 (u2 (c_spec_l91Tree F g))) 6 F b_spec_l91Some [2] A_spec_l91Some [a0] h=c_spec_l91Some F g a0 h:=by kernel_rfl
end
end Go.AI
namespace Go.AI
open Go Go.RowKit
noncomputable section
variable {α:Type} {h:H} {k:AV->H->Option α} {a b:Nat}
abbrev nI (a:Nat):AV:=.int 3 (.ofNat a)
theorem fwrapN (hm:a<=9223372036854775807):fwrap 3 (.ofNat a) = .ofNat a:=by
 rw [zadl,kd3]
 show IntKind.i64.wrap ((a:Nat):Int)=((a:Nat):Int)
 rw [zafd _ (by omega) (by omega)]
theorem addN (hm:a+b<=9223372036854775807):aArith iadd (nI a) (nI b) h k=k (nI (a+b)) h:=by
 rw [zabw,zaa7,bc_true,zacl a b hm]
theorem subN (hb:b<=a) (hm:a<=9223372036854775807):aArith isub (nI a) (nI b) h k=k (nI (a - b)) h:=by
 rw [zabw,zaa7,bc_true]
 have e:isub (.ofNat a) (.ofNat b) = .ofNat (a - b):=by
  rw [zaob];show (a:Int) - (b:Int)=((a - b:Nat):Int);omega
 rw [e,fwrapN (by omega)]
theorem mulN (hm:a * b<=9223372036854775807):aArith imul (nI a) (nI b) h k=k (nI (a * b)) h:=by
 rw [zabw,zaa7,bc_true]
 have e:imul (.ofNat a) (.ofNat b) = .ofNat (a * b):=rfl
 rw [e,fwrapN hm]
theorem ieq0 (hb:0<b):ieq (.ofNat b) 0=false:=by
 rw [ieq_eq,decide_eq_false_iff_not]
 show ¬ ((b:Nat):Int)=0
 omega
theorem remN (hb:0<b):aRem (nI a) (nI b) h k=k (nI (a % b)) h:=by
 show bc (kEq 3 3) (bc (ieq (.ofNat b) 0) none (k (.int 3 (imod (.ofNat a) (.ofNat b))) h)) none=_
 rw [zaa7,ieq0 hb]
 rfl
theorem quoN (hb:0<b) (hm:a<=9223372036854775807):aQuo (nI a) (nI b) h k=k (nI (a / b)) h:=by
 show bc (kEq 3 3) (bc (ieq (.ofNat b) 0) none (k (.int 3 (fwrap 3 (idiv (.ofNat a) (.ofNat b)))) h)) none=_
 rw [zaa7,ieq0 hb]
 have e:idiv (.ofNat a) (.ofNat b) = .ofNat (a / b):=rfl
 rw [e,fwrapN (Nat.le_trans (Nat.div_le_self _ _) hm)]
 rfl
theorem convN {j:Nat} (hm:a<=9223372036854775807):aConvI 3 (.int j (.ofNat a)) h k=k (nI a) h:=by
 show k (.int 3 (fwrap 3 (.ofNat a))) h=_
 rw [fwrapN hm]
theorem lssN:aCmpI ilt (nI a) (nI b) h k=k (.bool (Nat.ble (Nat.succ a) b)) h:=rfl
theorem gtrN:aCmpI (fun a b=>ilt b a) (nI a) (nI b) h k=k (.bool (Nat.ble (Nat.succ b) a)) h:=rfl
theorem eqlN:aCmpI ieq (nI a) (nI b) h k=k (.bool (Nat.beq a b)) h:=rfl
theorem xorN (ha:a<4611686018427387904) (hb:b<4611686018427387904):aBits .xor (nI a) (nI b) h k=k (nI (a ^^^ b)) h:=by
 show bc (kEq 3 3) (k (.int 3 (bitsI .xor (kd 3) (.ofNat a) (.ofNat b))) h) none=_
 rw [zaa7,bc_true,kd3]
 have hx:a ^^^ b<4611686018427387904:=Nat.xor_lt_two_pow (n:=62) ha hb
 have e1:∀m:Nat,m<4611686018427387904->(BitVec.ofInt 64 (Int.ofNat m)).toNat=m:=fun m hm=>by
  show (BitVec.ofInt 64 ((m:Nat):Int)).toNat=m
  rw [BitVec.ofInt_natCast,BitVec.toNat_ofNat];omega
 have e:bitsI .xor .i64 (.ofNat a) (.ofNat b) = .ofNat (a ^^^ b):=by
  show IntKind.i64.wrap (((BitVec.ofInt 64 (Int.ofNat a)) ^^^ (BitVec.ofInt 64 (Int.ofNat b))).toNat:Int)=_
  rw [BitVec.toNat_xor,e1 a ha,e1 b hb]
  rw [zafd _ (by omega) (by omega)];rfl
 rw [e]
theorem leNil (h:H) (k:AV->H->Option R):aLenK 1 (.leaf .nils) h k=k (nI 0) h:=rfl
theorem leOsl (b o n es:Nat) (h:H) (k:AV->H->Option R):aLenK 1 (.osl b o n es) h k=k (nI n) h:=rfl
theorem idxOsl {b o n es i:Nat} (hi:i<n):aIdxAddr es (.osl b o n es) (nI i) h k=k (.ptr b (o+i * es)) h:=by
 show inB (.ofNat i) n (fun j=>k (.ptr b (Nat.add o (Nat.mul j es))) h)=_
 show bc (Nat.ble (Nat.succ i) n) _ none=_
 rw [zaau (show Nat.succ i<=n from hi)];rfl
end
end Go.AI
namespace Go.AI
open Go Go.RowKit
noncomputable section
structure Src (b:AV) (m:Nat) (L:List AV) (h:H):Prop where
 what:(b = .leaf .nils/\m=0)\/b = .osl 0 0 m 1
 cell:0<m->∃fl,h.get 0 = .cells fl L
 byte:∀i,i<m->∃c,L[i]?=some (.int 4 (.ofNat c))/\c<256
theorem Src.one {b:AV} {m:Nat} {L:List AV} {h:H} (s:Src b m L h):b.one1=true:=by rcases s.what with ⟨rfl,_⟩ | rfl <;> rfl
theorem Src.len {b:AV} {m:Nat} {L:List AV} {h:H} (s:Src b m L h) (h':H) (k:AV->H->Option R):aLenK 1 b h' k=k (nI m) h':=by
 rcases s.what with ⟨rfl,rfl⟩ | rfl <;> rfl
theorem Src.idx {b:AV} {m:Nat} {L:List AV} {h:H} (s:Src b m L h) {i:Nat} (hi:i<m) (h':H) (k:AV->H->Option R):aIdxAddr 1 b (nI i) h' k=k (.ptr 0 i) h':=by
 rcases s.what with ⟨rfl,rfl⟩ | rfl
 · omega
 · rw [idxOsl hi,Nat.zero_add,Nat.mul_one]
theorem Src.load {b:AV} {m:Nat} {L:List AV} {h:H} (s:Src b m L h) {i:Nat} (hi:i<m):∃c,c<256/\∀k:AV->H->Option R,aLoad (.ptr 0 i) h k=k (.int 4 (.ofNat c)) h:=by
 obtain ⟨c,h1,h2⟩:=s.byte i hi
 obtain ⟨fl,hc⟩:=s.cell (by omega)
 exact ⟨c,h2,fun k=>zacg hc (by rw [zadr];exact h1)⟩
theorem Src.of {b:AV} {m:Nat} {L:List AV} {h h':H} (s:Src b m L h) (e:h'.get 0=h.get 0):Src b m L h':=⟨s.what,fun hm=>by rw [e];exact s.cell hm,s.byte⟩
section
variable {F g:Nat} {b:AV} {m:Nat} {L:List AV} {h:H} {Q p n:Nat}
theorem zatu (hs:Src b m L h) (hQ:h.get Q = .cells 0 [b,nI (p+1)]) (hm:m<=2000) (hm0:0<m) (hp:p<1000000) (hn0:0<n) {y1 y2:Nat} (h1:y1<100000000) (h2:y2<100000000) :
 ∃v,v<n/\c_spec_l6Rd_pick_j1 F g [.ptr Q 0,nI n,nI p,nI y1,nI y2] h=some (nI v,h):=by
 have l2:∀k:AV->H->Option R,aLoad (.ptr Q (Nat.add 0 0)) h k=k b h:=fun k=>zacg hQ rfl
 have hpm':p / m<=p:=Nat.div_le_self _ _
 obtain ⟨x,hx⟩:∃x,y1+y2+p * 29+p / m * 53=x:=⟨_,rfl⟩
 refine ⟨(x ^^^ (x / 64)) % n,Nat.mod_lt _ hn0,?_⟩
 delta c_spec_l6Rd_pick_j1
 dsimp only [zabh,zabg]
 rw [addN (by omega),mulN (by omega),addN (by omega),zaaz,zabc,l2,hs.len,quoN hm0 (by omega),mulN (by omega),addN (by omega),hx,quoN (by omega) (by omega),xorN (by omega) (by omega),remN hn0]
theorem zatj (hs:Src b m L h) (hQ:h.get Q = .cells 0 [b,nI (p+1)]) (hm:m<=2000) (hm0:0<m) (hp:p<1000000) (hn0:0<n) {y1:Nat} (h1:y1<100000000) :
 ∃v,v<n/\c_spec_l6Rd_pick_j2 F g [.ptr Q 0,nI n,nI p,nI y1,.ptr Q (Nat.add 0 0)] h=some (nI v,h):=by
 have l2:∀k:AV->H->Option R,aLoad (.ptr Q (Nat.add 0 0)) h k=k b h:=fun k=>zacg hQ rfl
 have hq2:(p * 7+3) % m<m:=Nat.mod_lt _ hm0
 obtain ⟨c2,hc2,hl2⟩:=hs.load hq2
 obtain ⟨v,hv,e⟩:=zatu (F:=F) (g:=g) hs hQ hm hm0 hp hn0 h1 (show c2 * 1117<100000000 by omega)
 refine ⟨v,hv,?_⟩
 rw [<- e]
 delta c_spec_l6Rd_pick_j2
 dsimp only [zabh,zabg]
 rw [l2,mulN (by omega),addN (by omega),zaaz,zabc,l2,hs.len,remN hm0,hs.idx hq2,hl2,convN (by omega),mulN (by omega)]
theorem zats (hs:Src b m L h) (hQ:h.get Q = .cells 0 [b,nI (p+1)]) (hm:m<=2000) (hm0:0<m) (hp:p<1000000) (hn0:0<n) :
 ∃v,v<n/\c_spec_l6Rd_pick_j3 F g [.ptr Q 0,nI n,nI p,b] h=some (nI v,h):=by
 have l2:∀k:AV->H->Option R,aLoad (.ptr Q (Nat.add 0 0)) h k=k b h:=fun k=>zacg hQ rfl
 have hq1:p % m<m:=Nat.mod_lt _ hm0
 obtain ⟨c1,hc1,hl1⟩:=hs.load hq1
 obtain ⟨v,hv,e⟩:=zatj (F:=F) (g:=g) hs hQ hm hm0 hp hn0 (show c1 * 131<100000000 by omega)
 refine ⟨v,hv,?_⟩
 rw [<- e]
 delta c_spec_l6Rd_pick_j3
 dsimp only [zabh,zabg]
 rw [zaaz,zabc,l2,hs.len,remN hm0,hs.idx hq1,hl1,convN (by omega),mulN (by omega),zaaz,zabc]
theorem zato (hs:Src b m L h) (hQ:h.get Q = .cells 0 [b,nI (p+1)]) (hm:m<=2000) (hm0:0<m) (hp:p<1000000) (hn0:0<n) :
 ∃v,v<n/\c_spec_l6Rd_pick_j4 F g [.ptr Q 0,nI n,.bool false,.bool false] h=some (nI v,h):=by
 have l2:∀k:AV->H->Option R,aLoad (.ptr Q (Nat.add 0 0)) h k=k b h:=fun k=>zacg hQ rfl
 have l3:∀k:AV->H->Option R,aLoad (.ptr Q (Nat.add 0 1)) h k=k (nI (p+1)) h:=fun k=>zacg hQ rfl
 have u1:∀k:AV->H->Option R,aArith isub (nI (p+1)) (nI 1) h k=k (nI p) h:=fun k=>by rw [subN (by omega) (by omega)];rfl
 by_cases hpm:p<m
 · obtain ⟨c,hc,hl⟩:=hs.load hpm
   refine ⟨c % n,Nat.mod_lt _ hn0,?_⟩
   delta c_spec_l6Rd_pick_j4
   dsimp only [zabh,zabg]
   rw [zaby,zaag,zaai,zaag,zaaz,zabc,l3,u1,zaaz,zabc,l2,hs.len,lssN,zaai,zaau (show Nat.succ p<=m from hpm),bc_true,
    zaaz,zabc,l2,hs.idx hpm,hl,convN (by omega),remN hn0]
 · obtain ⟨v,hv,e⟩:=zats (F:=F) (g:=g) hs hQ hm hm0 hp hn0
   refine ⟨v,hv,?_⟩
   rw [<- e]
   delta c_spec_l6Rd_pick_j4
   dsimp only [zabh,zabg]
   rw [zaby,zaag,zaai,zaag,zaaz,zabc,l3,u1,zaaz,zabc,l2,hs.len,lssN,zaai,zabo (show m<Nat.succ p by omega),zaag,
    zaaz,zabc,l2]
theorem zat7 (hs:Src b m L h) (hQ:h.get Q = .cells 0 [b,nI p]) (hQ0:Q≠0) (hm:m<=2000) (hp:p<1000000) (hn:n<=1000000) :
 ∃v,v<max n 1/\c_spec_l6Rd_pick F g (.ptr Q 0) (nI n) h=some (nI v,h.set Q (.cells 0 [b,nI (p+1)])):=by
 have l1:∀k:AV->H->Option R,aLoad (.ptr Q (Nat.add 0 1)) h k=k (nI p) h:=fun k=>zacg hQ rfl
 have s1:∀k:AV->H->Option R,aStore (.ptr Q (Nat.add 0 1)) (nI (p+1)) h k=k (.leaf .undef) (h.set Q (.cells 0 [b,nI (p+1)])):=fun k=>zakg (l:=[b,nI p]) hQ (by omega) (by simp) rfl
 obtain ⟨h1,hh⟩:∃h1,h.set Q (.cells 0 [b,nI (p+1)])=h1:=⟨_,rfl⟩
 rw [hh] at s1 ⊢
 have hQ1:h1.get Q = .cells 0 [b,nI (p+1)]:=by rw [<- hh];exact zae3
 have hs1:Src b m L h1:=hs.of (by rw [<- hh];exact zabn (Ne.symm hQ0))
 have l2:∀k:AV->H->Option R,aLoad (.ptr Q (Nat.add 0 0)) h1 k=k b h1:=fun k=>zacg hQ1 rfl
 have e0:c_spec_l6Rd_pick F g (.ptr Q 0) (nI n) h=guardB false (.bool (Nat.ble (Nat.succ n) 1)) (c_spec_l6Rd_pick_j4 F g [.ptr Q 0,nI n,.bool (Nat.ble (Nat.succ n) 1),.bool (Nat.beq m 0)] h1) (c_spec_l6Rd_pick_j4 F g [.ptr Q 0,nI n,.bool (Nat.ble (Nat.succ n) 1),.one .tup (.leaf .nil)] h1):=by
  delta c_spec_l6Rd_pick
  rw [zaaz,zabc,l1,addN (by omega),zaaz,zabc,s1,lssN,zaaz,zabc,l2,hs1.len,eqlN]
 rw [e0]
 by_cases hn0:n<1
 · obtain rfl:n=0:=by omega
   exact ⟨0,by omega,rfl⟩
 · rw [zabo (by omega)]
   by_cases hm0:m=0
   · subst hm0;exact ⟨0,by omega,rfl⟩
   · have hmb:Nat.beq m 0=false:=by rw [beq_decide,decide_eq_false_iff_not];exact hm0
     rw [hmb]
     obtain ⟨v,hv,e⟩:=zato (F:=F) (g:=g) (n:=n) hs1 hQ1 hm (by omega) hp (by omega)
     exact ⟨v,by omega,e⟩
end
structure Row (x:AV) (D:Nat) (ds:List Nat) (h:H):Prop where
 what:x = .leaf (.sl D 0 1 1)/\ds.length=1\/x = .osl D 0 ds.length 1
 cells:h.get D = .cells 0 (ds.map nI)
 lt:D<h.n
theorem Row.of {x:AV} {D:Nat} {ds:List Nat} {h h':H} (r:Row x D ds h) (e:h'.get D=h.get D) (hn:h.n<=h'.n):Row x D ds h':=⟨r.what,by rw [e];exact r.cells,Nat.lt_of_lt_of_le r.lt hn⟩
theorem Row.len {x:AV} {D:Nat} {ds:List Nat} {h:H} (r:Row x D ds h) (h':H) (k:AV->H->Option R):aLenK 1 x h' k=k (nI ds.length) h':=by
 rcases r.what with ⟨rfl,e⟩ | rfl
 · rw [e];rfl
 · rfl
theorem Row.idx {x:AV} {D:Nat} {ds:List Nat} {h:H} (r:Row x D ds h) {i:Nat} (hi:i<ds.length) (h':H) (k:AV->H->Option R):aIdxAddr 1 x (nI i) h' k=k (.ptr D i) h':=by
 rcases r.what with ⟨rfl,e⟩ | rfl
 · obtain rfl:i=0:=by omega
   rfl
 · rw [idxOsl hi,Nat.zero_add,Nat.mul_one]
theorem Row.load {x:AV} {D:Nat} {ds:List Nat} {h:H} (r:Row x D ds h) {i e:Nat} (hi:ds[i]?=some e) (k:AV->H->Option R):aLoad (.ptr D i) h k=k (nI e) h:=
 zacg r.cells (by rw [zadr,List.getElem?_map,hi];rfl)
theorem Row.watch {x:AV} {D:Nat} {ds:List Nat} {h:H} (r:Row x D ds h):watch h [x,x]=[(D,ds.map nI),(D,ds.map nI)]:=by
 have e:∀q,watch1 h D q=(D,ds.map nI)::q:=fun q=>by unfold watch1;rw [r.cells]
 rcases r.what with ⟨rfl,_⟩ | rfl
 · show watch1 h D (watch1 h D [])=_;rw [e,e]
 · show watch1 h D (watch1 h D [])=_;rw [e,e]
theorem Row.okW {x:AV} {D:Nat} {ds:List Nat} {h:H} (r:Row x D ds h):okW [(D,ds.map nI),(D,ds.map nI)] h=true:=by
 show bc (@Blk.rec (fun _=>Bool) false (fun _ l=>eqW (ds.map nI) l) (fun _ _=>false) (h.get D)) (bc (@Blk.rec (fun _=>Bool) false (fun _ l=>eqW (ds.map nI) l) (fun _ _=>false) (h.get D)) true false) false=true
 rw [r.cells]
 show bc (eqW (ds.map nI) (ds.map nI)) (bc (eqW (ds.map nI) (ds.map nI)) true false) false=true
 rw [zaj4];rfl
theorem Row.loadW {D:Nat} {ds:List Nat} {h:H} {i e:Nat} (hi:ds[i]?=some e) (k:AV->H->Option R):aLoadW [(D,ds.map nI),(D,ds.map nI)] (.ptr D i) h k=k (nI e) h:=by
 show bc (Nat.beq D D) (onSome (nthO (ds.map nI) i) fun a=>bc (wat a) (k a h) none) _=_
 rw [Nat.beq_refl,bc_true,zadr,List.getElem?_map,hi];rfl
theorem zas9 {h:H} {q fl D:Nat} {a c:AV} {k:AV->H->Option R} (hq:h.get q = .cells fl [a]) (hk:h.get D = .cells 0 [c]) :
 aAppend 1 8 (.leaf (.sl D 0 1 1)) (.leaf (.sl q 0 1 1)) h k=k (.osl h.n 0 2 1) (h.push (.cells 0 [c,a])):=by
 show withCells h q (fun _ l=>bc (Nat.beq (lenL (takeL (Nat.mul 1 1) (dropL 0 l))) (Nat.mul 1 1)) (aApp1 1 8 1 (takeL (Nat.mul 1 1) (dropL 0 l)) (.leaf (.sl D 0 1 1)) h k) none)=_
 rw [zabt hq]
 show withCells h D (fun fl l=>bc (Nat.beq (lenL (takeL (Nat.mul 1 1) (dropL 0 l))) (Nat.mul 1 1)) (bc (Nat.ble (Nat.mul (Nat.add 1 1) 8) 140737488355328) (bc (Nat.ble (Nat.add 1 1) strMax) (k (.osl h.n 0 (Nat.add 1 1) 1) (h.push (.cells 0 (appA (takeL (Nat.mul 1 1) (dropL 0 l)) [a])))) none) none) none)=_
 rw [zabt hk]
 have e4:Nat.add 1 1<=strMax:=by have:=zaec;show 2<=strMax;omega
 rw [zaau e4];rfl
theorem zarm {a b c:Nat} (h1:c<=a) (h2:c<=b):c<=minN a b:=by
 unfold minN;cases Nat.ble a b
 · exact h2
 · exact h1
theorem Row.push {x:AV} {D:Nat} {ds:List Nat} {h:H} (r:Row x D ds h) (hl:ds.length<1000) (v:Nat) (k:AV->H->Option R) :
 ∃h',(aBuildSlice 1 1 [(0,1,nI v)] h fun y h=>aAppend 1 8 x y h k)=k (.osl (h.n+1) 0 (ds.length+1) 1) h'/\Row (.osl (h.n+1) 0 (ds.length+1) 1) (h.n+1) (ds++[v]) h'/\h.n<=h'.n/\(∀c,c<h.n->c≠D->h'.get c=h.get c)/\(2<=D->2<=h.lo->2<=h'.lo):=by
 have e2:∀k:AV->H->Option R,aBuildSlice 1 1 [(0,1,nI v)] h k=k (.leaf (.sl h.n 0 1 1)) (h.push (.cells 0 [nI v])):=fun k=>rfl
 rw [e2]
 have g2:(h.push (.cells 0 [nI v])).get h.n = .cells 0 [nI v]:=zaa5 rfl
 have gD:(h.push (.cells 0 [nI v])).get D = .cells 0 (ds.map nI):=by rw [zaaq r.lt];exact r.cells
 have hlt:=r.lt
 rcases r.what with ⟨rfl,e⟩ | rfl
 · obtain ⟨d,rfl⟩:∃d,ds=[d]:=by match ds,e with | [d],_=>exact ⟨d,rfl⟩
   rw [zas9 g2 gD]
   refine ⟨_,rfl,⟨.inr rfl,?_,?_⟩,?_,fun c hc _=>?_,?_⟩
   · exact zaa5 rfl
   · show h.n+1<h.n+1+1;omega
   · show h.n<=h.n+1+1;omega
   · rw [zaaq (by show c<h.n+1;omega),zaaq hc]
   · exact fun _ h=>h
 · rw [zaoe g2 gD (by simp) hl (by omega) rfl]
   refine ⟨_,rfl,⟨.inr (by simp),?_,?_⟩,?_,fun c hc hcD=>?_,?_⟩
   · rw [show h.n+1=((h.push (.cells 0 [nI v])).set D .dead).n from rfl,zaa5 rfl];simp
   · show h.n+1<h.n+1+1;omega
   · show h.n<=h.n+1+1;omega
   · rw [zaaq (by show c<h.n+1;omega),zabn hcD,zaaq hc]
   · exact fun h1 h2=>zarm h1 h2
def cn (c:Nat):List Nat->Nat
 | []=>0
 | a::l=>(if a=c then 1 else 0)+cn c l
theorem cn_app (c:Nat):∀(x y:List Nat),cn c (x++y)=cn c x+cn c y
 | [],y=>by simp [cn]
 | a::x,y=>by simp only [List.cons_append,cn,cn_app c x y];omega
theorem zaj5:∀(p q:List Nat) (d m:Nat),scan (p++q) d m=true->q≠[]->cn 41 p<cn 40 p+d
 | [],[],d,m,_,h=>absurd rfl h
 | [],c::q,0,m,h,_=>by cases h
 | [],c::q,d+1,m,_,_=>by simp [cn]
 | c::p,q,0,m,h,_=>by cases h
 | c::p,q,d+1,m,h,hq=>by
  simp only [List.cons_append,scan] at h
  by_cases h41:c=41
  · subst h41
    have h:scan (p++q) d m=true:=h
    have:=zaj5 p q d m h hq
    simp only [cn]
    simp;omega
  · have e41:Nat.beq c 41=false:=by rw [beq_decide,decide_eq_false_iff_not];exact h41
    rw [e41,zaag] at h
    by_cases h40:c=40
    · subst h40
      have h:bc (Nat.ble (m+1) 9) (scan (p++q) (d+2) (m+1)) false=true:=h
      cases h9:Nat.ble (m+1) 9 with
      | false=>rw [h9] at h;cases h
      | true=>
       rw [h9,bc_true] at h
       have:=zaj5 p q (d+2) (m+1) h hq
       simp only [cn]
       simp;omega
    · have e40:Nat.beq c 40=false:=by rw [beq_decide,decide_eq_false_iff_not];exact h40
      rw [e40] at h;cases h
theorem zamq {l l':List Nat} (h0:l≠[]) (hb:cn 40 l=cn 41 l) (hl:l'≠[]):isTree (l++l')=false:=by
 cases l with
 | nil=>exact absurd rfl h0
 | cons c p=>
  cases hc:isTree (c::p++l') with
  | false=>rfl
  | true=>
   exfalso
   simp only [List.cons_append,isTree] at hc
   by_cases h40:c=40
   · subst h40
     have hc:scan (p++l') 1 1=true:=hc
     have:=zaj5 p l' 1 1 hc hl
     simp [cn] at hb
     omega
   · have e40:Nat.beq c 40=false:=by rw [beq_decide,decide_eq_false_iff_not];exact h40
     rw [e40] at hc;cases hc
theorem sadd1 (l:List Nat) (c:Nat) (hl:l.length<100000) (h:H) (k:AV->H->Option R):aSAdd (.str l l.length) (.str [c] 1) h k=k (.str (l++[c]) (l++[c]).length) h:=by
 show bc (Nat.ble (Nat.add l.length 1) strMax) (k (.str (appL l [c]) (Nat.add l.length 1)) h) none=_
 have:=zaec
 rw [zaau (show Nat.add l.length 1<=strMax by show l.length+1<=strMax;omega),bc_true,zanh]
 rw [List.length_append];rfl
theorem zau4 {a b:Nat}:Nat.ble (Nat.succ a) b=decide (a<b):=by rw [zabp];rfl
section
variable {F g:Nat} {h:H} {x:AV} {D:Nat} {ds:List Nat}
theorem zara (r:Row x D ds h) {i e:Nat} (hi:ds[i]?=some e) (kc:List AV->H->Option R):∀(N op:Nat) (l:List Nat),op<N->l.length+op<50000->i<20000->cn 40 l=cn 41 l+op->
 ∃l' op',op'<=op+1/\cn 40 l'=cn 41 l'+op'/\l'.length+op'=l.length+op+2/\loopD N (c_spec_l3Tree_l1 F g kc) [x,.str l l.length,nI op,nI i] h=kc [x,.str l' l'.length,nI op',nI (i+1)] h
 | 0,op,l,h0,_,_,_=>by omega
 | N+1,op,l,hN,hl,h20,hcn=>by
  have hlt:i<ds.length:=(List.getElem?_eq_some_iff.1 hi).1
  have e0:∀op l,l.length+op<50000->loopD (N+1) (c_spec_l3Tree_l1 F g kc) [x,.str l l.length,nI op,nI i] h =
   bc (Nat.ble (Nat.succ e) op) (aSAdd (.str l l.length) (.str [41] 1) h fun x18 h=>aArith isub (nI op) (nI 1) h fun x19 h=>loopD N (c_spec_l3Tree_l1 F g kc) [x,x18,x19,nI i] h)
    (aSAdd (.str l l.length) (.str [40] 1) h fun x20 h=>aArith iadd (nI op) (nI 1) h fun x21 h=>aArith iadd (nI i) (nI 1) h fun x22 h=>kc [x,x20,x21,x22] h):=fun op l _=>by
   rw [zabx]
   delta c_spec_l3Tree_l1
   dsimp only [zabh,zabg]
   rw [r.idx hlt,r.load hi,gtrN,zaai]
  rw [e0 op l hl]
  by_cases ho:e<op
  · rw [zaau (show Nat.succ e<=op from ho),bc_true,sadd1 _ _ (by omega),subN (by omega) (by omega)]
    obtain ⟨l',op',h1,h4,h2,h3⟩:=zara r hi kc N (op - 1) (l++[41]) (by omega) (by simp;omega) h20 (by simp only [cn_app,cn];simp;omega)
    exact ⟨l',op',by omega,h4,by simp at h2;omega,h3⟩
  · rw [zabo (show op<Nat.succ e by omega),zaag,sadd1 _ _ (by omega),addN (by omega),addN (by omega)]
    exact ⟨l++[40],op+1,by omega,by simp only [cn_app,cn];simp;omega,by simp;omega,rfl⟩
theorem zao8 (h:H):∀(N op:Nat) (l:List Nat),op<N->l.length+op<50000->cn 40 l=cn 41 l+op->∃l',l'.length=l.length+op/\cn 40 l'=cn 41 l'/\loopD N (c_spec_l3Tree_l2 F g) [.str l l.length,nI op] h=some (.str l' l'.length,h)
 | 0,op,l,h0,_,_=>by omega
 | N+1,op,l,hN,hl,hcn=>by
  rw [zabx]
  delta c_spec_l3Tree_l2
  dsimp only [zabh,zabg]
  rw [gtrN,zaai]
  by_cases ho:0<op
  · rw [zaau (show Nat.succ 0<=op from ho),bc_true,sadd1 _ _ (by omega),subN (by omega) (by omega)]
    obtain ⟨l',h1,h4,h2⟩:=zao8 h N (op - 1) (l++[41]) (by omega) (by simp;omega) (by simp only [cn_app,cn];simp;omega)
    exact ⟨l',by simp at h1;omega,h4,h2⟩
  · rw [zabo (show op<Nat.succ 0 by omega),zaag]
    exact ⟨l,by omega,by omega,rfl⟩
theorem zapc (r:Row x D ds h) (hF:10000<F) (hds:ds.length<5000):∀(N i op:Nat) (l:List Nat),i<=ds.length->ds.length - i<N->l.length+op=2 * i->op<=i->cn 40 l=cn 41 l+op->
 ∃l',l'.length=2 * ds.length/\cn 40 l'=cn 41 l'/\loopD N (c_spec_l3Tree_l3 F g) [x,.str l l.length,nI op,nI i] h=some (.str l' l'.length,h)
 | 0,i,op,l,_,h0,_,_,_=>by omega
 | N+1,i,op,l,hi,hN,hl,ho,hcn=>by
  rw [zabx]
  delta c_spec_l3Tree_l3
  dsimp only [zabh,zabg]
  rw [r.len,lssN,zaai]
  by_cases hid:i<ds.length
  · rw [zaau (show Nat.succ i<=_ from hid),bc_true]
    obtain ⟨l',op',h1,h4,h2,h3⟩:=zara (F:=F) (g:=g) r (List.getElem?_eq_getElem hid) (loopD N (c_spec_l3Tree_l3 F g)) F op l (by omega) (by omega) (by omega) hcn
    have h3':loopD F (c_spec_l3Tree_l1 F g (loopD N (c_spec_l3Tree_l3 F g))) [x,.str l l.length,nI op,nI i] h=_:=h3
    obtain ⟨l2,g1,g3,g2⟩:=zapc r hF hds N (i+1) op' l' (by omega) (by omega) (by omega) (by omega) h4
    refine ⟨l2,g1,g3,?_⟩
    rw [<- g2];exact h3'
  · rw [zabo (show _<Nat.succ i by omega),zaag]
    obtain ⟨l',h1,h4,h2⟩:=zao8 (F:=F) (g:=g) h F op l (by omega) (by omega) hcn
    exact ⟨l',by omega,h4,h2⟩
theorem zaqv (r:Row x D ds h) (hF:10000<F) (hds:ds.length<5000):∃l,l.length=2 * ds.length/\cn 40 l=cn 41 l/\c_spec_l3Tree F g x h=some (.str l l.length,h):=
 zapc (F:=F) (g:=g) r hF hds F 0 0 [] (by omega) (by omega) rfl (Nat.le_refl _) rfl
end
structure Rdr (b:AV) (m:Nat) (L:List AV) (Q p:Nat) (h:H):Prop where
 src:Src b m L h
 blk:h.get Q = .cells 0 [b,nI p]
 q0:2<=Q
 lt:Q<h.n
 lo:2<=h.lo
 m2:m<=2000
section
variable {F g:Nat} {b:AV} {m:Nat} {L:List AV} {Q p n:Nat} {h:H}
theorem Rdr.pick (r:Rdr b m L Q p h) (hp:p<1000000) (hn:n<=1000000):∃v h',v<max n 1/\c_spec_l6Rd_pick F g (.ptr Q 0) (nI n) h=some (nI v,h')/\Rdr b m L Q (p+1) h'/\h'.n=h.n/\∀c,c≠Q->h'.get c=h.get c:=by
 have hq:=r.q0
 obtain ⟨v,hv,e⟩:=zat7 (F:=F) (g:=g) r.src r.blk (by omega) r.m2 hp hn
 exact ⟨v,_,hv,e,⟨r.src.of (zabn (by omega)),zae3,r.q0,r.lt,zarm r.q0 r.lo,r.m2⟩,rfl,fun c hc=>zabn hc⟩
theorem Rdr.later {h':H} (r:Rdr b m L Q p h) (e0:h'.get 0=h.get 0) (eQ:h'.get Q=h.get Q) (hn:h.n<=h'.n) (hl:2<=h'.lo):Rdr b m L Q p h':=
 ⟨r.src.of e0,by rw [eQ];exact r.blk,r.q0,Nat.lt_of_lt_of_le r.lt hn,hl,r.m2⟩
theorem zajm (r:Rdr b m L Q p h) {x:AV} {D:Nat} {ds:List Nat} (w:Row x D ds h) (hDQ:D≠Q) (hD:2<=D) (hds:ds.length<100) {kd:AV} {v:Nat} (kc:List AV->H->Option R) (N:AV) :
 ∃x' D' h',c_spec_l91Nodes_j1 F g kc [.ptr Q 0,N,x,kd,nI ds.length,nI v] h=kc [.ptr Q 0,N,x',kd,nI (ds.length+1)] h'/\Row x' D' (ds++[v]) h'/\Rdr b m L Q p h'/\D'≠Q/\2<=D':=by
 obtain ⟨h',e,w',g1,g2,g3⟩:=w.push (by omega) v fun y h=>aArith iadd (nI ds.length) (nI 1) h fun z h=>kc [.ptr Q 0,N,y,kd,z] h
 have hq:=r.lt
 have hq0:=r.q0
 refine ⟨_,_,h',?_,w',r.later (g2 0 (by omega) (by omega)) (g2 Q hq (Ne.symm hDQ)) g1 (g3 hD r.lo),by omega,by omega⟩
 delta c_spec_l91Nodes_j1
 dsimp only [zabh,zabg]
 rw [show nI ds.length=nI ds.length from rfl]
 refine e.trans ?_
 rw [addN (by omega)]
theorem bc_t {α:Type} {c:Bool} {x y:α} (h:c=true):bc c x y=x:=by subst h;rfl
theorem zane (r:Rdr b m L Q p h) (hp:p<900000) {x:AV} {D:Nat} {ds:List Nat} (w:Row x D ds h) (hDQ:D≠Q) (hD:2<=D) (h1:1<=ds.length) (hds:ds.length<100) (hb:∀(j e:Nat),ds[j]?=some e->e<=j) {kd:Nat} (hn:ds.length<n) (kc:List AV->H->Option R) :
 ∃v x' D' p' h',v<=ds.length/\p'<=p+2/\c_spec_l91Nodes_l2 F g [.ptr Q 0,nI n,x,nI kd,nI ds.length] h kc=kc [.ptr Q 0,nI n,x',nI kd,nI (ds.length+1)] h'/\Row x' D' (ds++[v]) h'/\Rdr b m L Q p' h'/\D'≠Q/\2<=D':=by
 obtain ⟨e,he⟩:∃e,ds[ds.length - 1]?=some e:=⟨_,List.getElem?_eq_getElem (by omega)⟩
 have hel:=hb _ _ he
 have hi:ds.length - 1<ds.length:=by omega
 obtain ⟨v,h2,hv,e2,r2,n2,f2⟩:=r.pick (F:=F) (g:=g) (n:=e+1) (by omega) (by omega)
 have w2:Row x D ds h2:=w.of (f2 D hDQ) (by omega)
 by_cases hk:kd=1
 · subst hk
   obtain ⟨v2,h3,hv2,e3,r3,n3,f3⟩:=r2.pick (F:=F) (g:=g) (n:=min (e+1) 2) (by omega) (by omega)
   have w3:Row x D ds h3:=w2.of (f3 D hDQ) (by omega)
   obtain ⟨x',D',h',q1,q2,q3,q4,q5⟩:=zajm (F:=F) (g:=g) r3 w3 hDQ hD hds (kd:=nI 1) (v:=1+e - v2) kc (nI n)
   refine ⟨1+e - v2,x',D',p+2,h',by omega,by omega,?_,q2,q3,q4,q5⟩
   rw [<- q1]
   delta c_spec_l91Nodes_l2
   dsimp only [zabh,zabg]
   rw [lssN,zaai,zaau (show Nat.succ ds.length<=n from hn),bc_true,subN h1 (by omega),w.idx hi,w.load he,addN (by omega),e2,bindR_some',addN (by omega),eqlN,zaai]
   have mm:∀k:AV->H->Option R,aMM false (nI (e+1)) (.int 3 (.ofNat 2)) h2 k=k (nI (min (e+1) 2)) h2:=fun k=>by
    show k (.int 3 (bc (Nat.ble (Nat.succ 2) (e+1)) (.ofNat 2) (.ofNat (e+1)))) h2=_
    by_cases h3:3<=e+1
    · rw [zaau (show Nat.succ 2<=e+1 from h3),bc_true,show min (e+1) 2=2 by omega]
    · rw [zabo (show e+1<Nat.succ 2 by omega),zaag,show min (e+1) 2=e+1 by omega]
   rw [show Nat.beq 1 1=true from rfl,bc_true,w2.watch]
   rw [w2.okW,bc_true,bc_true,subN h1 (by omega),bc_true,w2.idx hi,bc_true,Row.loadW he,addN (by omega),w2.okW,bc_true,bc_true,bc_true,bc_true,subN h1 (by omega),bc_true,w2.idx hi,bc_true,Row.loadW he,addN (by omega),w2.okW,bc_true,mm,bc_true,e3,bindR_some',
    w3.okW,bc_true,subN (by omega) (by omega),bc_true,bc_true]
 · obtain ⟨x',D',h',q1,q2,q3,q4,q5⟩:=zajm (F:=F) (g:=g) r2 w2 hDQ hD hds (kd:=nI kd) (v:=1+v) kc (nI n)
   refine ⟨1+v,x',D',p+1,h',by omega,by omega,?_,q2,q3,q4,q5⟩
   rw [<- q1]
   delta c_spec_l91Nodes_l2
   dsimp only [zabh,zabg]
   rw [lssN,zaai,zaau (show Nat.succ ds.length<=n from hn),bc_true,subN h1 (by omega),w.idx hi,w.load he,addN (by omega),e2,bindR_some',addN (by omega),eqlN,zaai]
   rw [show Nat.beq kd 1=false by rw [beq_decide,decide_eq_false_iff_not];exact hk,zaag]
theorem zajw (hF:10000<F) (hn:n<=50) {kd:Nat}:∀(N:Nat) (ds:List Nat) (x:AV) (D p:Nat) (h:H),Rdr b m L Q p h->p+2 * (n - ds.length)<900000->Row x D ds h->D≠Q->2<=D->1<=ds.length->ds.length<=max n 1->n - ds.length<N->
 (∀(j e:Nat),ds[j]?=some e->e<=j)->
 ∃l p' h',(2<=l.length/\l.length<=2 * max n 1/\cn 40 l=cn 41 l)/\p'<=p+2 * (n - ds.length)/\loopD N (c_spec_l91Nodes_l2 F g) [.ptr Q 0,nI n,x,nI kd,nI ds.length] h=some (.str l l.length,h')/\Rdr b m L Q p' h'
 | 0,_,_,_,_,_,_,_,_,_,_,_,_,h0,_=>by omega
 | N+1,ds,x,D,p,h,r,hp,w,hDQ,hD,h1,hds,hN,hb=>by
  rw [zabx]
  by_cases hi:ds.length<n
  · obtain ⟨v,x',D',p',h',q1,q2,q3,q4,q5,q6,q7⟩:=zane (F:=F) (g:=g) r (by omega) w hDQ hD h1 (by omega) hb (kd:=kd) hi (loopD N (c_spec_l91Nodes_l2 F g))
    have hlen:(ds++[v]).length=ds.length+1:=by simp
    obtain ⟨l,p2,h2,g1,g2,g3,g4⟩:=zajw hF hn N (ds++[v]) x' D' p' h' q5 (by omega) q4 q6 q7 (by omega) (by omega) (by omega) fun j e hj=>by
     by_cases hj':j<ds.length
     · rw [List.getElem?_append_left hj'] at hj;exact hb j e hj
     · rw [List.getElem?_append_right (by omega)] at hj
       obtain rfl:j=ds.length:=by
        have:=(List.getElem?_eq_some_iff.1 hj).1
        simp at this;omega
       simp at hj;omega
    refine ⟨l,p2,h2,g1,by omega,?_,g4⟩
    rw [q3, <- hlen];exact g3
  · obtain ⟨l,h2,h4,h3⟩:=zaqv (F:=F) (g:=g) w hF (by omega)
    refine ⟨l,p,h,⟨by omega,by omega,h4⟩,by omega,?_,r⟩
    delta c_spec_l91Nodes_l2
    dsimp only [zabh,zabg]
    rw [lssN,zaai,zabo (show n<Nat.succ ds.length by omega),zaag,h3,bindR_some']
theorem zar2 (r:Rdr b m L Q p h) (hF:10000<F) (hn:n<=50) (hp:p<100000):∃l p' h',(2<=l.length/\l.length<=2 * max n 1/\cn 40 l=cn 41 l)/\p'<=p+200/\c_spec_l91Nodes F g (.ptr Q 0) (nI n) h=some (.str l l.length,h')/\Rdr b m L Q p' h':=by
 have hq:=r.lt
 have hq0:=r.q0
 have r1:Rdr b m L Q p (h.push (.cells 0 [nI 0])):=r.later (zaaq (by omega)) (zaaq hq) (Nat.le_succ _) r.lo
 obtain ⟨v,h2,hv,e2,r2,n2,f2⟩:=r1.pick (F:=F) (g:=g) (n:=3) (by omega) (by omega)
 have hn2:h2.n=h.n+1:=n2
 have w:Row (.leaf (.sl h.n 0 1 1)) h.n [0] h2:=⟨.inl ⟨rfl,rfl⟩,by rw [f2 _ (by omega)];exact zaa5 rfl,by omega⟩
 obtain ⟨l,p',h',g1,g2,g3,g4⟩:=zajw (F:=F) (g:=g) (n:=n) hF hn (kd:=v) F [0] _ h.n (p+1) h2 r2 (by omega) w (by omega) (by omega) (by simp) (by simp;omega) (by simp;omega) fun j e hj=>by
  cases j with
  | zero=>simp at hj;omega
  | succ j=>simp at hj
 refine ⟨l,p',h',g1,by omega,?_,g4⟩
 delta c_spec_l91Nodes
 rw [show ∀k:AV->H->Option R,aBuildSlice 1 1 [(0,1,nI 0)] h k=k (.leaf (.sl h.n 0 1 1)) (h.push (.cells 0 [nI 0])) from fun k=>rfl,e2,bindR_some']
 exact g3
theorem sadd (l l':List Nat) (hl:l.length+l'.length<100000) (h:H) (k:AV->H->Option R):aSAdd (.str l l.length) (.str l' l'.length) h k=k (.str (l++l') (l++l').length) h:=by
 show bc (Nat.ble (Nat.add l.length l'.length) strMax) (k (.str (appL l l') (Nat.add l.length l'.length)) h) none=_
 have:=zaec
 rw [zaau (show Nat.add l.length l'.length<=strMax by show l.length+l'.length<=strMax;omega),bc_true,zanh,List.length_append];rfl
theorem of_ok (r:Rdr b m L Q p h) (hp:p<900000) {D c:Nat} {xs:List AV} (hD:h.get D = .cells 0 xs) (hDQ:D≠Q) (hc:xs.length=c) (hc0:0<c) (hc1:c<100) (hxs:∀a∈xs,∃l,a = .str l l.length/\l.length<100/\l≠[]) :
 ∃l h',(l.length<100/\l≠[])/\c_spec_l6Rd_of F g (.ptr Q 0) (.leaf (.sl D 0 c c)) h=some (.str l l.length,h')/\Rdr b m L Q (p+1) h':=by
 obtain ⟨v,h2,hv,e2,r2,n2,f2⟩:=r.pick (F:=F) (g:=g) (n:=c) (by omega) (by omega)
 have hvc:v<c:=by omega
 obtain ⟨l,hl,hll⟩:=hxs _ (List.getElem_mem (show v<xs.length by omega))
 refine ⟨l,h2,hll,?_,r2⟩
 delta c_spec_l6Rd_of
 rw [show ∀k:AV->H->Option R,aLenK 1 (.leaf (.sl D 0 c c)) h k=k (nI c) h from fun k=>rfl,e2,bindR_some']
 rw [show ∀k:AV->H->Option R,aIdxAddr 1 (.leaf (.sl D 0 c c)) (nI v) h2 k=k (.ptr D (0+v * 1)) h2 from fun k=>by
  show bc (Nat.ble (Nat.succ v) c) (k (.ptr D (Nat.add 0 (Nat.mul v 1))) h2) none=_
  rw [zaau (show Nat.succ v<=c from hvc)];rfl]
 rw [zacg (fl:=0) (l:=xs) (a:=.str l l.length) (by rw [f2 D hDQ];exact hD) (by rw [zadr,Nat.zero_add,Nat.mul_one,List.getElem?_eq_getElem (by omega),hl])]
theorem zasx (r:Rdr b m L Q p h) (hF:10000<F) (hn:n<=40) (hp:p<90000):∃l p' h',(l.length<=300/\(isTree l=true->l.length<=2 * max n 1))/\p'<=p+300/\c_spec_l91Tree F g (.ptr Q 0) (nI n) h=some (.str l l.length,h')/\Rdr b m L Q p' h':=by
 obtain ⟨v,h1,hv,e1,r1,n1,f1⟩:=r.pick (F:=F) (g:=g) (n:=n) (by omega) (by omega)
 obtain ⟨l,p2,h2,g1,g2,g3,r2⟩:=zar2 (F:=F) (g:=g) (n:=1+v) r1 hF (by omega) (by omega)
 obtain ⟨v3,h3,hv3,e3,r3,n3,f3⟩:=r2.pick (F:=F) (g:=g) (n:=40) (by omega) (by omega)
 have hq:=r3.lt
 have hq0:=r3.q0
 by_cases h0:v3=0
 · obtain ⟨h4,hh4⟩:∃h4,h3.push (.cells 0 [.str [40,41] 2,.str [40] 1,.str [41] 1,.str [120] 1])=h4:=⟨_,rfl⟩
   have g4:h4.get h3.n = .cells 0 [.str [40,41] 2,.str [40] 1,.str [41] 1,.str [120] 1]:=by rw [<- hh4];exact zaa5 rfl
   have r4:Rdr b m L Q (p2+1) h4:=r3.later (by rw [<- hh4];exact zaaq (by omega)) (by rw [<- hh4];exact zaaq hq) (by rw [<- hh4];exact Nat.le_succ _) (by rw [<- hh4];exact r3.lo)
   obtain ⟨l',h5,k1,k2,k3⟩:=of_ok (F:=F) (g:=g) r4 (by omega) g4 (by omega) (c:=4) rfl (by omega) (by omega) fun a ha=>by
    simp only [List.mem_cons,List.mem_nil_iff,or_false] at ha
    rcases ha with rfl | rfl | rfl | rfl
    · exact ⟨[40,41],rfl,by simp,by simp⟩
    · exact ⟨[40],rfl,by simp,by simp⟩
    · exact ⟨[41],rfl,by simp,by simp⟩
    · exact ⟨[120],rfl,by simp,by simp⟩
   refine ⟨l++l',p2+1+1,h5,⟨by simp;omega,fun hT=>?_⟩,by omega,?_,k3⟩
   · rw [zamq (by intro h;rw [h] at g1;simp at g1) g1.2.2 k1.2] at hT;cases hT
   delta c_spec_l91Tree
   rw [e1,bindR_some',addN (by omega),g3,bindR_some',e3,bindR_some',eqlN,zaai,show Nat.beq v3 0=true by subst h0;rfl,bc_true]
   rw [show ∀k:AV->H->Option R,aBuildSlice 4 1 [(0,1,(AV.str [40,41] 2)),(1,1,(AV.str [40] 1)),(2,1,(AV.str [41] 1)),(3,1,(AV.str [120] 1))] h3 k=k (.leaf (.sl h3.n 0 4 4)) (h3.push (.cells 0 [.str [40,41] 2,.str [40] 1,.str [41] 1,.str [120] 1])) from fun k=>rfl,hh4,k2,bindR_some',sadd _ _ (by omega)]
 · refine ⟨l,p2+1,h3,⟨by omega,fun _=>by omega⟩,by omega,?_,r3⟩
   delta c_spec_l91Tree
   rw [e1,bindR_some',addN (by omega),g3,bindR_some',e3,bindR_some',eqlN,zaai,show Nat.beq v3 0=false by rw [beq_decide,decide_eq_false_iff_not];exact h0,zaag]
end
theorem zati {F g:Nat} {a:AV} {c:Nat} {L:List AV} {h:H} (ha:(a = .leaf .nils/\c=0)\/a = .osl 0 0 c 1) (h0:0<c->∃fl,h.get 0 = .cells fl L) (hb:∀i,i<c->∃v,L[i]?=some (.int 4 (.ofNat v))/\v<256) (hn:2<=h.n) (hlo:2<=h.lo) :
 ∃b m h',c_spec_l6Open F g a h=some (.ptr h.n 0,h')/\Rdr b m L h.n 0 h'/\h'.n=h.n+1:=by
 have j:∀q,c_spec_l6Open_j1 F g [.osl 0 0 q 1] h=some (.ptr h.n 0,h.push (.cells 0 [.osl 0 0 q 1,nI 0])):=fun q=>rfl
 have mk:∀b m,(b = .leaf .nils/\m=0)\/b = .osl 0 0 m 1->m<=c->m<=2000->Rdr b m L h.n 0 (h.push (.cells 0 [b,nI 0])):=fun b m hw hmc hm2=>
  ⟨⟨hw,fun hm=>by rw [zaaq (by omega)];exact h0 (by omega),fun i hi=>hb i (by omega)⟩,zaa5 rfl,hn,Nat.lt_succ_self _,hlo,hm2⟩
 rcases ha with ⟨rfl,rfl⟩ | rfl
 · exact ⟨.leaf .nils,0,_,rfl,mk _ _ (.inl ⟨rfl,rfl⟩) (by omega) (by omega),rfl⟩
 · by_cases hc:2000<c
   · refine ⟨.osl 0 0 2000 1,2000,_,?_,mk _ _ (.inr rfl) (by omega) (by omega),rfl⟩
     delta c_spec_l6Open
     rw [leOsl,gtrN,zaai,zaau (show Nat.succ 2000<=c from hc),bc_true]
     rw [show ∀k:AV->H->Option R,aSliceV 1 (.osl 0 0 c 1) none (some (.int 3 (.ofNat 2000))) none h k=k (.osl 0 0 2000 1) h from fun k=>by
      show bc (Nat.ble 0 2000) (bc (Nat.ble 2000 c) (bc (Nat.beq 1 1) (k (.osl 0 (Nat.add 0 (Nat.mul 0 1)) (Nat.sub 2000 0) 1) h) none) none) none=_
      rw [zaau (show 2000<=c by omega)];rfl]
     exact j _
   · refine ⟨.osl 0 0 c 1,c,_,?_,mk _ _ (.inr rfl) (by omega) (by omega),rfl⟩
     delta c_spec_l6Open
     rw [leOsl,gtrN,zaai,zabo (show c<Nat.succ 2000 by omega),zaag]
     exact j _
end
end Go.AI
namespace Go.AI
open Go Go.RowKit
noncomputable section
theorem zauu {F g:Nat} {a:AV} {c:Nat} {L:List AV} {h:H} (hF:10000<F) (ha:(a = .leaf .nils/\c=0)\/a = .osl 0 0 c 1) (h0:0<c->∃fl,h.get 0 = .cells fl L) (hb:∀i,i<c->∃v,L[i]?=some (.int 4 (.ofNat v))/\v<256) (hn:2<=h.n) (hlo:2<=h.lo) :
 ∃l h',(l.length<=300/\(isTree l=true->l.length<=16))/\c_spec_l91Some F g a h=some (.str l l.length,h')/\2<=h'.lo:=by
 obtain ⟨b,m,h1,e1,r1,_⟩:=zati (F:=F) (g:=g) ha h0 hb hn hlo
 obtain ⟨l,p',h2,g1,g2,g3,r2⟩:=zasx (F:=F) (g:=g) (n:=8) r1 hF (by omega) (by omega)
 refine ⟨l,h2,g1,?_,r2.lo⟩
 delta c_spec_l91Some
 rw [e1,bindR_some',g3,bindR_some']
end
end Go.AI
namespace Go.AI
open Go Go.RowKit
noncomputable section
variable {P:Program}
def quietC (c:AV->H->Option R) (a0:AV) (h:H):Option R:=onSome (c a0 h.mark) fun r=>bc r.1.plain (bc (Nat.ble h.n r.2.lo) (some (r.1,h)) none) none
theorem zaui {c:AV->H->Option R} {a0 x:AV} {h h':H} (e:c a0 h.mark=some (x,h')) (hp:x.plain=true) (hlo:h.n<=h'.lo):quietC c a0 h=some (x,h):=by
 unfold quietC;rw [e]
 show bc x.plain (bc (Nat.ble h.n h'.lo) (some (x,h)) none) none=_
 rw [hp,zaau hlo];rfl
abbrev tabL:List AV:=[.int 7 (.ofNat 1),.int 7 (.ofNat 10),.int 7 (.ofNat 100),.int 7 (.ofNat 1000),.int 7 (.ofNat 10000),.int 7 (.ofNat 100000),.int 7 (.ofNat 1000000),.int 7 (.ofNat 10000000),.int 7 (.ofNat 100000000),.int 7 (.ofNat 1000000000),.int 7 (.ofNat 10000000000),.int 7 (.ofNat 100000000000),.int 7 (.ofNat 1000000000000),.int 7 (.ofNat 10000000000000),.int 7 (.ofNat 100000000000000),.int 7 (.ofNat 1000000000000000),.int 7 (.ofNat 10000000000000000),.int 7 (.ofNat 100000000000000000),.int 7 (.ofNat 1000000000000000000),.int 7 (.ofNat 10000000000000000000)]
def tabB:Blk:=.cells 65538 tabL
def hCode (B:Blk):H:=⟨2,.n (.n .e tabB .e) B .e,2⟩
theorem zaug (B:Blk):(hCode B).get 0=B:=rfl
theorem hCode_tab (B:Blk):(hCode B).get 1=tabB:=rfl
theorem zac0 (B:Blk) (c:Nat) (h0:c≠0) (hc:c≠1):(hCode B).get c = .dead:=by
 obtain ⟨c,rfl⟩:∃d,c=d+2:=⟨c - 2,by omega⟩
 show (Tr.n (.n .e tabB .e) B .e).get (c+1+1)=_
 rw [Tr.get_succ]
 split
 · obtain ⟨e,he⟩:∃e,(c+1) / 2=e+1:=⟨(c+1) / 2 - 1,by omega⟩
   show (Tr.n .e tabB .e).get ((c+1) / 2)=_
   rw [he,Tr.get_succ];split <;> rfl
 · rfl
def tabArr:Array Value:=((List.range 20).map fun i=>Value.int .u64 ((10 ^ i:Nat):Int)).toArray
def TabW (o:Option Obj):Prop:=∃el fr,o=some (.cells tabArr el fr)
theorem tab_cells {ι:Inj}:∀i a,tabL[i]?=some a->∃v,tabArr[0+i]?=some v/\VX ι a [v]:=by
 intro i a hi
 have h20:i<20:=by
  have:=(List.getElem?_eq_some_iff.1 hi).1
  simpa using this
 have:∀i,i<20->∃n:Nat,tabL[i]?=some (AV.int 7 (.ofNat n))/\tabArr[i]?=some (Value.int .u64 (.ofNat n)):=by
  intro i h
  rcases i with _ | _ | _ | _ | _ | _ | _ | _ | _ | _ | _ | _ | _ | _ | _ | _ | _ | _ | _ | _ | i
  all_goals first | (exact ⟨_,rfl,rfl⟩) | omega
 obtain ⟨n,e1,e2⟩:=this i h20
 rw [e1] at hi;cases hi
 exact ⟨_,by rw [Nat.zero_add];exact e2,(rfl:VX _ (.int 7 (.ofNat n)) [.int (kd 7) (.ofNat n)])⟩
def CodeLaw (c:AV->H->Option R):Prop:=∀(a0:AV) (n:Nat) (L:List AV) (B:Blk),((a0 = .leaf .nils/\n=0)\/a0 = .osl 0 0 n 1)->(0<n->B = .cells 2 L)->(∀i,i<n->∃v,L[i]?=some (.int 4 (.ofNat v))/\v<256)->∃h',c a0 (hCode B)=some (.bool true,h')
theorem wf_u8 {n:Int} (h:(Lit.int .u8 n).wf=true):∃v:Nat,n = .ofNat v/\v<256:=by
 have h:IntKind.u8.min<=n/\n<=IntKind.u8.max:=by simpa [Lit.wf] using h
 have h1:(0:Int)<=n:=h.1
 have h2:n<=(255:Int):=h.2
 exact ⟨n.toNat,by show n=((n.toNat:Nat):Int);omega,by omega⟩
theorem codeRel {w:World} (hg:TabW w.heap[1]?) {B:Blk} (x:Option (Nat×Nat×Nat)) (hx:∀C o s,x=some (C,o,s)->C<w.heap.size) (hB:B = .dead\/∃C o s l,x=some (C,o,s)/\B = .cells 2 l/\BlkR (fun _=>none) B o s w.heap[C]? ) (hl:∀l,B = .cells 2 l->∀a∈l,a.plain=true) :
 ∃ι,Rel ι (hCode B) w/\ι 0=x:=by
 obtain ⟨el,fr,heq⟩:=hg
 let ι:Inj:=fun b=>if b=1 then some (1,0,tabArr.size) else if b=0 then x else none
 have h1:ι 1=some (1,0,tabArr.size):=rfl
 have h0:ι 0=x:=rfl
 have hn:∀b,b≠0->b≠1->ι b=none:=fun b h0 h1=>by show (if b=1 then _ else if b=0 then x else none)=_;rw [if_neg h1,if_neg h0]
 have free:∀b,¬ ((hCode B).get b).own:=fun b ho=>by
  by_cases hb:b=1
  · subst hb;have ho:65538<2:=ho;omega
  by_cases hb1:b=0
  · subst hb1
    rcases hB with rfl | ⟨_,_,_,l,_,rfl,_⟩
    · exact ho
    · have ho:2<2:=ho;omega
  · rw [zac0 B b hb1 hb] at ho;exact ho
 refine ⟨ι,?_,h0⟩
 exact {
  fresh:=fun b y e=>by
   by_cases hb:b=0
   · subst hb;show 0<2;omega
   by_cases hb1:b=1
   · subst hb1;show 1<2;omega
   · rw [hn b hb hb1] at e;cases e
  lt:=fun b C o s e=>by
   by_cases hb:b=1
   · subst hb;rw [h1] at e;cases e;exact (Array.getElem?_eq_some_iff.1 heq).1
   by_cases hb1:b=0
   · subst hb1;rw [h0] at e;exact hx _ _ _ e
   · rw [hn b hb1 hb] at e;cases e
  inj:=fun b _ _ _ _ _ _ hb=>absurd hb (free b)
  blk:=fun b hb=>by
   by_cases hb0:b=1
   · subst hb0
     exact ⟨1,0,tabArr.size,h1,tabArr,el,fr.1,fr.2,heq,rfl,fun i a hi=>tab_cells i a hi,fun h=>absurd h (by decide),fun h=>absurd h (by decide)⟩
   by_cases hb1:b=0
   · subst hb1
     rcases hB with rfl | ⟨C,o,s,l,hxe,rfl,hR⟩
     · exact absurd rfl hb
     · refine ⟨C,o,s,by rw [h0];exact hxe,?_⟩
       obtain ⟨cc,t,lo,hi,g1,g2,g3,g4,g5⟩:=hR
       refine ⟨cc,t,lo,hi,g1,g2,fun i a hi=>?_,g4,g5⟩
       obtain ⟨v,k1,k2⟩:=g3 i a hi
       exact ⟨v,k1,zac8 (hl l rfl a (List.mem_of_getElem? hi)) k2⟩
   · exact absurd (zac0 B b hb1 hb0) hb
  pin:=fun b r' e' hp=>by
   by_cases hb0:b=1
   · subst hb0
     obtain ⟨he',l,hl⟩:=hp
     have hl:tabB = .cells (4+(r' * 65536+e')) l:=hl
     unfold tabB at hl
     injection hl with k1 k2
     have:r'=0/\e'=65534:=by omega
     obtain ⟨rfl,rfl⟩:=this
     exact ⟨⟨tabArr.size,h1⟩,by unfold PinR;rw [if_pos rfl];trivial⟩
   by_cases hb1:b=0
   · subst hb1
     obtain ⟨_,l,hl⟩:=hp
     rcases hB with rfl | ⟨_,_,_,l',_,rfl,_⟩
     · cases hl
     · have hl:Blk.cells 2 l' = .cells (4+(r' * 65536+e')) l:=hl
       injection hl with k1 _
       omega
   · rw [zac0 B b hb1 hb0] at hp;exact absurd hp (Blk.dead_free _ _) }
theorem zaq9 {c:AV->H->Option R} (hc:CodeLaw c) {a:Option Addr} {len cap:Nat} {zs:List Int} {w:World} (hg:TabW w.heap[1]?)
 (hw:(a=none/\len=0/\cap=0/\zs=[])\/∃x,a=some x/\len<=cap/\cap<=maxLen/\zs.length=cap/\(∀i,i<zs.length->w.cell? (x.add i)=some (.int .u8 (zs.getD i 0)))/\∀n∈zs,(Lit.int .u8 n).wf=true) :
 ∃ι a0 h' B,Rel ι (hCode B) w/\¬ B.own/\VR ι a0 (.slice a len cap)/\c a0 (hCode B)=some (.bool true,h'):=by
 obtain ⟨ι0,r0,_⟩:=codeRel hg (B:=.dead) none (fun _ _ _ e=>by cases e) (.inl rfl) (fun _ e=>by cases e)
 rcases hw with ⟨rfl,rfl,rfl,rfl⟩ | ⟨x,rfl,hlc,hmax,hz,hcell,hwf⟩
 · obtain ⟨h',e⟩:=hc (.leaf .nils) 0 [] .dead (.inl ⟨rfl,rfl⟩) (by omega) (by omega)
   exact ⟨_,.leaf .nils,h',.dead,r0,fun h=>h,rfl,e⟩
 by_cases hc0:cap=0
 · obtain rfl:len=0:=by omega
   subst hc0
   obtain ⟨h',e⟩:=hc (.osl 0 0 0 1) 0 [] .dead (.inr rfl) (by omega) (by omega)
   exact ⟨_,.osl 0 0 0 1,h',.dead,r0,fun h=>h,⟨x,0,rfl,Nat.le_refl _,.inl rfl⟩,e⟩
 have hc1:=hcell 0 (by omega)
 obtain ⟨B,off,spot⟩:=x
 have hsp:spot=none:=by
  have h1:w.cell? ⟨B,off,spot⟩=some (.int .u8 (zs.getD 0 0)):=hc1
  cases spot with
  | none=>rfl
  | some s=>
   exfalso
   unfold World.cell? at h1
   split at h1
   · simp at h1
   · cases h1
 subst hsp
 have hcell':∀i,i<zs.length->w.cell? ⟨B,off+i,none⟩=some (.int .u8 (zs.getD i 0)):=fun i hi=>by rw [<- addr_add];exact hcell i hi
 obtain ⟨cc,ty,lo,hi,hB⟩:∃cc ty lo hi,w.heap[B]?=some (.cells cc ty (lo,hi)):=by
  have h1:=hcell' 0 (by omega)
  unfold World.cell? at h1
  split at h1
  · rename_i c t fr hh;exact ⟨c,t,fr.1,fr.2,hh⟩
  · cases h1
 have hcc:∀i,i<zs.length->cc[off+i]?=some (.int .u8 (zs.getD i 0)):=fun i hi=>by rw [<- zadn hB];exact hcell' i hi
 have hsz:off+cap<=cc.size:=by
  have:=(Array.getElem?_eq_some_iff.1 (hcc (cap - 1) (by omega))).1
  omega
 have hL:∀i,i<zs.length->∃v,(zs.map fun z=>AV.int 4 z)[i]?=some (.int 4 (.ofNat v))/\v<256:=fun i hi=>by
  obtain ⟨v,hv,hv2⟩:=wf_u8 (hwf _ (List.getElem_mem hi))
  exact ⟨v,by rw [List.getElem?_map,List.getElem?_eq_getElem hi,hv];rfl,hv2⟩
 obtain ⟨h',e⟩:=hc (.osl 0 0 len 1) len (zs.map fun z=>AV.int 4 z) (.cells 2 (zs.map fun z=>AV.int 4 z)) (.inr rfl) (fun _=>rfl) (fun i hi=>hL i (by omega))
 have hlt:B<w.heap.size:=(Array.getElem?_eq_some_iff.1 hB).1
 obtain ⟨ι,r1,hι⟩:=codeRel hg (B:=.cells 2 (zs.map fun z=>AV.int 4 z)) (some (B,off,cc.size)) (fun _ _ _ e=>by cases e;exact hlt)
  (
   .inr ⟨B,off,cc.size,_,rfl,rfl,cc,ty,lo,hi,hB,rfl,fun i a hi=>by
   rw [List.getElem?_map] at hi
   cases hz':zs[i]? with
   | none=>rw [hz'] at hi;cases hi
   | some z=>
    rw [hz'] at hi
    cases hi
    have hil:=(List.getElem?_eq_some_iff.1 hz').1
    refine ⟨_,hcc i hil,?_⟩
    have:zs.getD i 0=z:=by rw [List.getD_eq_getElem?_getD,hz'];rfl
    rw [this];exact (rfl:VX _ (.int 4 z) [.int (kd 4) z]),fun h=>absurd h (by decide),fun h=>absurd h (by decide)⟩)
  (fun l e a ha=>by cases e;obtain ⟨z,_,rfl⟩:=List.mem_map.1 ha;rfl)
 exact ⟨ι,.osl 0 0 len 1,h',.cells 2 (zs.map fun z=>AV.int 4 z),r1,show ¬ (2<2) by omega,⟨⟨B,off,none⟩,cap,rfl,hlc,.inr ⟨B,off,cc.size,hι,by simp,by omega⟩⟩,e⟩
theorem zaut {B:Blk} (hB:¬ B.own) (b:Nat):¬ ((hCode B).get b).own:=by
 by_cases h0:b=1
 · subst h0;intro ho;have ho:65538<2:=ho;omega
 by_cases hb:b=0
 · subst hb;exact hB
 · rw [zac0 B b hb h0];exact id
end
end Go.AI
