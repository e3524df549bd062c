/- countsIn, as the evaluator reads it, in company. -/
import Derived.Test.YtecliakkmgoglaaGreatDoorPur
import Derived.KernelRfl
set_option linter.unusedVariables false
set_option linter.unusedSimpArgs false
set_option maxRecDepth 100000
namespace Go.AI.T.R
open Go Go.Proofs.Tryz Go.RowKit Go.AI Go.Conc Go.Co Go.Co.Cnt
noncomputable section
variable {Post:Value->World->Prop} {main:Bool} {fk:Option Fk}
noncomputable def c_impl_node_root_l1 (F g:Nat):List AV->H->(List AV->H->Option R)->Option R:=fun vs h kc1=>(fun x2=>aNilCheck x2 h fun x3 h=>aField 1 x3 h fun x4 h=>aLoad x4 h fun x5 h=>aEq true 1 x5 (AV.leaf .nilp) h fun x6 h=>withBool x6 fun t7=>bc t7 (aNilCheck x2 h fun x8 h=>aField 1 x8 h fun x9 h=>aLoad x9 h fun x10 h=>kc1 [x10] h) (some (x2,h))) (hd vs)
noncomputable def c_impl_node_root (F g:Nat) (a0:AV) (h:H):Option R:=loopD F (c_impl_node_root_l1 F g) [a0] h
theorem k_impl_node_root (F g:Nat) (a0:AV) (h:H):callD prog (fun _ _ _=>none:Env) 15 F (bodyOf f74) [2] (.two .o (.two .o (.two (.two (.at_ [3] (.two (.two .o (.two .o .o)) (.two .o .o)) .o) .o) (.two .o .o)))) [a0] h=c_impl_node_root F g a0 h:=by kernel_rfl
theorem co_impl_node_root (F g:Nat):∀args h r,u1 (c_impl_node_root F g) args h=some r->CoTri prog tW Post main (fk,true) 74 args h r:=by
 intro args h r e;obtain ⟨a0,rfl,e1⟩:=zae6 e;exact zabz func74 rfl rfl rfl ntmps74 (by kernel_rfl) (CoSound.none _ _ _ _ _) ((k_impl_node_root F g a0 h).trans e1)
noncomputable def c_impl_node_nodes_l1 (F g:Nat) (self:AV->H->Option R):List AV->H->(List AV->H->Option R)->Option R:=fun vs h kc6=>(fun x7 x8 x9 x10=>aCmpI ilt x10 x9 h fun x11 h=>withBool x11 fun t12=>bc t12 (aIdxAddr 1 x8 x10 h fun x13 h=>aLoad x13 h fun x14 h=>bindR (self x14 h) fun x15 h=>aAppend 1 8 x7 x15 h fun x16 h=>aArith iadd x10 (AV.int 3 (Int.ofNat 1)) h fun x17 h=>kc6 [x16,x8,x9,x17] h) (some (x7,h))) (hd vs) (hd (tl vs)) (hd (tl (tl vs))) (hd (tl (tl (tl vs))))
noncomputable def c_impl_node_nodes (F g:Nat):AV->H->Option R:=Nat.rec (motive:=fun _=>AV->H->Option R) (fun _ _=>none) (fun g self a0 h=>aBuildSlice 1 1 [(0,1,a0)] h fun x1 h=>aNilCheck a0 h fun x2 h=>aField 2 x2 h fun x3 h=>aLoad x3 h fun x4 h=>aLenK 1 x4 h fun x5 h=>loopD F (c_impl_node_nodes_l1 F g self) [x1,x4,x5,(AV.int 3 (Int.ofNat 0))] h) g
theorem k_impl_node_nodes (F g:Nat) (a0:AV) (h:H):callD prog (Env.add (fun _ _ _=>none:Env) 39 (u1 (c_impl_node_nodes F g))) 23 F (bodyOf f39) [2] (.two .o (.two .o (.two (.two .o (.two (.at_ [3,11,12,13] (.two .o (.two (.two .o .o) (.two (.two (.two .o .o) .o) .o))) .o) .o)) (.two .o .o)))) [a0] h=c_impl_node_nodes F (g+1) a0 h:=by kernel_rfl
theorem co_impl_node_nodes (F g:Nat):∀args h r,u1 (c_impl_node_nodes F g) args h=some r->CoTri prog tW Post main (fk,true) 39 args h r:=by
 induction g with
 | zero=>intro args h r e;obtain ⟨a0,rfl,e⟩:=zae6 e;cases e
 | succ g ih=>intro args h r e;obtain ⟨a0,rfl,e1⟩:=zae6 e;exact zabz func39 rfl rfl rfl ntmps39 (by kernel_rfl) (CoSound.add (CoSound.none _ _ _ _ _) ih) ((k_impl_node_nodes F g a0 h).trans e1)
noncomputable def c_impl_distances_nearer_j1 (F g:Nat) (kc5:List AV->H->Option R) (vs:List AV) (h:H):Option R:=(fun x53 x54 x55 x56 x57 x58 x59 x60=>aField 0 x60 h fun x61 _=>aLoad x61 h fun x62 _=>aIdxArr 1 9 x53 x62 h fun x63 _=>aLoad x63 h fun x64 _=>aNilCheck x55 h fun x65 _=>aField 0 x65 h fun x66 _=>aLoad x66 h fun x67 _=>aIdxArr 1 9 x53 x67 h fun x68 _=>aLoad x68 h fun x69 _=>aArith iadd x69 (AV.int 3 (Int.ofNat 1)) h fun x70 _=>aMM false x64 x70 h fun x71 _=>aIdxArr 1 9 x53 x59 h fun x72 _=>aStore x72 x71 h fun x73 h=>aArith iadd x58 (AV.int 3 (Int.ofNat 1)) h fun x74 h=>kc5 [x53,x54,x56,x57,x74] h) (hd vs) (hd (tl vs)) (hd (tl (tl vs))) (hd (tl (tl (tl vs)))) (hd (tl (tl (tl (tl vs))))) (hd (tl (tl (tl (tl (tl vs)))))) (hd (tl (tl (tl (tl (tl (tl vs))))))) (hd (tl (tl (tl (tl (tl (tl (tl vs))))))))
noncomputable def c_impl_distances_nearer_j2 (F g:Nat) (kc5:List AV->H->Option R) (vs:List AV) (h:H):Option R:=(fun x22 x23 x24 x25 x26 x27 x28 x29=>aLoad x29 h fun x30 _=>aNilCheck x24 h fun x31 _=>aField 1 x31 h fun x32 _=>aLoad x32 h fun x33 _=>aNilCheck x33 h fun x34 _=>aField 0 x34 h fun x35 _=>aLoad x35 h fun x36 _=>aIdxArr 1 9 x22 x36 h fun x37 _=>aLoad x37 h fun x38 _=>aArith iadd x38 (AV.int 3 (Int.ofNat 1)) h fun x39 _=>aMM false x30 x39 h fun x40 _=>aIdxArr 1 9 x22 x28 h fun x41 _=>aStore x41 x40 h fun x42 h=>aNilCheck x24 h fun x43 _=>aField 1 x43 h fun x44 _=>aLoad x44 h fun x45 _=>aNilCheck x45 h fun x46 _=>aField 0 x46 h fun x47 _=>aLoad x47 h fun x48 _=>aNilCheck x24 h fun x49 _=>aField 1 x49 h fun x50 _=>aLoad x50 h fun x51 _=>aNilCheck x51 h fun x52 _=>(c_impl_distances_nearer_j1 F g kc5) [x22,x23,x24,x25,x26,x27,x48,x52] h) (hd vs) (hd (tl vs)) (hd (tl (tl vs))) (hd (tl (tl (tl vs)))) (hd (tl (tl (tl (tl vs))))) (hd (tl (tl (tl (tl (tl vs)))))) (hd (tl (tl (tl (tl (tl (tl vs))))))) (hd (tl (tl (tl (tl (tl (tl (tl vs))))))))
noncomputable def c_impl_distances_nearer_l3 (F g:Nat):List AV->H->(List AV->H->Option R)->Option R:=fun vs h kc5=>(fun x6 x7 x8 x9 x10=>aCmpI ilt x10 x9 h fun x11 h=>withBool x11 fun t12=>bc t12 (aIdxAddr 1 x8 x10 h fun x13 h=>aLoad x13 h fun x14 h=>aNilCheck x14 h fun x15 _=>aField 0 x15 h fun x16 _=>aLoad x16 h fun x17 _=>aNilCheck x14 h fun x18 _=>aField 0 x18 h fun x19 _=>aLoad x19 h fun x20 _=>aIdxArr 1 9 x6 x20 h fun x21 _=>(c_impl_distances_nearer_j2 F g kc5) [x6,x7,x14,x8,x9,x10,x17,x21] h) (aLoadN 9 x6 h fun x75 h=>aStoreN 9 x7 x75 h fun x76 h=>aLoadN 9 x7 h (fun x h=>some (x,h)))) (hd vs) (hd (tl vs)) (hd (tl (tl vs))) (hd (tl (tl (tl vs)))) (hd (tl (tl (tl (tl vs)))))
noncomputable def c_impl_distances_nearer (F g:Nat) (a0 a1:AV) (h:H):Option R:=aBox a0 h fun x1 h=>aAlloc [(AV.int 3 (Int.ofNat 0)),(AV.int 3 (Int.ofNat 0)),(AV.int 3 (Int.ofNat 0)),(AV.int 3 (Int.ofNat 0)),(AV.int 3 (Int.ofNat 0)),(AV.int 3 (Int.ofNat 0)),(AV.int 3 (Int.ofNat 0)),(AV.int 3 (Int.ofNat 0)),(AV.int 3 (Int.ofNat 0))] h fun x2 h=>aSliceV 1 a1 (some (AV.int 3 (Int.ofNat 1))) none none h fun x3 h=>aLenK 1 x3 h fun x4 h=>loopD F (c_impl_distances_nearer_l3 F g) [x1,x2,x3,x4,(AV.int 3 (Int.ofNat 0))] h
theorem k_impl_distances_nearer (F g:Nat) (a0 a1:AV) (h:H):callC prog (fun _ _ _=>none:Env) 63 F (bodyOf f75) 4 80 (.two .o (.two (.two .o (.two (.at_ [2,4,8,9,10] (.two .o (.two (.two .o .o) (.two (.two (.two .o (.two (.skip (.skip (.skip (.skip (.skip (.skip (.skip (.skip (.skip (.cut [2,4,6,8,9,10,17,22] .o)))))))))) (.skip (.skip (.skip (.skip (.skip (.skip (.skip (.skip (.skip (.skip (.skip (.skip (.cut [2,4,6,8,9,10,42,47] .o))))))))))))))) .o) .o))) .o) .o)) (.two .o .o))) [a0,a1] h=c_impl_distances_nearer F g a0 a1 h:=by kernel_rfl
theorem co_impl_distances_nearer (F g:Nat):∀args h r,u2 (c_impl_distances_nearer F g) args h=some r->CoTri prog tW Post main (fk,true) 75 args h r:=by
 intro args h r e;obtain ⟨a0,a1,rfl,e1⟩:=zafv e;exact zatc func75 rfl rfl rfl ntmps75 (by kernel_rfl) (CoSound.none _ _ _ _ _) ((k_impl_distances_nearer F g a0 a1 h).trans e1)
noncomputable def c_impl_node_distances_l1 (F g:Nat):List AV->H->(List AV->H->Option R)->Option R:=fun vs h kc30=>(fun x31 x32 x33=>aLoadN 9 x33 h fun x34 h=>bindR (c_impl_distances_nearer F g x34 x32 h) fun x35 h=>aAlloc [(AV.int 3 (Int.ofNat 0)),(AV.int 3 (Int.ofNat 0)),(AV.int 3 (Int.ofNat 0)),(AV.int 3 (Int.ofNat 0)),(AV.int 3 (Int.ofNat 0)),(AV.int 3 (Int.ofNat 0)),(AV.int 3 (Int.ofNat 0)),(AV.int 3 (Int.ofNat 0)),(AV.int 3 (Int.ofNat 0))] h fun x36 h=>aStoreN 9 x36 x35 h fun x37 h=>aLoadN 9 x36 h fun x38 h=>aLoadN 9 x33 h fun x39 h=>aEqA false 9 x38 x39 h fun x40 h=>withBool x40 fun t41=>bc t41 (aLoadN 9 x33 h fun x42 h=>aStoreN 9 x31 x42 h fun x43 h=>aLoadN 9 x31 h (fun x h=>some (x,h))) (aLoadN 9 x36 h fun x44 h=>aStoreN 9 x33 x44 h fun x45 h=>kc30 [x31,x32,x33] h)) (hd vs) (hd (tl vs)) (hd (tl (tl vs)))
noncomputable def c_impl_node_distances_l2 (F g:Nat):List AV->H->(List AV->H->Option R)->Option R:=fun vs h kc6=>(fun x7 x8 x9 x10 x11 x12 x13=>aCmpI ilt x13 x12 h fun x14 h=>withBool x14 fun t15=>bc t15 (aIdxAddr 1 x11 x13 h fun x16 h=>aLoad x16 h fun x17 h=>aNilCheck x17 h fun x18 h=>aField 0 x18 h fun x19 h=>aLoad x19 h fun x20 h=>aLenK 1 x9 h fun x21 h=>aIdxArr 1 9 x10 x20 h fun x22 h=>aStore x22 x21 h fun x23 h=>aArith iadd x13 (AV.int 3 (Int.ofNat 1)) h fun x24 h=>kc6 [x7,x8,x9,x10,x11,x12,x24] h) (aNilCheck x7 h fun x25 h=>aField 0 x25 h fun x26 h=>aLoad x26 h fun x27 h=>aIdxArr 1 9 x10 x27 h fun x28 h=>aStore x28 (AV.int 3 (Int.ofNat 0)) h fun x29 h=>loopD F (c_impl_node_distances_l1 F g) [x8,x9,x10] h)) (hd vs) (hd (tl vs)) (hd (tl (tl vs))) (hd (tl (tl (tl vs)))) (hd (tl (tl (tl (tl vs))))) (hd (tl (tl (tl (tl (tl vs)))))) (hd (tl (tl (tl (tl (tl (tl vs)))))))
noncomputable def c_impl_node_distances (F g:Nat) (a0:AV) (h:H):Option R:=aAlloc [(AV.int 3 (Int.ofNat 0)),(AV.int 3 (Int.ofNat 0)),(AV.int 3 (Int.ofNat 0)),(AV.int 3 (Int.ofNat 0)),(AV.int 3 (Int.ofNat 0)),(AV.int 3 (Int.ofNat 0)),(AV.int 3 (Int.ofNat 0)),(AV.int 3 (Int.ofNat 0)),(AV.int 3 (Int.ofNat 0))] h fun x1 h=>bindR (c_impl_node_root F g a0 h) fun x2 h=>bindR (c_impl_node_nodes F g x2 h) fun x3 h=>aAlloc [(AV.int 3 (Int.ofNat 0)),(AV.int 3 (Int.ofNat 0)),(AV.int 3 (Int.ofNat 0)),(AV.int 3 (Int.ofNat 0)),(AV.int 3 (Int.ofNat 0)),(AV.int 3 (Int.ofNat 0)),(AV.int 3 (Int.ofNat 0)),(AV.int 3 (Int.ofNat 0)),(AV.int 3 (Int.ofNat 0))] h fun x4 h=>aLenK 1 x3 h fun x5 h=>loopD F (c_impl_node_distances_l2 F g) [a0,x1,x3,x4,x3,x5,(AV.int 3 (Int.ofNat 0))] h
theorem k_impl_node_distances (F g:Nat) (a0:AV) (h:H):callC prog (Env.add (Env.add (Env.add (fun _ _ _=>none:Env) 74 (u1 (c_impl_node_root F g))) 39 (u1 (c_impl_node_nodes F g))) 75 (u2 (c_impl_distances_nearer F g))) 38 F (bodyOf f52) 2 80 (.two .o (.two .o (.two .o (.two (.two .o (.two (.at_ [0,2,3,4,11,12,13] (.two .o (.two (.two .o .o) (.two (.two (.two .o .o) .o) .o))) .o) .o)) (.two .o (.two (.at_ [2,3,4] (.two (.two .o (.two (.two .o (.two (.two .o .o) .o)) .o)) .o) .o) .o)))))) [a0] h=c_impl_node_distances F g a0 h:=by kernel_rfl
theorem co_impl_node_distances (F g:Nat):∀args h r,u1 (c_impl_node_distances F g) args h=some r->CoTri prog tW Post main (fk,true) 52 args h r:=by
 intro args h r e;obtain ⟨a0,rfl,e1⟩:=zae6 e;exact zatc func52 rfl rfl rfl ntmps52 (by kernel_rfl) (CoSound.add (CoSound.add (CoSound.add (CoSound.none _ _ _ _ _) (co_impl_node_root F g)) (co_impl_node_nodes F g)) (co_impl_distances_nearer F g)) ((k_impl_node_distances F g a0 h).trans e1)
noncomputable def c_slices_Max_fd8e_l1 (F g:Nat):List AV->H->(List AV->H->Option R)->Option R:=fun vs h kc4=>(fun x5 x6 x7=>aLenK 1 x5 h fun x8 h=>aCmpI ilt x7 x8 h fun x9 h=>withBool x9 fun t10=>bc t10 (aIdxAddr 1 x5 x7 h fun x11 h=>aLoad x11 h fun x12 h=>aMM true x6 x12 h fun x13 h=>aArith iadd x7 (AV.int 3 (Int.ofNat 1)) h fun x14 h=>kc4 [x5,x13,x14] h) (some (x6,h))) (hd vs) (hd (tl vs)) (hd (tl (tl vs)))
noncomputable def c_slices_Max_fd8e_j2 (F g:Nat) (vs:List AV) (h:H):Option R:=(fun x1=>aIdxAddr 1 x1 (AV.int 3 (Int.ofNat 0)) h fun x2 h=>aLoad x2 h fun x3 h=>loopD F (c_slices_Max_fd8e_l1 F g) [x1,x3,(AV.int 3 (Int.ofNat 1))] h) (hd vs)
noncomputable def c_slices_Max_fd8e (F g:Nat) (a0:AV) (h:H):Option R:=aLenK 1 a0 h fun x15 h=>aCmpI ilt x15 (AV.int 3 (Int.ofNat 1)) h fun x16 h=>withBool x16 fun t17=>bc t17 (aMkIface 9 (AV.str [115,108,105,99,101,115,46,77,97,120,58,32,101,109,112,116,121,32,108,105,115,116] 22) h fun x18 h=>none) ((c_slices_Max_fd8e_j2 F g) [a0] h)
theorem k_slices_Max_fd8e (F g:Nat) (a0:AV) (h:H):callD prog (fun _ _ _=>none:Env) 25 F (bodyOf f35) [2] (.two .o (.at_ [0] (.two .o (.two .o .o)) (.two .o (.two (.two .o (.two (.at_ [0,3,4] (.two (.two .o (.two .o .o)) (.two (.two .o .o) .o)) .o) .o)) (.two .o .o))))) [a0] h=c_slices_Max_fd8e F g a0 h:=by kernel_rfl
theorem co_slices_Max_fd8e (F g:Nat):∀args h r,u1 (c_slices_Max_fd8e F g) args h=some r->CoTri prog tW Post main (fk,true) 35 args h r:=by
 intro args h r e;obtain ⟨a0,rfl,e1⟩:=zae6 e;exact zabz func35 rfl rfl rfl ntmps35 (by kernel_rfl) (CoSound.none _ _ _ _ _) ((k_slices_Max_fd8e F g a0 h).trans e1)
noncomputable def c_impl_node_reach (F g:Nat) (a0:AV) (h:H):Option R:=bindR (c_impl_node_distances F g a0 h) fun x1 h=>aAlloc [(AV.int 3 (Int.ofNat 0)),(AV.int 3 (Int.ofNat 0)),(AV.int 3 (Int.ofNat 0)),(AV.int 3 (Int.ofNat 0)),(AV.int 3 (Int.ofNat 0)),(AV.int 3 (Int.ofNat 0)),(AV.int 3 (Int.ofNat 0)),(AV.int 3 (Int.ofNat 0)),(AV.int 3 (Int.ofNat 0))] h fun x2 h=>aStoreN 9 x2 x1 h fun x3 h=>aSliceA 1 9 x2 none none none h fun x4 h=>bindR (c_slices_Max_fd8e F g x4 h) fun x5 h=>some (x5,h)
theorem k_impl_node_reach (F g:Nat) (a0:AV) (h:H):callD prog (Env.add (Env.add (fun _ _ _=>none:Env) 52 (u1 (c_impl_node_distances F g))) 35 (u1 (c_slices_Max_fd8e F g))) 8 F (bodyOf f30) [2] (.two .o (.two .o (.two .o .o))) [a0] h=c_impl_node_reach F g a0 h:=by kernel_rfl
theorem co_impl_node_reach (F g:Nat):∀args h r,u1 (c_impl_node_reach F g) args h=some r->CoTri prog tW Post main (fk,true) 30 args h r:=by
 intro args h r e;obtain ⟨a0,rfl,e1⟩:=zae6 e;exact zabz func30 rfl rfl rfl ntmps30 (by kernel_rfl) (CoSound.add (CoSound.add (CoSound.none _ _ _ _ _) (co_impl_node_distances F g)) (co_slices_Max_fd8e F g)) ((k_impl_node_reach F g a0 h).trans e1)
noncomputable def c_impl_node_size (F g:Nat) (a0:AV) (h:H):Option R:=bindR (c_impl_node_nodes F g a0 h) fun x1 h=>aLenK 1 x1 h fun x2 h=>some (x2,h)
theorem k_impl_node_size (F g:Nat) (a0:AV) (h:H):callD prog (Env.add (fun _ _ _=>none:Env) 39 (u1 (c_impl_node_nodes F g))) 6 F (bodyOf f59) [2] (.two .o (.two .o .o)) [a0] h=c_impl_node_size F g a0 h:=by kernel_rfl
theorem co_impl_node_size (F g:Nat):∀args h r,u1 (c_impl_node_size F g) args h=some r->CoTri prog tW Post main (fk,true) 59 args h r:=by
 intro args h r e;obtain ⟨a0,rfl,e1⟩:=zae6 e;exact zabz func59 rfl rfl rfl ntmps59 (by kernel_rfl) (CoSound.add (CoSound.none _ _ _ _ _) (co_impl_node_nodes F g)) ((k_impl_node_size F g a0 h).trans e1)
abbrev G_counts (F g:Nat):Env:=(Env.add (Env.add (fun _ _ _=>none:Env) 30 (u1 (c_impl_node_reach F g))) 59 (u1 (c_impl_node_size F g)))
noncomputable def c_impl_node_counts (F g:Nat) (a0 a1:AV) (h:H):Option R:=onSome (cts (G_counts F g) h.fz a1 12 a0) fun L=>some (resC h.fz L)
theorem co_impl_node_counts (F g:Nat):∀args h r,u2 (c_impl_node_counts F g) args h=some r->CoTri prog tW Post main (none,false) n_c args h r:=by
 intro args h r e;obtain ⟨a0,a1,rfl,e1⟩:=zafv e
 obtain ⟨L,e2,e3⟩:=zaay e1
 cases e3
 exact zaqg (G:=G_counts F g) (fun main k=>(CoSound.add (CoSound.add (CoSound.none _ _ _ _ _) (co_impl_node_reach F g)) (co_impl_node_size F g))) rfl e2
noncomputable def c_impl_countsIn (F g:Nat) (a0 a1:AV) (h:H):Option R:=bindR (c_impl_readTree F g a0 h) fun x1 h=>aExtract x1 0 h fun x2 h=>aExtract x1 1 h fun x3 h=>aNot x3 h fun x4 h=>withBool x4 fun t5=>bc t5 (some (AV.one .tup (AV.cons (AV.leaf .nils) (AV.cons (AV.bool false) (AV.leaf .nil))),h)) (bindR (c_impl_node_counts F g x2 a1 h) fun x6 h=>some (AV.one .tup (AV.cons x6 (AV.cons (AV.bool true) (AV.leaf .nil))),h))
theorem k_impl_countsIn (F g:Nat) (a0 a1:AV) (h:H):callD prog (Env.add (Env.add (fun _ _ _=>none:Env) 27 (u1 (c_impl_readTree F g))) 51 (u2 (c_impl_node_counts F g))) 18 F (bodyOf f29) [4,5] (.two .o (.two .o (.two (.two .o (.two (.two .o .o) .o)) (.two .o .o)))) [a0,a1] h=c_impl_countsIn F g a0 a1 h:=by kernel_rfl
theorem co_impl_countsIn (F g:Nat):∀args h r,u2 (c_impl_countsIn F g) args h=some r->CoTri prog tW Post main (none,false) 29 args h r:=by
 intro args h r e;obtain ⟨a0,a1,rfl,e1⟩:=zafv e;exact zabz func29 rfl rfl rfl ntmps29 (by kernel_rfl) (CoSound.add (CoSound.add (CoSound.none _ _ _ _ _) (wk_impl_readTree F g)) (co_impl_node_counts F g)) ((k_impl_countsIn F g a0 a1 h).trans e1)
noncomputable def c_spec_l1Depths_j1 (F g:Nat) (kc2:List AV->H->Option R) (vs:List AV) (h:H):Option R:=(fun x10 x11 x12 x13=>aArith iadd x13 (AV.int 3 (Int.ofNat 1)) h fun x14 h=>kc2 [x10,x11,x12,x14] h) (hd vs) (hd (tl vs)) (hd (tl (tl vs))) (hd (tl (tl (tl vs))))
noncomputable def c_spec_l1Depths_l2 (F g:Nat):List AV->H->(List AV->H->Option R)->Option R:=fun vs h kc2=>(fun x3 x4 x5 x6=>aLenK 0 x3 h fun x7 h=>aCmpI ilt x6 x7 h fun x8 h=>withBool x8 fun t9=>bc t9 (aIdxStr x3 x6 h fun x15 h=>aCmpI ieq x15 (AV.int 4 (Int.ofNat 40)) h fun x16 h=>withBool x16 fun t17=>bc t17 (aBuildSlice 1 1 [(0,1,x5)] h fun x18 h=>aAppend 1 8 x4 x18 h fun x19 h=>aArith iadd x5 (AV.int 3 (Int.ofNat 1)) h fun x20 h=>(c_spec_l1Depths_j1 F g kc2) [x3,x19,x20,x6] h) (aArith isub x5 (AV.int 3 (Int.ofNat 1)) h fun x21 h=>(c_spec_l1Depths_j1 F g kc2) [x3,x4,x21,x6] h)) (some (x4,h))) (hd vs) (hd (tl vs)) (hd (tl (tl vs))) (hd (tl (tl (tl vs))))
noncomputable def c_spec_l1Depths (F g:Nat) (a0:AV) (h:H):Option R:=aBuildSlice 0 1 [] h fun x1 h=>loopD F (c_spec_l1Depths_l2 F g) [a0,x1,(AV.int 3 (Int.ofNat 0)),(AV.int 3 (Int.ofNat 0))] h
theorem k_spec_l1Depths (F g:Nat) (a0:AV) (h:H):callD prog (fun _ _ _=>none:Env) 26 F (bodyOf f61) [2] (.two .o (.two .o (.two .o (.two (.two .o (.two (.at_ [0,3,4,5] (.two (.two .o (.two .o .o)) (.at_ [0,3,4,5] (.two (.two .o (.two (.two .o .o) .o)) .o) .o)) .o) .o)) (.two .o .o))))) [a0] h=c_spec_l1Depths F g a0 h:=by kernel_rfl
theorem co_spec_l1Depths (F g:Nat):∀args h r,u1 (c_spec_l1Depths F g) args h=some r->CoTri prog tW Post main (fk,true) 61 args h r:=by
 intro args h r e;obtain ⟨a0,rfl,e1⟩:=zae6 e;exact zabz func61 rfl rfl rfl ntmps61 (by kernel_rfl) (CoSound.none _ _ _ _ _) ((k_spec_l1Depths F g a0 h).trans e1)
noncomputable def c_spec_l1Up_j1 (F g:Nat) (kc3:List AV->H->Option R) (kc11:List AV->H->Option R) (vs:List AV) (h:H):Option R:=(fun x17 x18 x19 x20 x21 x22=>aPick x21 x22 (AV.bool false) h fun x23 _=>withBool x23 fun t24=>bc t24 (aArith isub x20 (AV.int 3 (Int.ofNat 1)) h fun x25 h=>kc11 [x17,x18,x19,x25] h) (aBuildSlice 1 1 [(0,1,x20)] h fun x26 h=>aAppend 1 8 x18 x26 h fun x27 h=>aArith iadd x19 (AV.int 3 (Int.ofNat 1)) h fun x28 h=>kc3 [x17,x27,x28] h)) (hd vs) (hd (tl vs)) (hd (tl (tl vs))) (hd (tl (tl (tl vs)))) (hd (tl (tl (tl (tl vs))))) (hd (tl (tl (tl (tl (tl vs))))))
noncomputable def c_spec_l1Up_l2 (F g:Nat) (kc3:List AV->H->Option R):List AV->H->(List AV->H->Option R)->Option R:=fun vs h kc11=>(fun x12 x13 x14 x15=>aCmpI (fun a b=>ile b a) x15 (AV.int 3 (Int.ofNat 0)) h fun x16 _=>guardB true x16 (aIdxAddr 1 x12 x15 h fun x29 _=>aLoad x29 h fun x30 _=>aIdxAddr 1 x12 x14 h fun x31 _=>aLoad x31 h fun x32 _=>aCmpI (fun a b=>ile b a) x30 x32 h fun x33 _=>(c_spec_l1Up_j1 F g kc3 kc11) [x12,x13,x14,x15,x16,x33] h) ((c_spec_l1Up_j1 F g kc3 kc11) [x12,x13,x14,x15,x16,(AV.one .tup (AV.leaf .nil))] h)) (hd vs) (hd (tl vs)) (hd (tl (tl vs))) (hd (tl (tl (tl vs))))
noncomputable def c_spec_l1Up_l3 (F g:Nat):List AV->H->(List AV->H->Option R)->Option R:=fun vs h kc3=>(fun x4 x5 x6=>aLenK 1 x4 h fun x7 h=>aCmpI ilt x6 x7 h fun x8 h=>withBool x8 fun t9=>bc t9 (aArith isub x6 (AV.int 3 (Int.ofNat 1)) h fun x10 h=>loopD F (c_spec_l1Up_l2 F g kc3) [x4,x5,x6,x10] h) (some (x5,h))) (hd vs) (hd (tl vs)) (hd (tl (tl vs)))
noncomputable def c_spec_l1Up (F g:Nat) (a0:AV) (h:H):Option R:=bindR (c_spec_l1Depths F g a0 h) fun x1 h=>aBuildSlice 0 1 [] h fun x2 h=>loopD F (c_spec_l1Up_l3 F g) [x1,x2,(AV.int 3 (Int.ofNat 0))] h
theorem k_spec_l1Up (F g:Nat) (a0:AV) (h:H):callD prog (Env.add (fun _ _ _=>none:Env) 61 (u1 (c_spec_l1Depths F g))) 38 F (bodyOf f40) [2] (.two .o (.two .o (.two .o (.two (.two .o (.two (.at_ [3,4,5] (.two (.two .o (.two .o .o)) (.two (.two (.two .o (.two (.two (.at_ [3,4,5,6] (.two (.two (.at_ [3,4,5,6,20,29] .o .o) (.two .o .o)) (.two .o .o)) .o) .o) .o)) .o) .o)) .o) .o)) (.two .o .o))))) [a0] h=c_spec_l1Up F g a0 h:=by kernel_rfl
theorem co_spec_l1Up (F g:Nat):∀args h r,u1 (c_spec_l1Up F g) args h=some r->CoTri prog tW Post main (fk,true) 40 args h r:=by
 intro args h r e;obtain ⟨a0,rfl,e1⟩:=zae6 e;exact zabz func40 rfl rfl rfl ntmps40 (by kernel_rfl) (CoSound.add (CoSound.none _ _ _ _ _) (co_spec_l1Depths F g)) ((k_spec_l1Up F g a0 h).trans e1)
noncomputable def c_spec_l6mFar_j1 (F g:Nat) (kc13:List AV->H->Option R) (vs:List AV) (h:H):Option R:=(fun x24 x25 x26 x27 x28 x29 x30 x31=>aArith iadd x31 (AV.int 3 (Int.ofNat 1)) h fun x32 h=>kc13 [x24,x25,x26,x27,x28,x29,x30,x32] h) (hd vs) (hd (tl vs)) (hd (tl (tl vs))) (hd (tl (tl (tl vs)))) (hd (tl (tl (tl (tl vs))))) (hd (tl (tl (tl (tl (tl vs)))))) (hd (tl (tl (tl (tl (tl (tl vs))))))) (hd (tl (tl (tl (tl (tl (tl (tl vs))))))))
noncomputable def c_spec_l6mFar_l2 (F g:Nat) (kc4:List AV->H->Option R):List AV->H->(List AV->H->Option R)->Option R:=fun vs h kc13=>(fun x14 x15 x16 x17 x18 x19 x20 x21=>aCmpI (fun a b=>bnot (ieq a b)) x19 x20 h fun x22 h=>withBool x22 fun t23=>bc t23 (aIdxAddr 1 x16 x19 h fun x33 _=>aLoad x33 h fun x34 _=>aIdxAddr 1 x16 x20 h fun x35 _=>aLoad x35 h fun x36 _=>aCmpI (fun a b=>ile b a) x34 x36 h fun x37 _=>withBool x37 fun t38=>bc t38 (aIdxAddr 1 x15 x19 h fun x39 h=>aLoad x39 h fun x40 h=>(c_spec_l6mFar_j1 F g kc13) [x14,x15,x16,x17,x18,x40,x20,x21] h) (aIdxAddr 1 x15 x20 h fun x41 h=>aLoad x41 h fun x42 h=>(c_spec_l6mFar_j1 F g kc13) [x14,x15,x16,x17,x18,x19,x42,x21] h)) (aBuildSlice 1 1 [(0,1,x21)] h fun x43 h=>aAppend 1 8 x17 x43 h fun x44 h=>aArith iadd x18 (AV.int 3 (Int.ofNat 1)) h fun x45 h=>kc4 [x14,x15,x16,x44,x45] h)) (hd vs) (hd (tl vs)) (hd (tl (tl vs))) (hd (tl (tl (tl vs)))) (hd (tl (tl (tl (tl vs))))) (hd (tl (tl (tl (tl (tl vs)))))) (hd (tl (tl (tl (tl (tl (tl vs))))))) (hd (tl (tl (tl (tl (tl (tl (tl vs))))))))
noncomputable def c_spec_l6mFar_l3 (F g:Nat):List AV->H->(List AV->H->Option R)->Option R:=fun vs h kc4=>(fun x5 x6 x7 x8 x9=>aLenK 1 x6 h fun x10 h=>aCmpI ilt x9 x10 h fun x11 h=>withBool x11 fun t12=>bc t12 (loopD F (c_spec_l6mFar_l2 F g kc4) [x5,x6,x7,x8,x9,x5,x9,(AV.int 3 (Int.ofNat 0))] h) (some (x8,h))) (hd vs) (hd (tl vs)) (hd (tl (tl vs))) (hd (tl (tl (tl vs)))) (hd (tl (tl (tl (tl vs)))))
noncomputable def c_spec_l6mFar (F g:Nat) (a0 a1:AV) (h:H):Option R:=bindR (c_spec_l1Up F g a0 h) fun x1 h=>bindR (c_spec_l1Depths F g a0 h) fun x2 h=>aBuildSlice 0 1 [] h fun x3 h=>loopD F (c_spec_l6mFar_l3 F g) [a1,x1,x2,x3,(AV.int 3 (Int.ofNat 0))] h
theorem k_spec_l6mFar (F g:Nat) (a0 a1:AV) (h:H):callD prog (Env.add (Env.add (fun _ _ _=>none:Env) 40 (u1 (c_spec_l1Up F g))) 61 (u1 (c_spec_l1Depths F g))) 52 F (bodyOf f78) [4] (.two .o (.two .o (.two .o (.two .o (.two (.two .o (.two (.at_ [1,5,6,7,8] (.two (.two .o (.two .o .o)) (.two (.two (.two .o (.two .o (.two .o (.two (.two (.at_ [1,5,6,7,8,9,10,11] (.two (.two .o (.two .o .o)) (.two (.at_ [1,5,6,7,8,9,10,11] (.two .o (.two .o .o)) .o) .o)) .o) .o) .o)))) .o) .o)) .o) .o)) (.two .o .o)))))) [a0,a1] h=c_spec_l6mFar F g a0 a1 h:=by kernel_rfl
theorem co_spec_l6mFar (F g:Nat):∀args h r,u2 (c_spec_l6mFar F g) args h=some r->CoTri prog tW Post main (fk,true) 78 args h r:=by
 intro args h r e;obtain ⟨a0,a1,rfl,e1⟩:=zafv e;exact zabz func78 rfl rfl rfl ntmps78 (by kernel_rfl) (CoSound.add (CoSound.add (CoSound.none _ _ _ _ _) (co_spec_l1Up F g)) (co_spec_l1Depths F g)) ((k_spec_l6mFar F g a0 a1 h).trans e1)
noncomputable def c_spec_l1Most_l1 (F g:Nat):List AV->H->(List AV->H->Option R)->Option R:=fun vs h kc1=>(fun x2 x3 x4=>aLenK 1 x2 h fun x5 h=>aCmpI ilt x4 x5 h fun x6 h=>withBool x6 fun t7=>bc t7 (aIdxAddr 1 x2 x4 h fun x8 h=>aLoad x8 h fun x9 h=>aMM true x3 x9 h fun x10 h=>aArith iadd x4 (AV.int 3 (Int.ofNat 1)) h fun x11 h=>kc1 [x2,x10,x11] h) (some (x3,h))) (hd vs) (hd (tl vs)) (hd (tl (tl vs)))
noncomputable def c_spec_l1Most (F g:Nat) (a0:AV) (h:H):Option R:=loopD F (c_spec_l1Most_l1 F g) [a0,(AV.int 3 (Int.ofNat 0)),(AV.int 3 (Int.ofNat 0))] h
theorem k_spec_l1Most (F g:Nat) (a0:AV) (h:H):callD prog (fun _ _ _=>none:Env) 18 F (bodyOf f77) [2] (.two .o (.two .o (.two (.two .o (.two (.at_ [0,3,4] (.two (.two .o (.two .o .o)) (.two (.two .o .o) .o)) .o) .o)) (.two .o .o)))) [a0] h=c_spec_l1Most F g a0 h:=by kernel_rfl
theorem co_spec_l1Most (F g:Nat):∀args h r,u1 (c_spec_l1Most F g) args h=some r->CoTri prog tW Post main (fk,true) 77 args h r:=by
 intro args h r e;obtain ⟨a0,rfl,e1⟩:=zae6 e;exact zabz func77 rfl rfl rfl ntmps77 (by kernel_rfl) (CoSound.none _ _ _ _ _) ((k_spec_l1Most F g a0 h).trans e1)
noncomputable def c_spec_l6mReach_l1 (F g:Nat):List AV->H->(List AV->H->Option R)->Option R:=fun vs h kc2=>(fun x3 x4 x5=>aLenK 0 x3 h fun x6 h=>aQuo x6 (AV.int 3 (Int.ofNat 2)) h fun x7 h=>aCmpI ilt x5 x7 h fun x8 h=>withBool x8 fun t9=>bc t9 (bindR (c_spec_l6mFar F g x3 x5 h) fun x10 h=>bindR (c_spec_l1Most F g x10 h) fun x11 h=>aBuildSlice 1 1 [(0,1,x11)] h fun x12 h=>aAppend 1 8 x4 x12 h fun x13 h=>aArith iadd x5 (AV.int 3 (Int.ofNat 1)) h fun x14 h=>kc2 [x3,x13,x14] h) (some (x4,h))) (hd vs) (hd (tl vs)) (hd (tl (tl vs)))
noncomputable def c_spec_l6mReach (F g:Nat) (a0:AV) (h:H):Option R:=aBuildSlice 0 1 [] h fun x1 h=>loopD F (c_spec_l6mReach_l1 F g) [a0,x1,(AV.int 3 (Int.ofNat 0))] h
theorem k_spec_l6mReach (F g:Nat) (a0:AV) (h:H):callD prog (Env.add (Env.add (fun _ _ _=>none:Env) 78 (u2 (c_spec_l6mFar F g))) 77 (u1 (c_spec_l1Most F g))) 21 F (bodyOf f57) [2] (.two .o (.two .o (.two (.two .o (.two (.at_ [0,3,4] (.two (.two .o (.two .o .o)) (.two (.two .o .o) .o)) .o) .o)) (.two .o .o)))) [a0] h=c_spec_l6mReach F g a0 h:=by kernel_rfl
theorem co_spec_l6mReach (F g:Nat):∀args h r,u1 (c_spec_l6mReach F g) args h=some r->CoTri prog tW Post main (fk,true) 57 args h r:=by
 intro args h r e;obtain ⟨a0,rfl,e1⟩:=zae6 e;exact zabz func57 rfl rfl rfl ntmps57 (by kernel_rfl) (CoSound.add (CoSound.add (CoSound.none _ _ _ _ _) (co_spec_l6mFar F g)) (co_spec_l1Most F g)) ((k_spec_l6mReach F g a0 h).trans e1)
end
end Go.AI.T.R
namespace Go.AI.T
open Go Go.RowKit Go.AI
noncomputable section
def tb0 (l:List Nat):Bool:=isRowT (R.c_impl_countsIn 2097152 20 (.str l (lenL l)) (.func (.func 30) (.leaf .nil) (.leaf .nil)) H0) (reachL l)
def tb1 (l:List Nat):Bool:=isRowT (R.c_impl_countsIn 2097152 20 (.str l (lenL l)) (.func (.func 59) (.leaf .nil) (.leaf .nil)) H0) (sizesL l)
def tb2 (l:List Nat):Bool:=isRowB (R.c_spec_l6mReach 2097152 20 (.str l (lenL l)) H0) (reachL l)
def ok_Tab0 (l:List Nat):Bool:=bc (tb0 l) (bc (tb1 l) (tb2 l) false) false
def ok_Tab (l:List Nat):Bool:=bc (Nat.ble (lenL l) 16) (ok_Tab0 l) true
end
end Go.AI.T
namespace Go.AI.T
open Go Go.RowKit Go.AI
noncomputable section
def takeR (k:Nat) (l:List (List Nat)):List (List Nat):=l.take k
def allL (t:List Nat->Bool) (l:List (List Nat)):Bool:=@List.rec (List Nat) (fun _=>Bool) true (fun x _ r=>bc (t (40::x)) r false) l
def okS (t:List Nat->Bool) (k i:Nat):Bool:=allL t (((rests 17 1 1).drop (k * i)).take k)
def okL (t:List Nat->Bool) (k a n:Nat):Bool:=@Nat.rec (fun _=>Nat->Bool) (fun _=>true) (fun _ r a=>bc (okS t k a) (r (a+1)) false) n a
theorem cc {t:List Nat->Bool} {k a n:Nat} (h1:okS t k a=true) (h2:okL t k (a+1) n=true):okL t k a (n+1)=true:=by
 show bc (okS t k a) (okL t k (a+1) n) false=true
 rw [h1,h2];rfl
theorem okL_mem {t:List Nat->Bool} {k:Nat}:∀{n a:Nat},okL t k a n=true->∀i,a<=i->i<a+n->okS t k i=true
 | 0,a,_,i,h1,h2=>by omega
 | n+1,a,h,i,h1,h2=>by
  have h:bc (okS t k a) (okL t k (a+1) n) false=true:=h
  cases h3:okS t k a with
  | false=>rw [h3] at h;cases h
  | true=>
   rw [h3,bc_true] at h
   by_cases e:i=a
   · subst e;exact h3
   · exact okL_mem h i (by omega) (by omega)
theorem allL_mem {t:List Nat->Bool}:∀{l:List (List Nat)},allL t l=true->∀x∈l,t (40::x)=true
 | [],_,x,hx=>by cases hx
 | y::l,h,x,hx=>by
  have h:bc (t (40::y)) (allL t l) false=true:=h
  cases h1:t (40::y) with
  | false=>rw [h1] at h;cases h
  | true=>
   rw [h1,bc_true] at h
   rcases List.mem_cons.1 hx with rfl | hx
   · exact h1
   · exact allL_mem h x hx
theorem nTrees:(rests 17 1 1).length=2056:=by kernel_rfl
theorem okS_all {t:List Nat->Bool} {k K:Nat} (hk:0<k) (hK:2056<=k * K) (h:∀i,i<K->okS t k i=true) {l:List Nat} (ht:isTree l=true):t l=true:=by
 obtain ⟨r,hr,rfl⟩:=List.mem_map.1 (zat8 ht)
 obtain ⟨j,hj,hjr⟩:=List.getElem_of_mem hr
 have hj2:j<2056:=by rw [<- nTrees];exact hj
 have hi:j / k<K:=Nat.div_lt_of_lt_mul (by omega)
 refine allL_mem (h (j / k) hi) r ?_
 have e:=Nat.div_add_mod j k
 have hm:=Nat.mod_lt j hk
 rw [List.mem_iff_getElem?]
 refine ⟨j % k,?_⟩
 rw [List.getElem?_take,if_pos hm,List.getElem?_drop,e,List.getElem?_eq_getElem hj,hjr]
end
end Go.AI.T
