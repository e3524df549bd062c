/- countsIn and what else is given by tables. -/
import Derived.Test.YtecliakkmgoglaaGreatDoorTabEv
import Derived.KernelRfl
set_option linter.unusedVariables false
set_option linter.unusedSimpArgs false
set_option maxRecDepth 100000
namespace Go.AI.T
open Go Go.RowKit Go.AI Go.Conc Go.Co Go.Co.Cnt
noncomputable section
theorem tab_ok {l:List Nat} (ht:isTree l=true) (hl:Nat.ble (lenL l) 16=true):ok_Tab0 l=true:=by
 have h1:bc (Nat.ble (lenL l) 16) (ok_Tab0 l) true=true:=t_all ht
 rw [hl,bc_true] at h1;exact h1
theorem and_l {a b:Bool} (h:bc a b false=true):a=true:=by cases a;cases h;rfl
theorem and_r {a b:Bool} (h:bc a b false=true):b=true:=by cases a;cases h;exact h
theorem row1 {P:Program} {ty:TypeId} {Post:Value->World->Prop} {main:Bool} {q t:Bool} {fk:Option Fk} {f:FuncId} {args:List AV} {b:Nat} {L:List Int} {h':H} (T:CoTri P ty Post main (fk,q) f args H0 (rowV t b L,h')) (hb:h'.get b = .cells 0 (ints L)) (ha:∀(ι ι':Inj) vs,VL ι args vs->VL ι' args vs) (h:H):CoTri P ty Post main (fk,q) f args h (rowV t h.n L,rowH (gz q h) L):=
 ⟨T.can,fun ι w vs s hR hC hV hF hfk=>by
  obtain ⟨h1,x,s',w',h2⟩:=T.run _ w vs s (Rel.empty w) (zaig s) (ha _ _ _ hV) hF hfk
  exact ⟨h1.mono fun x s' w' p=>zan3 hR hC hb p,x,s',w',zan3 hR hC hb h2⟩⟩
theorem forget1 {P:Program} {ty:TypeId} {Post:Value->World->Prop} {main:Bool} {fk:Option Fk} {f:FuncId} {args:List AV} {v:AV} {h':H} (T:CoTri P ty Post main (fk,false) f args H0 (v,h')) (ha:∀(ι ι':Inj) vs,VL ι args vs->VL ι' args vs) (hv:v.plain=true) (h:H):CoTri P ty Post main (fk,false) f args h (v,h.fz):=
 ⟨T.can,fun ι w vs s hR hC hV hF hfk=>by
  have K:∀x s' w',PostC false (fun _=>none) H0 s w (v,h') x s' w'->PostC false ι h s w (v,h.fz) x s' w':=fun x s' w' ⟨ι',q1,q2,_,_,q5⟩=>by
   have kp:∀C,s.own C\/s.ro C->C<w.heap.size->w'.heap[C]?=w.heap[C]?:=fun C hC' hlt=>q2.block C (hC'.imp (fun x=>⟨x,zaid C⟩) id) hlt
   have r1:Rel ι h w':=zaeo hR q2.size fun c C o' z' e1=>kp C (hC.all c C o' z' e1) (hR.lt c C o' z' e1)
   refine ⟨ι,zacx hv q1,?_,r1.fz,⟨fun b B o z e1=>(hC.all b B o z e1).elim (q2.mineW B) fun k=>.inr (q2.roW B k),fun B hB=>absurd hB Own.fz⟩,q5⟩
   exact { le:=.refl _,os:=q2.os,tape:=q2.tape,output:=q2.output,size:=q2.size,kid:=q2.kid,fk:=q2.fk,ro:=q2.ro,mine:=q2.mine,roW:=q2.roW,mineW:=q2.mineW,newR:=q2.newR,new:=q2.new,block:=fun C hC' hlt=>kp C (hC'.imp (fun k=>k.1) id) hlt,own:=fun B hB=>absurd hB Own.fz,num:=Nat.le_refl _,lo:=Nat.zero_le _,keep:=fun c hc _=>absurd hc (Nat.not_lt_zero _),keepW:=fun c C o1 z1 _ _ _ e1=>kp C (hC.all c C o1 z1 e1) (hR.lt c C o1 z1 e1),dom:=fun b B o z e=>.inl ⟨b,o,z,e⟩ }
  obtain ⟨h1,x,s',w',h2⟩:=T.run _ w vs s (Rel.empty w) (zaig s) (ha _ _ _ hV) hF hfk
  exact ⟨h1.mono K,x,s',w',K _ _ _ h2⟩⟩
theorem vl_sf {l:List Nat} {n k:Nat} (ι ι':Inj) (vs:List Value) (h:VL ι [.str l n,.func (.func k) (.leaf .nil) (.leaf .nil)] vs):VL ι' [.str l n,.func (.func k) (.leaf .nil) (.leaf .nil)] vs:=by
 cases h with
 | cons h1 h=>
  cases h with
  | cons h2 h=>
   cases h
   exact .cons h1 (.cons h2 .nil)
theorem tb0_ok {l:List Nat} (ht:isTree l=true) (hl:Nat.ble (lenL l) 16=true):tb0 l=true:=and_l (tab_ok ht hl)
theorem tb1_ok {l:List Nat} (ht:isTree l=true) (hl:Nat.ble (lenL l) 16=true):tb1 l=true:=and_l (and_r (tab_ok ht hl))
theorem tb2_ok {l:List Nat} (ht:isTree l=true) (hl:Nat.ble (lenL l) 16=true):tb2 l=true:=and_r (and_r (tab_ok ht hl))
def c_impl_countsIn (F g:Nat) (a0 a1:AV) (h:H):Option R:=withStr a0 fun l n=>bc (Nat.beq (lenL l) n) (bc (isTree l) (bc (Nat.ble n 16) (bc (Nat.beq (fnNo a1) 30) (some (rowV true h.n (reachL l),rowH h.fz (reachL l))) (bc (Nat.beq (fnNo a1) 59) (some (rowV true h.n (sizesL l),rowH h.fz (sizesL l))) (none))) none) (bc (Nat.ble n 1048576) (bc (Nat.beq (fnNo a1) 30) (some (noRow,h.fz)) (bc (Nat.beq (fnNo a1) 59) (some (noRow,h.fz)) (none))) none)) none
theorem raw_bad (k:Nat) {l:List Nat} {n:Nat} (hn:lenL l=n) (hm:n<=1048576) (ht:isTree l=false):R.c_impl_countsIn 2097152 20 (.str l n) (.func (.func k) (.leaf .nil) (.leaf .nil)) H0=some (noRow,H0):=by
 delta R.c_impl_countsIn
 rw [zam7 hn hm ht,bindR_some',zat6,zaui,aNot_b,bnot_f,zaai,bc_true]
 try rfl
theorem counts_bad30 {F g:Nat} {l:List Nat} {n:Nat} (hn:lenL l=n) (hm:n<=1048576) (ht:isTree l=false) (h:H):c_impl_countsIn F g (.str l n) (.func (.func 30) (.leaf .nil) (.leaf .nil)) h=some (.one .tup (.cons (.leaf .nils) (.cons (.bool false) (.leaf .nil))),h.fz):=by
 show bc (Nat.beq (lenL l) n) (bc (isTree l) _ (bc (Nat.ble n 1048576) _ none)) none=_
 rw [hn,Nat.beq_refl,ht,zaau hm];kernel_rfl
theorem counts_bad59 {F g:Nat} {l:List Nat} {n:Nat} (hn:lenL l=n) (hm:n<=1048576) (ht:isTree l=false) (h:H):c_impl_countsIn F g (.str l n) (.func (.func 59) (.leaf .nil) (.leaf .nil)) h=some (.one .tup (.cons (.leaf .nils) (.cons (.bool false) (.leaf .nil))),h.fz):=by
 show bc (Nat.beq (lenL l) n) (bc (isTree l) _ (bc (Nat.ble n 1048576) _ none)) none=_
 rw [hn,Nat.beq_refl,ht,zaau hm];kernel_rfl
theorem co_impl_countsIn {Post:Value->World->Prop} {main:Bool} (F g:Nat):∀args h r,u2 (c_impl_countsIn F g) args h=some r->CoTri Go.Proofs.Tryz.prog tW Post main (none,false) 29 args h r:=by
 intro args h r e
 obtain ⟨a0,a1,rfl,e1⟩:=zafv e
 obtain ⟨l,n,rfl,e2⟩:=zaap e1
 obtain ⟨hn,e3⟩:=zaac e2
 have hn:=Nat.eq_of_beq_eq_true hn
 cases ht:isTree l with
 | false=>
  rw [ht,zaag] at e3
  obtain ⟨hm,e3⟩:=zaac e3
  have hm:=Nat.le_of_ble_eq_true hm
  have key:∀k,CoTri Go.Proofs.Tryz.prog tW Post main (none,false) 29 [.str l n,.func (.func k) (.leaf .nil) (.leaf .nil)] h (noRow,h.fz):=fun k=>
   forget1 (R.co_impl_countsIn 2097152 20 [.str l n,.func (.func k) (.leaf .nil) (.leaf .nil)] H0 _ (raw_bad k hn hm ht)) vl_sf rfl h
  cases h0:Nat.beq (fnNo a1) 30 with
  | true=>rw [h0,bc_true] at e3;cases e3;rw [fnNo_eq (by decide) h0];exact key _
  | false=>
  rw [h0,zaag] at e3
  cases h1:Nat.beq (fnNo a1) 59 with
  | true=>rw [h1,bc_true] at e3;cases e3;rw [fnNo_eq (by decide) h1];exact key _
  | false=>
  rw [h1,zaag] at e3
  cases e3
 | true=>
  rw [ht,bc_true] at e3
  obtain ⟨hl,e3⟩:=zaac e3
  have hl:Nat.ble (lenL l) 16=true:=by rw [hn];exact hl
  cases h0:Nat.beq (fnNo a1) 30 with
  | true=>
   rw [h0,bc_true] at e3;cases e3;rw [fnNo_eq (by decide) h0]
   obtain ⟨b,h',k1,k2⟩:=isRowT_some (tb0_ok ht hl)
   rw [hn] at k1
   exact row1 (q:=false) (t:=true) (R.co_impl_countsIn 2097152 20 [.str l n,(.func (.func 30) (.leaf .nil) (.leaf .nil))] H0 _ k1) k2 vl_sf h
  | false=>
  rw [h0,zaag] at e3
  cases h1:Nat.beq (fnNo a1) 59 with
  | true=>
   rw [h1,bc_true] at e3;cases e3;rw [fnNo_eq (by decide) h1]
   obtain ⟨b,h',k1,k2⟩:=isRowT_some (tb1_ok ht hl)
   rw [hn] at k1
   exact row1 (q:=false) (t:=true) (R.co_impl_countsIn 2097152 20 [.str l n,(.func (.func 59) (.leaf .nil) (.leaf .nil))] H0 _ k1) k2 vl_sf h
  | false=>
  rw [h1,zaag] at e3
  cases e3
def c_spec_l6mReach (F g:Nat) (a0:AV) (h:H):Option R:=withStr a0 fun l n=>bc (Nat.beq (lenL l) n) (bc (isTree l) (bc (Nat.ble n 16) (some (rowV false h.n (reachL l),rowH h (reachL l))) none) none) none
theorem co_spec_l6mReach {Post:Value->World->Prop} {main:Bool} {fk:Option Fk} (F g:Nat):∀args h r,u1 (c_spec_l6mReach F g) args h=some r->CoTri Go.Proofs.Tryz.prog tW Post main (fk,true) 57 args h r:=by
 intro args h r e
 obtain ⟨a0,rfl,e1⟩:=zae6 e
 obtain ⟨l,n,rfl,e2⟩:=zaap e1
 obtain ⟨hn,e3⟩:=zaac e2
 have hn:=Nat.eq_of_beq_eq_true hn
 obtain ⟨ht,e4⟩:=zaac e3
 obtain ⟨hl,e4⟩:=zaac e4
 have hl:Nat.ble (lenL l) 16=true:=by rw [hn];exact hl
 cases e4
 obtain ⟨b,h',k1,k2⟩:=isRowB_some (tb2_ok ht hl)
 rw [hn] at k1
 exact CoTri.row (q:=true) (t:=false) (R.co_spec_l6mReach 2097152 20 [.str l n] H0 _ k1) k2 (fun a ha=>by cases ha with | head=>rfl | tail _ ha=>cases ha) h
theorem wk_spec_l6mReach {Post:Value->World->Prop} {main:Bool} (F g:Nat):∀args h r,u1 (c_spec_l6mReach F g) args h=some r->CoTri Go.Proofs.Tryz.prog tW Post main (none,false) 57 args h r:=fun args h r e=>(co_spec_l6mReach F g args h r e).weak
end
end Go.AI.T
