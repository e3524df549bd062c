/- MiddleFree and the specification's l6mFree, given. -/
import Derived.Test.YtecliakkmgoglaaGreatDoorFreEv
import Derived.KernelRfl
set_option linter.unusedVariables false
set_option linter.unusedSimpArgs false
set_option maxRecDepth 100000
namespace Go.AI.T
open Go Go.RowKit Go.AI Go.Conc Go.Co Go.Co.Cnt
noncomputable section
theorem fre_ok {l:List Nat} (ht:isTree l=true) (hl:Nat.ble (lenL l) 16=true):ok_Fr l=true:=by
 have h1:bc (Nat.ble (lenL l) 16) (ok_Fr l) true=true:=e_all ht
 rw [hl,bc_true] at h1;exact h1
theorem pl1 {l:List Nat} {n:Nat} (ι ι':Inj) (vs:List Value) (h:VL ι [.str l n] vs):VL ι' [.str l n] vs:=by
 cases h with
 | cons h1 h=>cases h;exact .cons h1 .nil
def c_spec_l6mFree (F g:Nat) (a0:AV) (h:H):Option R:=withStr a0 fun l n=>bc (Nat.beq (lenL l) n) (bc (isTree l) (bc (Nat.ble n 16) (some (.str (freeL l) (lenL (freeL l)),h)) none) none) none
theorem co_spec_l6mFree {Post:Value->World->Prop} {main:Bool} {fk:Option Fk} (F g:Nat):∀args h r,u1 (c_spec_l6mFree F g) args h=some r->CoTri Go.Proofs.Tryz.prog tW Post main (fk,true) 34 args h r:=by
 intro args h r e
 obtain ⟨a0,rfl,e1⟩:=zae6 e
 obtain ⟨l,n,rfl,e2⟩:=zaap e1
 obtain ⟨hn,e3⟩:=zaac e2
 have hn:=Nat.eq_of_beq_eq_true hn
 obtain ⟨ht,e4⟩:=zaac e3
 obtain ⟨hl,e4⟩:=zaac e4
 cases e4
 obtain ⟨⟨h',k1⟩,_⟩:=ok_some (fre_ok ht (by rw [hn];exact hl))
 rw [hn] at k1
 exact CoTri.forget (Q.co_spec_l6mFree 2097152 20 [.str l n] H0 _ k1) (fun a ha=>by cases ha with | head=>rfl | tail _ ha=>cases ha) rfl h
theorem wk_spec_l6mFree {Post:Value->World->Prop} {main:Bool} (F g:Nat):∀args h r,u1 (c_spec_l6mFree F g) args h=some r->CoTri Go.Proofs.Tryz.prog tW Post main (none,false) 34 args h r:=fun args h r e=>(co_spec_l6mFree F g args h r e).weak
def c_impl_MiddleFree (F g:Nat) (a0:AV) (h:H):Option R:=withStr a0 fun l n=>bc (Nat.beq (lenL l) n) (bc (isTree l) (bc (Nat.ble n 16) (some (.one .tup (.cons (.str (freeL l) (lenL (freeL l))) (.cons (.bool true) (.leaf .nil))),h.fz)) none) (bc (Nat.ble n 1048576) (some (.one .tup (.cons (.str [] 0) (.cons (.bool false) (.leaf .nil))),h.fz)) none)) none
theorem rawfree_bad {l:List Nat} {n:Nat} (hn:lenL l=n) (hm:n<=1048576) (ht:isTree l=false):Q.c_impl_MiddleFree 2097152 20 (.str l n) H0=some (.one .tup (.cons (.str [] 0) (.cons (.bool false) (.leaf .nil))),H0.fz):=by
 delta Q.c_impl_MiddleFree Q.c_impl_MiddleCentre Q.c_impl_leastNodes
 repeat (first | rw [counts_bad30 hn hm ht] | rw [bindR_some'] | rw [zat6] | rw [zaui] | rw [aNot_b] | rw [bnot_f] | rw [bnot_t] | rw [zaai] | rw [bc_true] | rw [zaag])
 try rfl
theorem co_impl_MiddleFree {Post:Value->World->Prop} {main:Bool} (F g:Nat):∀args h r,u1 (c_impl_MiddleFree F g) args h=some r->CoTri Go.Proofs.Tryz.prog tW Post main (none,false) 20 args h r:=by
 intro args h r e
 obtain ⟨a0,rfl,e1⟩:=zae6 e
 obtain ⟨l,n,rfl,e2⟩:=zaap e1
 obtain ⟨hn,e3⟩:=zaac e2
 have hn:=Nat.eq_of_beq_eq_true hn
 cases ht:isTree l with
 | false=>
  rw [ht,zaag] at e3
  obtain ⟨hm,e4⟩:=zaac e3
  cases e4
  exact forget1 (Q.co_impl_MiddleFree 2097152 20 [.str l n] H0 _ (rawfree_bad hn (Nat.le_of_ble_eq_true hm) ht)) pl1 rfl h
 | true=>
  rw [ht,bc_true] at e3
  obtain ⟨hl,e3⟩:=zaac e3
  cases e3
  obtain ⟨_,h',k1⟩:=ok_some (fre_ok ht (by rw [hn];exact hl))
  rw [hn] at k1
  exact forget1 (Q.co_impl_MiddleFree 2097152 20 [.str l n] H0 _ k1) pl1 rfl h
theorem free_bad {F g:Nat} {l:List Nat} {n:Nat} (hn:lenL l=n) (hm:n<=1048576) (ht:isTree l=false) (h:H):c_impl_MiddleFree F g (.str l n) h=some (.one .tup (.cons (.str [] 0) (.cons (.bool false) (.leaf .nil))),h.fz):=by
 show bc (Nat.beq (lenL l) n) (bc (isTree l) _ (bc (Nat.ble n 1048576) _ none)) none=_
 rw [hn,Nat.beq_refl,ht,zaau hm];rfl
theorem free_good {F g:Nat} {l:List Nat} {n:Nat} (hn:lenL l=n) (hl:n<=16) (ht:isTree l=true) (h:H):c_impl_MiddleFree F g (.str l n) h=some (.one .tup (.cons (.str (freeL l) (lenL (freeL l))) (.cons (.bool true) (.leaf .nil))),h.fz):=by
 show bc (Nat.beq (lenL l) n) (bc (isTree l) (bc (Nat.ble n 16) _ none) _) none=_
 rw [hn,Nat.beq_refl,ht,zaau hl];rfl
theorem sfree_good {F g:Nat} {l:List Nat} {n:Nat} (hn:lenL l=n) (hl:n<=16) (ht:isTree l=true) (h:H):c_spec_l6mFree F g (.str l n) h=some (.str (freeL l) (lenL (freeL l)),h):=by
 show bc (Nat.beq (lenL l) n) (bc (isTree l) (bc (Nat.ble n 16) _ none) _) none=_
 rw [hn,Nat.beq_refl,ht,zaau hl];rfl
theorem aCmpS_str (f:List Nat->List Nat->Bool) (s t:List Nat) (n m:Nat) (h:H) (k:AV->H->Option R):aCmpS f (.str s n) (.str t m) h k=k (.bool (f s t)) h:=rfl
end
end Go.AI.T
