/- MiddleWidest and CountSpread, given by the free tree. -/
import Derived.Test.YtecliakkmgoglaaGreatDoorWidEv
import Derived.KernelRfl
set_option linter.unusedVariables false
set_option linter.unusedSimpArgs false
set_option maxRecDepth 100000
namespace Go.AI.T
open Go Go.RowKit Go.AI Go.Conc Go.Co Go.Co.Cnt
noncomputable section
theorem wid_ok {l:List Nat} (ht:isTree l=true) (hl:Nat.ble (lenL l) 16=true):ok_Wi l (freeL l)=true:=by
 have h:bc (Nat.ble (lenL l) 16) (ok_Wi l (freeL l)) true=true:=v_all ht
 rw [hl,bc_true] at h;exact h
theorem isNum_some {w:Nat} {r:Option R} (e:isNum w r=true):∃h,r=some (.one .tup (.cons (.int 3 (.ofNat w)) (.cons (.bool true) (.leaf .nil))),h):=by
 unfold isNum at e
 split at e
 · rename_i k z b h
   cases h1:Nat.beq k 3 with
   | false=>rw [h1] at e;cases e
   | true=>
    rw [h1,bc_true] at e
    cases b with
    | false=>cases e
    | true=>rw [bc_true] at e;rw [Nat.eq_of_beq_eq_true h1,ieq_eq e];exact ⟨h,rfl⟩
 · cases e
def c_impl_MiddleWidest (F g:Nat) (a0:AV) (h:H):Option R:=withStr a0 fun l n=>bc (Nat.beq (lenL l) n) (bc (isTree l) (bc (Nat.ble n 16) (some (.one .tup (.cons (.int 3 (.ofNat (widF (freeL l)))) (.cons (.bool true) (.leaf .nil))),h.fz)) none) none) none
theorem co_impl_MiddleWidest {Post:Value->World->Prop} {main:Bool} (F g:Nat):∀args h r,u1 (c_impl_MiddleWidest F g) args h=some r->CoTri Go.Proofs.Tryz.prog tW Post main (none,false) 14 args h r:=by
 intro args h r e
 obtain ⟨a0,rfl,e1⟩:=zae6 e
 obtain ⟨l,n,rfl,e2⟩:=zaap e1
 obtain ⟨hn,e3⟩:=zaac e2
 have hn:=Nat.eq_of_beq_eq_true hn
 obtain ⟨ht,e4⟩:=zaac e3
 obtain ⟨hl,e5⟩:=zaac e4
 cases e5
 obtain ⟨h',k1⟩:=isNum_some (and_l (wid_ok ht (by rw [hn];exact hl)))
 rw [hn] at k1
 exact forget1 (R4.co_impl_MiddleWidest 2097152 20 [.str l n] H0 _ k1) pl1 rfl h
theorem told_impl_MiddleWidest {F g:Nat} {l:List Nat} {n:Nat} (hn:lenL l=n) (hl:n<=16) (ht:isTree l=true) (h:H):c_impl_MiddleWidest F g (.str l n) h=some (.one .tup (.cons (.int 3 (.ofNat (widF (freeL l)))) (.cons (.bool true) (.leaf .nil))),h.fz):=by
 show bc (Nat.beq (lenL l) n) (bc (isTree l) (bc (Nat.ble n 16) _ none) none) none=_
 rw [hn,Nat.beq_refl,ht,zaau hl];rfl
def c_impl_CountSpread (F g:Nat) (a0:AV) (h:H):Option R:=withStr a0 fun l n=>bc (Nat.beq (lenL l) n) (bc (isTree l) (bc (Nat.ble n 16) (some (.one .tup (.cons (.int 3 (.ofNat (sprF (freeL l)))) (.cons (.bool true) (.leaf .nil))),h.fz)) none) none) none
theorem co_impl_CountSpread {Post:Value->World->Prop} {main:Bool} (F g:Nat):∀args h r,u1 (c_impl_CountSpread F g) args h=some r->CoTri Go.Proofs.Tryz.prog tW Post main (none,false) 15 args h r:=by
 intro args h r e
 obtain ⟨a0,rfl,e1⟩:=zae6 e
 obtain ⟨l,n,rfl,e2⟩:=zaap e1
 obtain ⟨hn,e3⟩:=zaac e2
 have hn:=Nat.eq_of_beq_eq_true hn
 obtain ⟨ht,e4⟩:=zaac e3
 obtain ⟨hl,e5⟩:=zaac e4
 cases e5
 obtain ⟨h',k1⟩:=isNum_some (and_r (wid_ok ht (by rw [hn];exact hl)))
 rw [hn] at k1
 exact forget1 (R4.co_impl_CountSpread 2097152 20 [.str l n] H0 _ k1) pl1 rfl h
theorem told_impl_CountSpread {F g:Nat} {l:List Nat} {n:Nat} (hn:lenL l=n) (hl:n<=16) (ht:isTree l=true) (h:H):c_impl_CountSpread F g (.str l n) h=some (.one .tup (.cons (.int 3 (.ofNat (sprF (freeL l)))) (.cons (.bool true) (.leaf .nil))),h.fz):=by
 show bc (Nat.beq (lenL l) n) (bc (isTree l) (bc (Nat.ble n 16) _ none) none) none=_
 rw [hn,Nat.beq_refl,ht,zaau hl];rfl
end
end Go.AI.T
