/- The given functions, in company. -/
import Derived.Test.YtelijoecjhgleaaGreatDoorRaw
import Derived.Test.YtelijoecjhgleaaGreatDoorCo5
import Derived.KernelRfl
set_option linter.unusedVariables false
set_option linter.unusedSimpArgs false
set_option maxRecDepth 100000
namespace Go.AI
open Go Go.Proofs.Tryz Go.RowKit Go.AI Go.Conc Go.Co Go.Co.Cnt
noncomputable section
variable {Post:Value->World->Prop} {main:Bool} {fk:Option Fk}
theorem co_spec_l1End (F g:Nat):∀args h r,u2 (c_spec_l1End F g) args h=some r->CoTri prog tW Post main (fk,true) 26 args h r:=by
 intro args h r e;obtain ⟨a0,a1,rfl,e1⟩:=zafm e;exact zace func26 rfl rfl rfl ntmps26 (by kernel_rfl) (CoSound.none _ _ _ _ _) ((k_spec_l1End F g a0 a1 h).trans e1)
theorem wk_spec_l1End (F g:Nat):∀args h r,u2 (c_spec_l1End F g) args h=some r->CoTri prog tW Post main (none,false) 26 args h r:=fun args h r e=>(co_spec_l1End F g args h r e).weak
theorem co_spec_TreeIn (F g:Nat):∀args h r,u1 (c_spec_TreeIn F g) args h=some r->CoTri prog tW Post main (fk,true) 14 args h r:=by
 intro args h r e;obtain ⟨a0,rfl,e1⟩:=zafo e;exact zace func14 rfl rfl rfl ntmps14 (by kernel_rfl) (CoSound.add (CoSound.none _ _ _ _ _) (co_spec_l1End F g)) ((k_spec_TreeIn F g a0 h).trans e1)
theorem wk_spec_TreeIn (F g:Nat):∀args h r,u1 (c_spec_TreeIn F g) args h=some r->CoTri prog tW Post main (none,false) 14 args h r:=fun args h r e=>(co_spec_TreeIn F g args h r e).weak
theorem co_impl_node_add (F g:Nat):∀args h r,u2 (c_impl_node_add F g) args h=some r->CoTri prog tW Post main (fk,true) 29 args h r:=by
 intro args h r e;obtain ⟨a0,a1,rfl,e1⟩:=zafm e;exact zace func29 rfl rfl rfl ntmps29 (by kernel_rfl) (CoSound.none _ _ _ _ _) ((k_impl_node_add F g a0 a1 h).trans e1)
theorem wk_impl_node_add (F g:Nat):∀args h r,u2 (c_impl_node_add F g) args h=some r->CoTri prog tW Post main (none,false) 29 args h r:=fun args h r e=>(co_impl_node_add F g args h r e).weak
theorem co_impl_readTree (F g:Nat):∀args h r,u1 (c_impl_readTree F g) args h=some r->CoTri prog tW Post main (fk,true) 16 args h r:=by
 intro args h r e;obtain ⟨a0,rfl,e1⟩:=zafo e;exact zace func16 rfl rfl rfl ntmps16 (by kernel_rfl) (CoSound.add (CoSound.none _ _ _ _ _) (co_impl_node_add F g)) ((k_impl_readTree F g a0 h).trans e1)
theorem wk_impl_readTree (F g:Nat):∀args h r,u1 (c_impl_readTree F g) args h=some r->CoTri prog tW Post main (none,false) 16 args h r:=fun args h r e=>(co_impl_readTree F g args h r e).weak
end
end Go.AI
namespace Go.AI.T
open Go Go.Proofs.Tryz Go.RowKit Go.AI Go.Conc Go.Co Go.Co.Cnt
noncomputable section
variable {Post:Value->World->Prop} {main:Bool} {fk:Option Fk}
theorem co_spec_TreeIn (F g:Nat):∀args h r,u1 (c_spec_TreeIn F g) args h=some r->CoTri prog tW Post main (fk,true) id_spec_TreeIn args h r:=by
 intro args h r e
 obtain ⟨a0,rfl,e1⟩:=zafo e
 obtain ⟨l,n,rfl,e2⟩:=zaap e1
 obtain ⟨hn,e3⟩:=zaab e2
 have hn:=Nat.eq_of_beq_eq_true hn
 rw [zabd] at hn
 cases ht:isTree l with
 | false=>rw [ht] at e3;cases e3;exact Go.AI.co_spec_TreeIn 100 0 [.str l n] h _ (Go.AI.zanp (F:=100) (g:=0) l n hn (by omega) ht h)
 | true=>rw [ht] at e3;cases e3;exact Go.AI.co_spec_TreeIn 100 0 [.str l n] h _ (Go.AI.zalr (F:=100) (g:=0) l n hn (by omega) ht h)
theorem co_impl_readTree (F g:Nat):∀args h r,u1 (c_impl_readTree F g) args h=some r->CoTri prog tW Post main (fk,true) id_impl_readTree args h r:=by
 intro args h r e
 obtain ⟨a0,rfl,e1⟩:=zafo e
 obtain ⟨l,n,rfl,e2⟩:=zaap e1
 cases ht:isTree l with
 | true=>rw [ht,bc_true] at e2;exact Go.AI.co_impl_readTree 100 g [.str l n] h r e2
 | false=>
  rw [ht,zaag] at e2
  obtain ⟨hn,e3⟩:=zaab e2
  obtain ⟨hm,e4⟩:=zaab e3
  have hn:=Nat.eq_of_beq_eq_true hn
  have hm:=Nat.le_of_ble_eq_true hm
  rw [zabd] at hn
  cases e4
  obtain ⟨h',eb⟩:=Go.AI.zan6 (F:=n+1) (g:=g) l n hn (by omega) (by omega) ht H0
  exact CoTri.forget (Go.AI.co_impl_readTree (n+1) g [.str l n] H0 _ eb) (fun a hm=>by cases hm with | head=>rfl | tail _ hm=>cases hm) rfl h
theorem wk_spec_TreeIn (F g:Nat):∀args h r,u1 (c_spec_TreeIn F g) args h=some r->CoTri prog tW Post main (none,false) id_spec_TreeIn args h r:=fun args h r e=>(co_spec_TreeIn F g args h r e).weak
theorem wk_impl_readTree (F g:Nat):∀args h r,u1 (c_impl_readTree F g) args h=some r->CoTri prog tW Post main (none,false) id_impl_readTree args h r:=fun args h r e=>(co_impl_readTree F g args h r e).weak
end
end Go.AI.T
