/- The law FnMiddleAlike, whatever the two texts. -/
import Derived.Test.YtecliakkmgoglaaGreatDoorFnMiddleAlikeFn
import Derived.KernelRfl
set_option linter.unusedVariables false
set_option linter.unusedSimpArgs false
set_option maxRecDepth 100000
namespace Go.AI.T
open Go Go.RowKit Go.AI Go.Conc Go.Co Go.Co.Cnt
noncomputable section
theorem gB_tt (y n:Option R):guardB true (.bool true) y n=y:=rfl
def alikeB (l l':List Nat):Bool:=bc (isTree l) (bc (isTree l') (eqL (freeL l) (freeL l')) false) false
theorem ab_comm (a b:Bool) (x y:List Nat):bc b (bc a (eqL y x) false) false=bc a (bc b (eqL x y) false) false:=by
 cases a with
 | false=>cases b <;> rfl
 | true=>
  cases b with
  | false=>rfl
  | true=>exact eqL_comm y x
theorem alikeB_comm (l l':List Nat):alikeB l' l=alikeB l l':=ab_comm (isTree l) (isTree l') (freeL l) (freeL l')
theorem alike_impl {F g:Nat} {l l':List Nat} {n m:Nat} (hn:lenL l=n) (hm:lenL l'=m) (h300:n<=300/\m<=300) (k1:isTree l=true->n<=16) (k2:isTree l'=true->m<=16) (h:H):c_impl_MiddleAlike F g (.str l n) (.str l' m) h=some (.bool (alikeB l l'),h.fz.fz):=by
 delta c_impl_MiddleAlike
 cases ht:isTree l with
 | false=>
  rw [free_bad hn (show n<=1048576 by omega) ht,bindR_some',zat6,zaui]
  cases hu:isTree l' with
  | false=>
   rw [free_bad hm (show m<=1048576 by omega) hu,bindR_some',zat6,zaui,show alikeB l l'=false by unfold alikeB;rw [ht];rfl]
   kernel_rfl
  | true=>
   rw [free_good hm (k2 hu) hu,bindR_some',zat6,zaui,show alikeB l l'=false by unfold alikeB;rw [ht];rfl]
   generalize freeL l'=v
   kernel_rfl
 | true=>
  rw [free_good hn (k1 ht) ht,bindR_some',zat6,zaui]
  cases hu:isTree l' with
  | false=>
   rw [free_bad hm (show m<=1048576 by omega) hu,bindR_some',zat6,zaui,show alikeB l l'=false by unfold alikeB;rw [ht,hu];rfl]
   generalize freeL l=u
   kernel_rfl
  | true=>
   rw [free_good hm (k2 hu) hu,bindR_some',zat6,zaui,show alikeB l l'=eqL (freeL l) (freeL l') by unfold alikeB;rw [ht,hu];rfl]
   generalize freeL l=u
   generalize freeL l'=v
   kernel_rfl
theorem alike_spec {F g:Nat} {l l':List Nat} {n m:Nat} (hn:lenL l=n) (hm:lenL l'=m) (h300:n<=300/\m<=300) (k1:isTree l=true->n<=16) (k2:isTree l'=true->m<=16) (h:H):c_spec_MiddleAlike F g (.str l n) (.str l' m) h=some (.bool (alikeB l l'),h):=by
 delta c_spec_MiddleAlike
 cases ht:isTree l with
 | false=>
  rw [zaog hn ht,bindR_some',gB_ff,show alikeB l l'=false by unfold alikeB;rw [ht];rfl]
  kernel_rfl
 | true=>
  rw [zalm hn ht,bindR_some',gB_tt]
  cases hu:isTree l' with
  | false=>
   rw [zaog hm hu,bindR_some',show alikeB l l'=false by unfold alikeB;rw [ht,hu];rfl]
   kernel_rfl
  | true=>
   rw [zalm hm hu,bindR_some',show alikeB l l'=eqL (freeL l) (freeL l') by unfold alikeB;rw [ht,hu];rfl]
   have e:c_spec_MiddleAlike_j2 F g [.str l n,.str l' m,.bool true,.bool true] h=bindR (c_spec_l6mFree F g (.str l n) h) fun x10 h=>bindR (c_spec_l6mFree F g (.str l' m) h) fun x11 h=>aCmpS eqL x10 x11 h fun x12 h=>c_spec_MiddleAlike_j1 F g [.bool true,x12] h:=by kernel_rfl
   refine e.trans ?_
   rw [sfree_good hn (k1 ht) ht,bindR_some',sfree_good hm (k2 hu) hu,bindR_some']
   generalize freeL l=u
   generalize freeL l'=v
   kernel_rfl
theorem ieq_self (z:Nat):ieq (.ofNat z) (.ofNat z)=true:=Nat.beq_refl z
theorem key_mid (B:Blk) {l l':List Nat} {n m:Nat} (hn:lenL l=n) (hm:lenL l'=m) (h300:n<=300/\m<=300) (k1:isTree l=true->n<=16) (k2:isTree l'=true->m<=16):tells (c_laws_FnMiddleAlike_r8 2097152 20 (.one .tup (.cons (.str l n) (.cons (.str l' m) (.leaf .nil)))) (hCode B))=true:=by
 delta c_laws_FnMiddleAlike_r8
 rw [zat6,zaui,alike_impl hn hm h300 k1 k2,bindR_some',alike_spec hn hm h300 k1 k2,bindR_some']
 cases e:alikeB l l' with
 | false=>kernel_rfl
 | true=>
  have e0:=e
  unfold alikeB at e0
  cases ht:isTree l with
  | false=>rw [ht] at e0;cases e0
  | true=>
   cases hu:isTree l' with
   | false=>rw [ht,hu] at e0;cases e0
   | true=>
    rw [ht,hu,bc_true,bc_true] at e0
    have ef:=eqL_of e0
    have w1:=fun h=>told_impl_MiddleWidest (F:=2097152) (g:=20) hn (k1 ht) ht h
    have w2:=fun h=>told_impl_MiddleWidest (F:=2097152) (g:=20) hm (k2 hu) hu h
    have w3:=fun h=>told_impl_CountSpread (F:=2097152) (g:=20) hn (k1 ht) ht h
    have w4:=fun h=>told_impl_CountSpread (F:=2097152) (g:=20) hm (k2 hu) hu h
    have w5:=fun h=>alike_impl (F:=2097152) (g:=20) hm hn h300.symm k2 k1 h
    rw [ef] at w1 w3
    rw [alikeB_comm,e] at w5
    generalize widF (freeL l')=W at w1 w2
    generalize sprF (freeL l')=S at w3 w4
    have i1:=ieq_self W
    have i2:=ieq_self S
    generalize hW:Int.ofNat W=W' at *
    generalize hS:Int.ofNat S=S' at *
    show tells (c_laws_FnMiddleAlike_j7 2097152 20 [.str l n,.str l' m,.bool true,.bool true,.bool false,.bool false] _)=true
    delta c_laws_FnMiddleAlike_j1 c_laws_FnMiddleAlike_j2 c_laws_FnMiddleAlike_j3 c_laws_FnMiddleAlike_j4 c_laws_FnMiddleAlike_j5 c_laws_FnMiddleAlike_j6 c_laws_FnMiddleAlike_j7
    simp only [w1,w2,w3,w4,w5,zabh,zabg,bindR_some',zat6,zaui,gB_tt,zaai,bc_true,zaag,zabx,zabi,zaa7,i1,i2]
    kernel_rfl
end
end Go.AI.T
