/- The specification's MiddleAt, given. -/
import Derived.Test.YtecliakkmgoglaaGreatDoorAtEv
import Derived.KernelRfl
set_option linter.unusedVariables false
set_option linter.unusedSimpArgs false
set_option maxRecDepth 100000
namespace Go.AI.T
open Go Go.RowKit Go.AI Go.Conc Go.Co Go.Co.Cnt
noncomputable section
theorem low_At_some {l:List Nat}:∀k,low_At l k=true->∀j,j<k->ok_At1 l (.ofNat j)=true
 | 0,_,j,hj=>by omega
 | k+1,h,j,hj=>by
  have h:bc (ok_At1 l (.ofNat k)) (low_At l k) false=true:=h
  cases h1:ok_At1 l (.ofNat k) with
  | false=>rw [h1] at h;cases h
  | true=>
   rw [h1,bc_true] at h
   by_cases e:j=k
   · subst e;exact h1
   · exact low_At_some k h j (by omega)
theorem at_ok {l:List Nat} {z:Int} (ht:isTree l=true) (hl:Nat.ble (lenL l) 16=true) (hz:inZ z=true):ok_At1 l z=true:=by
 have h:bc (Nat.ble (lenL l) 16) (bc (ok_At1 l (.negSucc 0)) (low_At l 9) false) true=true:=ua_all ht
 rw [hl,bc_true] at h
 cases h1:ok_At1 l (.negSucc 0) with
 | false=>rw [h1] at h;cases h
 | true=>
  rw [h1,bc_true] at h
  cases z with
  | ofNat j=>exact low_At_some 9 h j (Nat.lt_succ_of_le (Nat.le_of_ble_eq_true hz))
  | negSucc j=>
   have:=Nat.eq_of_beq_eq_true (show Nat.beq j 0=true from hz)
   subst this;exact h1
theorem at_some {l:List Nat} {z:Int} (e:ok_At1 l z=true):isAt (atR l z)=true/\∃h,R3.c_spec_MiddleAt 2097152 20 (.str l (lenL l)) (.int 3 z) H0=some (atR l z,h):=by
 unfold ok_At1 at e
 split at e
 · rename_i x h hs
   have:atR l z=x:=by unfold atR;rw [hs]
   rw [this];exact ⟨e,h,hs⟩
 · cases e
theorem isAt_some {x:AV} (e:isAt x=true):∃t n b,x=(.one .tup (.cons (.str t n) (.cons (.bool b) (.leaf .nil))))/\n=t.length/\(b=true->isTree t=true/\n<=16)/\(b=false->n=0):=by
 unfold isAt at e
 split at e
 · rename_i t n b
   cases h1:Nat.beq n (lenL t) with
   | false=>rw [h1] at e;cases e
   | true=>
    rw [h1,bc_true] at e
    refine ⟨t,n,b,rfl,(Nat.eq_of_beq_eq_true h1).trans (zabd t),?_,?_⟩
    · rintro rfl
      rw [bc_true] at e
      cases h2:isTree t with
      | false=>rw [h2] at e;cases e
      | true=>rw [h2,bc_true] at e;exact ⟨rfl,Nat.le_of_ble_eq_true e⟩
    · rintro rfl
      exact Nat.eq_of_beq_eq_true e
 · cases e
def c_spec_MiddleAt (F g:Nat) (a0 a1:AV) (h:H):Option R:=withStr a0 fun l n=>a1.onInt none fun k z=>bc (Nat.beq k 3) (bc (Nat.beq (lenL l) n) (bc (isTree l) (bc (Nat.ble n 16) (bc (inZ z) (some (atR l z,h)) none) none) (some ((.one .tup (.cons (.str [] 0) (.cons (.bool false) (.leaf .nil)))),h))) none) none
theorem onInt_some {x:AV} {f:Nat->Int->Option R} {r:R} (e:x.onInt none f=some r):∃k z,x = .int k z/\f k z=some r:=by
 cases x <;> first | (cases e;done) | exact ⟨_,_,rfl,e⟩
theorem gB_ff (y n:Option R):guardB true (.bool false) y n=n:=rfl
theorem rawat_bad {l:List Nat} {n:Nat} (hn:lenL l=n) (ht:isTree l=false) (z:Int) (h:H):R3.c_spec_MiddleAt 2097152 20 (.str l n) (.int 3 z) h=some ((.one .tup (.cons (.str [] 0) (.cons (.bool false) (.leaf .nil)))),h):=by
 delta R3.c_spec_MiddleAt R3.c_spec_l1Node
 repeat (first | rw [zaog hn ht] | rw [bindR_some'] | rw [gB_ff] | rw [aNot_b] | rw [bnot_f] | rw [zaai] | rw [bc_true] | rw [zaag])
 try rfl
theorem isAt_plain {x:AV} (e:isAt x=true):x.plain=true:=by
 obtain ⟨t,n,b,rfl,_⟩:=isAt_some e;rfl
theorem co_spec_MiddleAt {Post:Value->World->Prop} {main:Bool} {fk:Option Fk} (F g:Nat):∀args h r,u2 (c_spec_MiddleAt F g) args h=some r->CoTri Go.Proofs.Tryz.prog tW Post main (fk,true) 8 args h r:=by
 intro args h r e
 obtain ⟨a0,a1,rfl,e1⟩:=zafv e
 obtain ⟨l,n,rfl,e2⟩:=zaap e1
 obtain ⟨k,z,rfl,e3⟩:=onInt_some e2
 obtain ⟨hk,e4⟩:=zaac e3
 have hk:=Nat.eq_of_beq_eq_true hk;subst hk
 obtain ⟨hn,e5⟩:=zaac e4
 have hn:=Nat.eq_of_beq_eq_true hn
 have pl:∀a∈([.str l n,.int 3 z]:List AV),a.plain=true:=fun a ha=>by
  cases ha with
  | head=>rfl
  | tail _ ha=>cases ha with
   | head=>rfl
   | tail _ ha=>cases ha
 cases ht:isTree l with
 | false=>
  rw [ht,zaag] at e5;cases e5
  exact R3.co_spec_MiddleAt 2097152 20 [.str l n,.int 3 z] h _ (rawat_bad hn ht z h)
 | true=>
  rw [ht,bc_true] at e5
  obtain ⟨hl,e6⟩:=zaac e5
  obtain ⟨hz,e7⟩:=zaac e6
  cases e7
  obtain ⟨h1,h',k1⟩:=at_some (at_ok ht (by rw [hn];exact hl) hz)
  rw [hn] at k1
  exact CoTri.forget (R3.co_spec_MiddleAt 2097152 20 [.str l n,.int 3 z] H0 _ k1) pl (isAt_plain h1) h
theorem wk_spec_MiddleAt {Post:Value->World->Prop} {main:Bool} (F g:Nat):∀args h r,u2 (c_spec_MiddleAt F g) args h=some r->CoTri Go.Proofs.Tryz.prog tW Post main (none,false) 8 args h r:=fun args h r e=>(co_spec_MiddleAt F g args h r e).weak
theorem at_told {F g:Nat} {l:List Nat} {z:Int} {h:H} (hl:isTree l=true->l.length<=16) (hz:z = .negSucc 0\/∃j,z = .ofNat j/\j<=l.length / 2):∃t b,c_spec_MiddleAt F g (.str l l.length) (.int 3 z) h=some ((.one .tup (.cons (.str t t.length) (.cons (.bool b) (.leaf .nil)))),h)/\(b=true->isTree t=true/\t.length<=16)/\(b=false->t.length=0):=by
 have hl0:=zabd l
 cases ht:isTree l with
 | false=>
  refine ⟨[],false,?_,fun h=>Bool.noConfusion h,fun _=>rfl⟩
  show bc (Nat.beq (lenL l) l.length) (bc (isTree l) _ _) none=_
  rw [hl0,Nat.beq_refl,ht];rfl
 | true=>
  have h16:=hl ht
  have hz':inZ z=true:=by
   rcases hz with rfl | ⟨j,rfl,hj⟩
   · rfl
   · exact Nat.ble_eq_true_of_le (by omega)
  obtain ⟨t,n,b,e1,rfl,h2,h3⟩:=isAt_some (at_some (at_ok ht (by rw [hl0];exact zaau h16) hz')).1
  refine ⟨t,b,?_,h2,h3⟩
  show bc (Nat.beq (lenL l) l.length) (bc (isTree l) (bc (Nat.ble l.length 16) (bc (inZ z) (some (atR l z,h)) none) none) _) none=_
  rw [hl0,Nat.beq_refl,ht,zaau h16,hz',e1];rfl
end
end Go.AI.T
