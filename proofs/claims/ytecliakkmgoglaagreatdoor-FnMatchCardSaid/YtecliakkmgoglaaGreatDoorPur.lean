/- What is counted at the nodes of a tree, as functions of its text. -/
import Derived.Test.YtecliakkmgoglaaGreatDoorCo6
import Derived.KernelRfl
set_option linter.unusedVariables false
set_option linter.unusedSimpArgs false
set_option maxRecDepth 100000
namespace Go.AI.T
open Go Go.RowKit Go.AI Go.Conc Go.Co Go.Co.Cnt
noncomputable section
def depthsL:List Nat->Nat->List Nat
 | [],_=>[]
 | c::t,d=>bc (Nat.beq c 40) (d::depthsL t (Nat.succ d)) (depthsL t (Nat.pred d))
def minM (a b:Nat):Nat:=bc (Nat.ble a b) a b
def maxM (a b:Nat):Nat:=bc (Nat.ble a b) b a
def farD (a:Nat):Nat->List Nat->List Nat
 | _,[]=>[]
 | m,x::t=>Nat.sub (Nat.add a x) (Nat.mul 2 (minM a (Nat.pred (minM m x))))::farD a (minM m x) t
def zipM:List Nat->List Nat->List Nat
 | x::a,y::b=>maxM x y::zipM a b
 | _,_=>[]
def maxL:List Nat->Nat
 | []=>0
 | x::t=>maxM x (maxL t)
def reachD:List Nat->List Nat
 | []=>[]
 | a::t=>maxL (farD a 100 t)::zipM (reachD t) (farD a 100 t)
def sizeA (d:Nat):List Nat->Nat
 | []=>1
 | x::t=>bc (Nat.ble (Nat.succ d) x) (Nat.succ (sizeA d t)) 1
def sizesD:List Nat->List Nat
 | []=>[]
 | d::t=>sizeA d t::sizesD t
def kidM (d:Nat):List Nat->Nat
 | []=>0
 | x::t=>bc (Nat.ble (Nat.succ d) x) (bc (Nat.beq x (Nat.succ d)) (maxM (sizeA x t) (kidM d t)) (kidM d t)) 0
def loadD (n:Nat):List Nat->List Nat
 | []=>[]
 | d::t=>maxM (Nat.sub n (sizeA d t)) (kidM d t)::loadD n t
def topsA (d:Nat):List Nat->Nat
 | []=>1
 | x::t=>bc (Nat.ble (Nat.succ d) x) (bc (Nat.beq x (Nat.succ d)) (Nat.mul (Nat.succ (topsA x t)) (topsA d t)) (topsA d t)) 1
def topsD:List Nat->List Nat
 | []=>[]
 | d::t=>topsA d t::topsD t
def toI:List Nat->List Int
 | []=>[]
 | x::t=>.ofNat x::toI t
def sizesL (l:List Nat):List Int:=toI (sizesD (depthsL l 0))
def reachL (l:List Nat):List Int:=toI (reachD (depthsL l 0))
def loadL (l:List Nat):List Int:=toI (loadD (lenL (depthsL l 0)) (depthsL l 0))
def topsL (l:List Nat):List Int:=toI (topsD (depthsL l 0))
def eqI:List AV->List Int->Bool
 | [],[]=>true
 | x::l,y::L=>match x with
  | .int k a=>bc (Nat.beq k 3) (bc (ieq a y) (eqI l L) false) false
  | _=>false
 | _,_=>false
theorem ieq_eq {a b:Int} (h:ieq a b=true):a=b:=by
 cases a <;> cases b <;> first | (have:=Nat.eq_of_beq_eq_true (show Nat.beq _ _=true from h);rw [this]) | cases h
theorem eqI_eq:∀{l:List AV} {L:List Int},eqI l L=true->l=ints L
 | [],[],_=>rfl
 | [],_::_,e=>by cases e
 | _::_,[],e=>by cases e
 | x::l,y::L,e=>by
  cases x with
  | int k a=>
   have e:bc (Nat.beq k 3) (bc (ieq a y) (eqI l L) false) false=true:=e
   cases h1:Nat.beq k 3 with
   | false=>rw [h1] at e;cases e
   | true=>
    rw [h1,bc_true] at e
    cases h2:ieq a y with
    | false=>rw [h2] at e;cases e
    | true=>
     rw [h2,bc_true] at e
     rw [Nat.eq_of_beq_eq_true h1,ieq_eq h2,eqI_eq e];rfl
  | _=>cases e
def lenZ:List Int->Nat
 | []=>0
 | _::t=>Nat.succ (lenZ t)
theorem lenZ_eq:∀L:List Int,lenZ L=L.length
 | []=>rfl
 | _::t=>by show Nat.succ (lenZ t)=_;rw [lenZ_eq t];rfl
def isOsl (x:AV) (h:H) (L:List Int):Bool:=match x with
 | .osl b o n es=>bc (Nat.beq o 0) (bc (Nat.beq es 1) (bc (Nat.beq n (lenZ L)) (match h.get b with
  | .cells fl l=>bc (Nat.beq fl 0) (eqI l L) false
  | _=>false) false) false) false
 | _=>false
theorem isOsl_some {x:AV} {h:H} {L:List Int} (e:isOsl x h L=true):∃b,x = .osl b 0 L.length 1/\h.get b = .cells 0 (ints L):=by
 cases x with
 | osl b o n es=>
  obtain ⟨G,hG⟩:∃G,h.get b=G:=⟨_,rfl⟩
  have e:bc (Nat.beq o 0) (bc (Nat.beq es 1) (bc (Nat.beq n (lenZ L)) (match h.get b with
   | .cells fl l=>bc (Nat.beq fl 0) (eqI l L) false
   | _=>false) false) false) false=true:=e
  rw [hG] at e
  cases h1:Nat.beq o 0 with
  | false=>rw [h1] at e;cases e
  | true=>
   rw [h1,bc_true] at e
   cases h2:Nat.beq es 1 with
   | false=>rw [h2] at e;cases e
   | true=>
    rw [h2,bc_true] at e
    cases h3:Nat.beq n (lenZ L) with
    | false=>rw [h3] at e;cases e
    | true=>
     rw [h3,bc_true] at e
     cases G with
     | cells fl l=>
      have e:bc (Nat.beq fl 0) (eqI l L) false=true:=e
      cases h4:Nat.beq fl 0 with
      | false=>rw [h4] at e;cases e
      | true=>
       rw [h4,bc_true] at e
       rw [Nat.eq_of_beq_eq_true h1,Nat.eq_of_beq_eq_true h2,Nat.eq_of_beq_eq_true h3,lenZ_eq]
       exact ⟨b,rfl,by rw [hG,Nat.eq_of_beq_eq_true h4,eqI_eq e]⟩
     | _=>cases e
 | _=>cases e
def isRowB (r:Option R) (L:List Int):Bool:=match r with
 | some (x,h)=>isOsl x h L
 | none=>false
def isRowT (r:Option R) (L:List Int):Bool:=match r with
 | some (.one .tup (.cons x (.cons (.bool b) (.leaf .nil))),h)=>bc b (isOsl x h L) false
 | _=>false
theorem isRowB_some {r:Option R} {L:List Int} (e:isRowB r L=true):∃b h',r=some (rowV false b L,h')/\h'.get b = .cells 0 (ints L):=by
 unfold isRowB at e
 split at e
 · obtain ⟨b,rfl,h2⟩:=isOsl_some e;exact ⟨b,_,rfl,h2⟩
 · cases e
theorem isRowT_some {r:Option R} {L:List Int} (e:isRowT r L=true):∃b h',r=some (rowV true b L,h')/\h'.get b = .cells 0 (ints L):=by
 unfold isRowT at e
 split at e
 · rename_i x bb h
   cases bb with
   | false=>cases e
   | true=>rw [bc_true] at e;obtain ⟨b,rfl,h2⟩:=isOsl_some e;exact ⟨b,_,rfl,h2⟩
 · cases e
def fnNo (a:AV):Nat:=match a with
 | .func (.func k) (.leaf .nil) (.leaf .nil)=>k
 | _=>0
theorem fnNo_eq {a:AV} {k:Nat} (hk:k≠0) (h:Nat.beq (fnNo a) k=true):a = .func (.func k) (.leaf .nil) (.leaf .nil):=by
 have h:=Nat.eq_of_beq_eq_true h
 unfold fnNo at h
 split at h
 · rw [h]
 · exact absurd h.symm hk
def noRow:AV:=.one .tup (.cons (.leaf .nils) (.cons (.bool false) (.leaf .nil)))
end
end Go.AI.T
