/- What is no tree is told as none by both. -/
import Derived.Test.YtecliakkmgoglaaGreatDoorFnAtFn
import Derived.KernelRfl
set_option linter.unusedVariables false
set_option linter.unusedSimpArgs false
set_option maxRecDepth 100000
namespace Go.AI.T
open Go Go.RowKit Go.AI
open Go.AI.T.Q (c_impl_nodeIn)
noncomputable section
theorem nn (F g:Nat) (v:Int) (h:H):c_impl_isNoNode F g (.one (.iface 71) (.one .agg (.cons (.int 3 v) (.leaf .nil)))) h=bc (pinOk h) (some (.bool true,h)) none:=by kernel_rfl
section
variable (F g:Nat) {l:List Nat} {n:Nat} (v:Int) (hn:lenL l=n) (hm:n<=1048576) (ht:isTree l=false)
include hn ht
theorem bad_node (h:H):c_spec_l1Node F g (.str l n) (.int 3 v) h=some (.bool false,h):=by
 unfold c_spec_l1Node;rw [zaog hn ht];kernel_rfl
theorem bad_spec (h:H):c_spec_MiddleAt F g (.str l n) (.int 3 v) h=some ((AV.one .tup (.cons (.str [] 0) (.cons (.bool false) (.leaf .nil)))),h):=by
 unfold c_spec_MiddleAt;rw [bad_node F g v hn ht];kernel_rfl
include hm
theorem bad_in (h:H):c_impl_nodeIn F g (.str l n) (.int 3 v) h=some (AV.one .tup (.cons (.leaf .nilp) (.cons (.one (.iface 71) (.one .agg (.cons (.int 3 v) (.leaf .nil)))) (.leaf .nil))),h):=by
 unfold c_impl_nodeIn;rw [zam7 hn hm ht];kernel_rfl
theorem bad_impl (h:H):c_impl_MiddleAt F g (.str l n) (.int 3 v) h=bc (pinOk h) (some ((AV.one .tup (.cons (.str [] 0) (.cons (.bool false) (.leaf .nil)))),h)) none:=by
 unfold c_impl_MiddleAt;rw [bad_in F g v hn hm ht]
 rw [bindR_some']
 rw [zat6,zaui,nn]
 cases hp:pinOk h with
 | true=>kernel_rfl
 | false=>kernel_rfl
end
theorem bad_FnAt (B:Blk) (N g:Nat) {l:List Nat} {n:Nat} (z:Int) (hn:lenL l=n) (hm:n<=1048576) (ht:isTree l=false):tells (c_laws_FnAt_r11 (N+5) g (.one .tup (.cons (.str l n) (.cons (.int 3 z) (.leaf .nil)))) (hCode B))=true:=by
 delta c_laws_FnAt_r11
 rw [zat6,zaui,bad_impl (N+5) g z hn hm ht,show pinOk (hCode B)=true from rfl,bc_true,bindR_some',zat6,zaui,bad_spec (N+5) g z hn ht,bindR_some',zat6,zaui]
 kernel_rfl
def one_FnAt (B:Blk) (l:List Nat) (z:Int):Bool:=tells (c_laws_FnAt_r11 2097152 20 (.one .tup (.cons (.str l (lenL l)) (.cons (.int 3 z) (.leaf .nil)))) (hCode B))
def low_FnAt (B:Blk) (l:List Nat) (k:Nat):Bool:=@Nat.rec (fun _=>Bool) true (fun j r=>bc (bc (Nat.ble j (Nat.div (lenL l) 2)) (one_FnAt B l (.ofNat j)) true) r false) k
def ok_FnAt (B:Blk) (l:List Nat):Bool:=bc (Nat.ble (lenL l) 16) (bc (one_FnAt B l (.negSucc 0)) (low_FnAt B l 9) false) true
theorem low_FnAt_some {B:Blk} {l:List Nat}:∀k,low_FnAt B l k=true->∀j,j<k->j<=lenL l / 2->one_FnAt B l (.ofNat j)=true
 | 0,_,j,hj,_=>by omega
 | k+1,h,j,hj,hd=>by
  have h:bc (bc (Nat.ble k (lenL l / 2)) (one_FnAt B l (.ofNat k)) true) (low_FnAt B l k) false=true:=h
  cases h1:bc (Nat.ble k (lenL l / 2)) (one_FnAt B l (.ofNat k)) true with
  | false=>rw [h1] at h;cases h
  | true=>
   rw [h1,bc_true] at h
   by_cases e:j=k
   · subst e;rw [zaau hd,bc_true] at h1;exact h1
   · exact low_FnAt_some k h j (by omega) hd
theorem ok_FnAt_one {B:Blk} {l:List Nat} {z:Int} (h:ok_FnAt B l=true) (hl:l.length<=16) (hz:z = .negSucc 0\/∃j,z = .ofNat j/\j<=l.length / 2+0):one_FnAt B l z=true:=by
 unfold ok_FnAt at h
 rw [zabd,zaau hl,bc_true] at h
 cases h1:one_FnAt B l (.negSucc 0) with
 | false=>rw [h1] at h;cases h
 | true=>
  rw [h1,bc_true] at h
  rcases hz with rfl | ⟨j,rfl,hj⟩
  · exact h1
  · exact low_FnAt_some 9 h j (by omega) (by rw [zabd];omega)
end
end Go.AI.T
