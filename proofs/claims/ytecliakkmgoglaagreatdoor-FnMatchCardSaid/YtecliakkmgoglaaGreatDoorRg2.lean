/- CutMatch, in company. -/
import Derived.Test.YtecliakkmgoglaaGreatDoorRg
import Derived.Test.YtecliakkmgoglaaGreatDoorFreFn
import Derived.KernelRfl
set_option linter.unusedVariables false
set_option linter.unusedSimpArgs false
set_option maxRecDepth 100000
namespace Go.Co
open Go Go.Conc Go.AI Go.RowKit
structure Hd (ι0:Inj) (h0:H) (s0:LG) (w0:World) (X:Nat->Prop) (ι:Inj) (h:H) (s:LG) (w:World):Prop where
 ext:ExtC true ι0 h0 s0 w0 ι h s w
 rel:Rel ι h w
 cov:Cov ι h s
 fit:Fit s w
 hid:∀B,X B->w0.heap.size<=B/\B<w.heap.size/\s.own B/\∀b o z,ι b≠some (B,o,z)
section
variable {ty:TypeId} {ι0 ι ι':Inj} {h0 h h':H} {s0 s s':LG} {w0 w w' w₁:World} {X:Nat->Prop}
theorem Hd.rely (A:Hd ι0 h0 s0 w0 X ι h s w) (r:Rely ty s w w₁):Hd ι0 h0 s0 w0 X ι h s w₁:=
 ⟨A.ext.trans (ExtC.rely A.rel A.cov r),zadm A.rel A.cov r,A.cov,A.fit.rely r,fun B hB=>let ⟨a,b,c,d⟩:=A.hid B hB; ⟨a,Nat.lt_of_lt_of_le b r.size,c,d⟩⟩
theorem Hd.eval (A:Hd ι0 h0 s0 w0 X ι h s w) (e:ExtC true ι h s w ι' h' s' w') (hR:Rel ι' h' w') (hC:Cov ι' h' s') (hF:Fit s' w'):Hd ι0 h0 s0 w0 X ι' h' s' w':=
 ⟨A.ext.trans e,hR,hC,hF,fun B hB=>by
  obtain ⟨a,b,c,d⟩:=A.hid B hB
  refine ⟨a,Nat.lt_of_lt_of_le b e.size,e.mine rfl B c,fun b' o z e'=>?_⟩
  rcases e.dom b' B o z e' with ⟨c',q',z',e2⟩ | h2
  · exact d _ _ _ e2
  · omega⟩
theorem Hd.same (A:Hd ι0 h0 s0 w0 X ι h s w) (e:ExtC true ι h s w ι' h' s' w'):∀B,X B->w'.heap[B]?=w.heap[B]?:=fun B hB=>by
 obtain ⟨a,b,c,d⟩:=A.hid B hB
 exact e.block B (.inl ⟨c,fun ⟨b',o,z,e1,_⟩=>d _ _ _ e1⟩) b
theorem Hd.put (A:Hd ι0 h0 s0 w0 X ι h s w) {B:Nat} (hB:X B) (x:Obj):Hd ι0 h0 s0 w0 X ι h s (w.putObj B x):=by
 obtain ⟨a,b,c,d⟩:=A.hid B hB
 have hk:∀k,k≠B->(w.putObj B x).heap[k]?=w.heap[k]?:=fun k hk=>World.putObj_heap_other (by first | exact hk | exact fun e=>hk e.symm)
 exact {
  ext:=⟨A.ext.le,A.ext.os,A.ext.tape,A.ext.output,by simpa using A.ext.size,A.ext.kid,A.ext.fk,A.ext.ro,A.ext.mine,A.ext.roW,A.ext.mineW,fun C hC=>(A.ext.newR C hC).imp id fun h=>h.imp id fun h=>⟨h.1,by simpa using h.2⟩,fun C hC=>(A.ext.new C hC).imp id fun h=>⟨h.1,by simpa using h.2⟩,
   fun C hC hlt=>(hk C (by omega)).trans (A.ext.block C hC hlt),A.ext.own,A.ext.num,A.ext.lo,A.ext.keep,fun b' C o z h1 h2 h3 h4=>(hk C (by rintro rfl;exact d b' o z (A.ext.le _ _ h4))).trans (A.ext.keepW b' C o z h1 h2 h3 h4),A.ext.dom⟩
  rel:=zaeo A.rel (by simp) fun b' C o z e=>hk C (by rintro rfl;exact d _ _ _ e)
  cov:=A.cov
  fit:=⟨A.fit.U,A.fit.apart,fun C hC=>by simpa using A.fit.lt C hC,A.fit.busy,trivial⟩
  hid:=fun C hC=>let ⟨a,b,c,d⟩:=A.hid C hC; ⟨a,by simpa using b,c,d⟩ }
theorem heap_two (w:World) (x y:Obj) (k:Nat) (h:k<w.heap.size):((w.alloc x).alloc y).heap[k]?=w.heap[k]?:=(Below.heap_alloc _ y k (by simp;omega)).trans (Below.heap_alloc w x k h)
theorem own1_two (s:LG) (w:World) (hlt:∀b,s.own b\/s.ro b->b<w.heap.size) (x y:Obj):Own1 ty s w (s.plus w.heap.size (w.heap.size+2)) ((w.alloc x).alloc y) #[]:=
 { tape:=rfl,os:=rfl,output:=rfl,size:=by simp;omega,frame:=fun b hb _=>heap_two w x y b hb,own:=fun b hb=>hb.imp id fun h=>by simpa using h,ro:=fun b hb=>.inl hb,apart:=fun ha _ b hb hr=>hb.elim (fun h=>ha b h hr) fun h=>by have:=hlt b (.inr hr);omega,kid:=rfl,fk:=.inl rfl,ev:=fun e he=>absurd he (by simp),mute:=fun _ _ _=>rfl }
theorem Hd.two (A:Hd ι0 h0 s0 w0 (fun _=>False) ι h s w) (x y:Obj):Hd ι0 h0 s0 w0 (fun B=>B=w.heap.size\/B=w.heap.size+1) ι h (s.plus w.heap.size (w.heap.size+2)) ((w.alloc x).alloc y):=by
 have e:ExtC true ι h s w ι h (s.plus w.heap.size (w.heap.size+2)) ((w.alloc x).alloc y):={
  le:=.refl _,os:=rfl,tape:=rfl,output:=rfl,size:=by simp;omega,kid:=rfl,fk:=rfl
  ro:=fun _=>rfl
  mine:=fun _ B hB=>.inl hB
  roW:=fun B hB=>hB
  mineW:=fun B hB=>.inl (.inl hB)
  newR:=fun B hB=>.inl hB
  new:=fun B hB=>hB.imp id fun h=>by simpa using h
  block:=fun B _ hlt=>heap_two w x y B hlt
  own:=fun B hB=>.inl hB
  num:=Nat.le_refl _,lo:=Nat.le_refl _,keep:=fun _ _ _=>rfl
  keepW:=fun b B o z _ _ _ e=>heap_two w x y B (A.rel.lt _ _ _ _ e)
  dom:=fun b B o z e=>.inl ⟨b,o,z,e⟩ }
 have hR:Rel ι h ((w.alloc x).alloc y):=zaeo A.rel (by simp;omega) fun b B o z e=>heap_two w x y B (A.rel.lt _ _ _ _ e)
 have hF:Fit (s.plus w.heap.size (w.heap.size+2)) ((w.alloc x).alloc y):=by
  have:=A.fit.plus (w':=(w.alloc x).alloc y) (by simp;omega)
  simpa using this
 have hs:=A.ext.size
 refine ⟨A.ext.trans e,hR,⟨fun b B o z e=>(A.cov.all b B o z e).imp .inl id,fun B hB=>.inl (A.cov.own B hB)⟩,hF,fun B hB=>?_⟩
 rcases hB with rfl | rfl
 · exact ⟨hs,by simp;omega,.inr ⟨Nat.le_refl _,by omega⟩,fun b o z e=>by have:=A.rel.lt _ _ _ _ e;omega⟩
 · exact ⟨by omega,by simp,.inr ⟨by omega,by omega⟩,fun b o z e=>by have:=A.rel.lt _ _ _ _ e;omega⟩
section
variable {P:Program} {Post:Value->World->Prop} {main:Bool} {fk:Option Fk} {fn:FuncId} {Γ:Env} {N F:Nat} {kn:K} {kr:K} {r:R} {Q:Out} {a:Act} {c rest:Code} {an:An} {st:St}
theorem hd_step (hΓ:CoSound P ty Post main (fk,true) Γ) (hok:codeOk P true c=true) (e:den P Γ N F c an st h kn (fun _ _ _=>none) kr=some r) (A:Hd ι0 h0 s0 w0 X ι h s w) (hfk:s.fk=fk) (hS:StR ι N st a)
 (hn:∀ι' st' h' a' s' w',Hd ι0 h0 s0 w0 X ι' h' s' w'->s'.fk=fk->StR ι' N st' a'->a'.defers=a.defers->kn st' h'=some r->CoC P ty Post main fn rest Q a' s' w')
 (hr:∀ι' st' h' a' s' w',Hd ι0 h0 s0 w0 X ι' h' s' w'->StR ι' N st' a'->a'.defers=a.defers->(∀B,X B->w'.heap[B]?=w.heap[B]?)->kr st' h'=some r->Q .ret a' s' w'):CoC P ty Post main fn (.seq c rest) Q a s w:=by
 refine co_seq ((zagz (fk0:=(fk,true)) hΓ c an st h _ _ _ r hok e ι a s w A.rel A.cov A.fit hfk hS).1.mono fun ex a1 s1 w1 hp=>?_)
 obtain ⟨ι1,st1,h1,hE,hR1,hC1,hF1,hS1,hd,hk⟩:=hp
 cases ex with
 | normal=>exact hn _ _ _ _ _ _ (A.eval hE hR1 hC1 hF1) (hE.fk.trans hfk) hS1 hd hk
 | ret=>exact hr _ _ _ _ _ _ (A.eval hE hR1 hC1 hF1) hS1 hd (A.same hE) hk
 | exit i=>cases hk
 | goto l=>exact hk.elim
 | panic c=>exact hk.elim
 | outgrown=>exact hk.elim
theorem hd_ex (hΓ:CoSound P ty Post main (fk,true) Γ) (hok:codeOk P true c=true) (e:den P Γ N F c an st h kn (fun _ _ _=>none) kr=some r) (A:Hd ι0 h0 s0 w0 X ι h s w) (hfk:s.fk=fk) (hS:StR ι N st a) :
 ∃ι' st' h' a' s' w',Hd ι0 h0 s0 w0 X ι' h' s' w'/\s'.fk=fk/\StR ι' N st' a'/\ι.le ι'/\(kn st' h'=some r\/kr st' h'=some r):=by
 obtain ⟨ex,a1,s1,w1,hp⟩:=(zagz (fk0:=(fk,true)) (fn:=0) hΓ c an st h _ _ _ r hok e ι a s w A.rel A.cov A.fit hfk hS).2
 obtain ⟨ι1,st1,h1,hE,hR1,hC1,hF1,hS1,hd,hk⟩:=hp
 cases ex with
 | normal=>exact ⟨_,_,_,_,_,_,A.eval hE hR1 hC1 hF1,hE.fk.trans hfk,hS1,hE.le,.inl hk⟩
 | ret=>exact ⟨_,_,_,_,_,_,A.eval hE hR1 hC1 hF1,hE.fk.trans hfk,hS1,hE.le,.inr hk⟩
 | exit i=>cases hk
 | goto l=>exact hk.elim
 | panic c=>exact hk.elim
 | outgrown=>exact hk.elim
end
end
end Go.Co
namespace Go.AI.T
open Go Go.RowKit Go.AI Go.Conc Go.Co Go.Co.Cnt Go.Proofs.Tryz
open Go.AI.T.Q (c_impl_node_nodes co_impl_node_nodes)
noncomputable section
def slEq (b o n:Nat) (x:AV):Bool:=x.onSl false (fun _=>false) (fun b' o' n' c'=>bc (Nat.ble n' c') (bc (Nat.beq b b') (bc (Nat.beq o o') (Nat.beq n n') false) false) false) (fun b' o' n' _=>bc (Nat.beq b b') (bc (Nat.beq o o') (Nat.beq n n') false) false)
theorem slEq_val {b o n:Nat} {x:AV} {ι:Inj} {v:Value} (h:slEq b o n x=true) (hv:VR ι x v):(∃A c,v = .slice (some A) n c)/\(1<=n->∃B base sz c,ι b=some (B,base,sz)/\v = .slice (some ⟨B,base+o,none⟩) n c/\n<=c):=by
 have key:∀b' o' n':Nat,bc (Nat.beq b b') (bc (Nat.beq o o') (Nat.beq n n') false) false=true->b=b'/\o=o'/\n=n':=fun b' o' n' h=>by
  cases h1:Nat.beq b b' with
  | false=>rw [h1] at h;cases h
  | true=>
   rw [h1,bc_true] at h
   cases h2:Nat.beq o o' with
   | false=>rw [h2] at h;cases h
   | true=>rw [h2,bc_true] at h;exact ⟨Nat.eq_of_beq_eq_true h1,Nat.eq_of_beq_eq_true h2,Nat.eq_of_beq_eq_true h⟩
 cases x using AV.casesE <;> (try (cases h;done))
 case sl b' o' n' c=>
  have h:bc (Nat.ble n' c) (bc (Nat.beq b b') (bc (Nat.beq o o') (Nat.beq n n') false) false) false=true:=h
  cases hb:Nat.ble n' c with
  | false=>rw [hb] at h;cases h
  | true=>
   rw [hb,bc_true] at h
   have hb:=Nat.le_of_ble_eq_true hb
   obtain ⟨rfl,rfl,rfl⟩:=key b' o' n' h
   obtain ⟨B,base,sz,e1,e2⟩:=hv.sl
   exact ⟨⟨_,_,e2⟩,fun _=>⟨B,base,sz,c,e1,e2,hb⟩⟩
 case osl b' o' n' es=>
  obtain ⟨rfl,rfl,rfl⟩:=key b' o' n' h
  refine ⟨?_,fun hn=>?_⟩
  · obtain ⟨A,c,e,_⟩:=hv.osl
    exact ⟨A,c,e⟩
  · obtain ⟨B,base,sz,c,e1,e2,e3,_⟩:=hv.osl1 hn
    exact ⟨B,base,sz,c,e1,e2,e3⟩
def boxOf (x:AV) (k:Nat->Option R):Option R:=match x with
 | .func (.func n) (.leaf .nil) (.cons (.ptr bx 0) (.leaf .nil))=>bc (Nat.beq n 60) (k bx) none
 | _=>none
def sliceOf (s:AV) (k:Nat->Nat->Nat->Option R):Option R:=s.onSl none (fun _=>none) (fun b o n _=>k b o n) (fun b o n _=>k b o n)
def rfX (bx b o n:Nat) (body:AV->AV->H->(H->Option R)->Option R):Nat->H->(H->Option R)->Option R:=
 @Nat.rec (fun _=>H->(H->Option R)->Option R) (fun h k=>withCells h bx fun _ lb=>onSome (nthO lb 0) fun s=>bc (slEq b o n s) (k h) none)
  (fun m rec h k=>withCells h bx fun _ lb=>onSome (nthO lb 0) fun s=>bc (slEq b o n s) (withCells h b fun _ l=>onSome (nthO l (Nat.add o m)) fun x=>body (.int 3 (.ofNat m)) x h (fun h2=>rec h2 k)) none)
def rfC (fv:AV) (h:H) (body:AV->AV->H->(H->Option R)->Option R) (k:H->Option R):Option R:=
 boxOf fv fun bx=>withCells h bx fun _ lb=>onSome (nthO lb 0) fun s=>sliceOf s fun b o n=>bc (Nat.ble n 999999) (rfX bx b o n body n h k) none
def c_slices_Backward_4168 (F g:Nat) (a0:AV) (h:H):Option R:=aBox a0 h fun x1 h=>aMakeF (.func 60) [] [x1] h fun x2 h=>some (x2,h)
def A_slices_Backward_4168:An:=(.two .o (.two .o .o))
def b_slices_Backward_4168:Code:=bodyOf f38
theorem k_slices_Backward_4168 (F g:Nat) (a0:AV) (h:H):callD prog (fun _ _ _=>none) 4 F b_slices_Backward_4168 [2] A_slices_Backward_4168 [a0] h=c_slices_Backward_4168 F g a0 h:=by kernel_rfl
theorem co_slices_Backward_4168 {Post:Value->World->Prop} {main:Bool} {fk:Option Fk} (F g:Nat):∀args h r,u1 (c_slices_Backward_4168 F g) args h=some r->CoTri prog tW Post main (fk,true) 38 args h r:=by
 intro args h r e;obtain ⟨a0,rfl,e1⟩:=zae6 e;exact zabz func38 rfl rfl rfl ntmps38 (by kernel_rfl) (CoSound.none _ _ _ _ _) ((k_slices_Backward_4168 F g a0 h).trans e1)
def c_impl_CutMatch_j1 (F g:Nat) (kc14:H->Option R) (vs:List AV) (h:H):Option R:=(fun x21 x22 x23 x24 x25=>aPick x24 x25 (AV.bool false) h fun x26 h=>withBool x26 fun t27=>bc t27 (aNilCheck x23 h fun x28 h=>aField 1 x28 h fun x29 h=>aLoad x29 h fun x30 h=>aNilCheck x30 h fun x31 h=>aField 0 x31 h fun x32 h=>aLoad x32 h fun x33 h=>aIdxArr 1 9 x22 x33 h fun x34 h=>aStore x34 (AV.bool true) h fun x35 h=>aLoad x21 h fun x36 h=>aArith iadd x36 (AV.int 3 (Int.ofNat 1)) h fun x37 h=>aStore x21 x37 h fun x38 h=>kc14 h) (kc14 h)) (hd vs) (hd (tl vs)) (hd (tl (tl vs))) (hd (tl (tl (tl vs)))) (hd (tl (tl (tl (tl vs)))))
def c_impl_CutMatch (F g:Nat) (a0:AV) (h:H):Option R:=bindR (c_impl_readTree F g a0 h) fun x1 h=>aExtract x1 0 h fun x2 h=>aExtract x1 1 h fun x3 h=>aNot x3 h fun x4 h=>withBool x4 fun t5=>bc t5 (some (AV.one .tup (AV.cons (AV.int 3 (Int.ofNat 0)) (AV.cons (AV.bool false) (AV.leaf .nil))),h)) (aAlloc [(AV.int 3 (Int.ofNat 0))] h fun x6 h=>aStore x6 (AV.int 3 (Int.ofNat 0)) h fun x7 h=>aAlloc [(AV.bool false),(AV.bool false),(AV.bool false),(AV.bool false),(AV.bool false),(AV.bool false),(AV.bool false),(AV.bool false),(AV.bool false)] h fun x8 h=>bindR (c_impl_node_nodes F g x2 h) fun x9 h=>aSliceV 1 x9 (some (AV.int 3 (Int.ofNat 1))) none none h fun x10 h=>bindR (c_slices_Backward_4168 F g x10 h) fun x11 h=>rfC x11 h (fun x12 x13 h kc14=>aNilCheck x13 h fun x15 h=>aField 0 x15 h fun x16 h=>aLoad x16 h fun x17 h=>aIdxArr 1 9 x8 x17 h fun x18 h=>aLoad x18 h fun x19 h=>aNot x19 h fun x20 h=>guardB true x20 (aNilCheck x13 h fun x39 h=>aField 1 x39 h fun x40 h=>aLoad x40 h fun x41 h=>aNilCheck x41 h fun x42 h=>aField 0 x42 h fun x43 h=>aLoad x43 h fun x44 h=>aIdxArr 1 9 x8 x44 h fun x45 h=>aLoad x45 h fun x46 h=>aNot x46 h fun x47 h=>(c_impl_CutMatch_j1 F g kc14) [x6,x8,x13,x20,x47] h) ((c_impl_CutMatch_j1 F g kc14) [x6,x8,x13,x20,(AV.one .tup (AV.leaf .nil))] h)) fun h=>aLoad x6 h fun x48 h=>some (AV.one .tup (AV.cons x48 (AV.cons (AV.bool true) (AV.leaf .nil))),h))
def sa:Code->Code | .seq a _=>a | c=>c
def sb:Code->Code | .seq _ b=>b | c=>c
def bl:Code->Code | .block _ c=>c | c=>c
def ra:Code->Code | .rangeFunc _ _ a _=>a | c=>c
def rb:Code->Code | .rangeFunc _ _ _ b=>b | c=>c
def cB:Code:=bodyOf f17
def m0:Code:=sa cB
def m1:Code:=sa (sb cB)
def m2:Code:=sa (sb (sb cB))
def m4:Code:=sa (sb (sb (sb cB)))
def m5:Code:=sa (sb (sb (sb (sb cB))))
def mX:Code:=sb (sb (sb (sb (sb cB))))
def m6:Code:=sa (sa mX)
def mR:Code:=bl (sb (sa mX))
def mA:Code:=ra mR
def mB:Code:=rb mR
def mS:Code:=sb mX
theorem shape:f17.body=some (.seq m0 (.seq m1 (.seq m2 (.seq m4 (.seq m5 (.seq (.seq m6 (.block 0 (.rangeFunc (.tmp 20) #[21,22] mA mB))) mS)))))):=by kernel_rfl
theorem flatA:flatC mA=true:=by kernel_rfl
theorem flatB:flatC mB=true:=by kernel_rfl
abbrev aB:An:=(.two (.two (.at_ [6,7,9,30,40] .o .o) (.two (.two .o .o) .o)) .o)
abbrev mG (F g:Nat):Env:=(Env.add (Env.add (Env.add (fun _ _ _=>none:Env) 27 (u1 (c_impl_readTree F g))) 39 (u1 (c_impl_node_nodes F g))) 38 (u1 (c_slices_Backward_4168 F g)))
theorem mG_sound {Post:Value->World->Prop} {main:Bool} {fk:Option Fk} (F g:Nat):CoSound prog tW Post main (fk,true) (mG F g):=CoSound.add (CoSound.add (CoSound.add (CoSound.none _ _ _ _ _) (co_impl_readTree F g)) (co_impl_node_nodes F g)) (co_slices_Backward_4168 F g)
abbrev kE:Nat->K:=fun _ _ _=>none
abbrev kZ:K:=fun _ _=>none
def kR:K:=fun st h=>some (resA [2,3] st,h)
def mBody (F g:Nat) (st:St):AV->AV->H->(H->Option R)->Option R:=fun i x h kc=>den prog (mG F g) 53 F mA .o ((22,x)::(21,i)::st) h (fun st1 h1=>den prog (mG F g) 53 F mB aB st1 h1 (fun _ h2=>kc h2) kE kZ) kE kZ
def mEnd (F g:Nat) (st:St):H->Option R:=fun h2=>den prog (mG F g) 53 F mS (.two .o .o) st h2 kZ kE kR
def mD (F g:Nat) (a0:AV) (h:H):Option R:=
 den prog (mG F g) 53 F m0 .o (mkInit 0 [a0]) h (fun st h=>den prog (mG F g) 53 F m1 .o st h (fun st h=>den prog (mG F g) 53 F m2 (.two .o (.two (.two .o .o) .o)) st h (fun st h=>
  den prog (mG F g) 53 F m4 .o st h (fun st h=>den prog (mG F g) 53 F m5 .o st h (fun st h=>den prog (mG F g) 53 F m6 .o st h (fun st h=>rfC (get st 20) h (mBody F g st) (mEnd F g st)) kE kR) kE kR) kE kR) kE kR) kE kR) kE kR
theorem k_m (F g:Nat) (a0:AV) (h:H):mD F g a0 h=c_impl_CutMatch F g a0 h:=by kernel_rfl
theorem boxOf_some {x:AV} {k:Nat->Option R} {r:R} (e:boxOf x k=some r):∃bx,x = .func (.func 60) (.leaf .nil) (.cons (.ptr bx 0) (.leaf .nil))/\k bx=some r:=by
 unfold boxOf at e
 split at e
 · rename_i n bx
   obtain ⟨h1,e⟩:=zaac e
   have:=Nat.eq_of_beq_eq_true h1
   subst this
   exact ⟨bx,rfl,e⟩
 · cases e
theorem rfX_box {bx b o n:Nat} {body:AV->AV->H->(H->Option R)->Option R} {h:H} {k:H->Option R} {r:R}:∀{m:Nat},rfX bx b o n body m h k=some r->∃fl lb s,h.get bx = .cells fl lb/\lb[0]?=some s/\slEq b o n s=true
 | 0,e=>by
  obtain ⟨fl,lb,hb,e1⟩:=zaae (show (withCells h bx fun _ lb=>onSome (nthO lb 0) fun s=>bc (slEq b o n s) (k h) none)=some r from e)
  obtain ⟨s,hs,e2⟩:=zaay e1
  rw [zads] at hs
  exact ⟨fl,lb,s,hb,hs,(zaac e2).1⟩
 | m+1,e=>by
  obtain ⟨fl,lb,hb,e1⟩:=zaae (show (withCells h bx fun _ lb=>onSome (nthO lb 0) fun s=>bc (slEq b o n s) (withCells h b fun _ l=>onSome (nthO l (Nat.add o m)) fun x=>body (.int 3 (.ofNat m)) x h (fun h2=>rfX bx b o n body m h2 k)) none)=some r from e)
  obtain ⟨s,hs,e2⟩:=zaay e1
  rw [zads] at hs
  exact ⟨fl,lb,s,hb,hs,(zaac e2).1⟩
theorem rfX_succ {bx b o n m:Nat} {body:AV->AV->H->(H->Option R)->Option R} {h:H} {k:H->Option R} {r:R} (e:rfX bx b o n body (m+1) h k=some r):∃fl l x,h.get b = .cells fl l/\l[o+m]?=some x/\body (.int 3 (.ofNat m)) x h (fun h2=>rfX bx b o n body m h2 k)=some r:=by
 obtain ⟨fl,lb,hb,e1⟩:=zaae (show (withCells h bx fun _ lb=>onSome (nthO lb 0) fun s=>bc (slEq b o n s) (withCells h b fun _ l=>onSome (nthO l (Nat.add o m)) fun x=>body (.int 3 (.ofNat m)) x h (fun h2=>rfX bx b o n body m h2 k)) none)=some r from e)
 obtain ⟨s,hs,e2⟩:=zaay e1
 obtain ⟨_,e3⟩:=zaac e2
 obtain ⟨fl2,l,hl,e4⟩:=zaae e3
 obtain ⟨x,hx,e5⟩:=zaay e4
 rw [zads] at hx
 exact ⟨fl2,l,x,hl,hx,e5⟩
theorem rfX_zero {bx b o n:Nat} {body:AV->AV->H->(H->Option R)->Option R} {h:H} {k:H->Option R} {r:R} (e:rfX bx b o n body 0 h k=some r):k h=some r:=by
 obtain ⟨fl,lb,hb,e1⟩:=zaae (show (withCells h bx fun _ lb=>onSome (nthO lb 0) fun s=>bc (slEq b o n s) (k h) none)=some r from e)
 obtain ⟨s,hs,e2⟩:=zaay e1
 exact (zaac e2).2
theorem ok_m0:codeOk prog true m0=true:=by kernel_rfl
theorem ok_m1:codeOk prog true m1=true:=by kernel_rfl
theorem ok_m2:codeOk prog true m2=true:=by kernel_rfl
theorem ok_m4:codeOk prog true m4=true:=by kernel_rfl
theorem ok_m5:codeOk prog true m5=true:=by kernel_rfl
theorem ok_m6:codeOk prog true m6=true:=by kernel_rfl
theorem ok_mA:codeOk prog true mA=true:=by kernel_rfl
theorem ok_mB:codeOk prog true mB=true:=by kernel_rfl
theorem ok_mS:codeOk prog true mS=true:=by kernel_rfl
end
end Go.AI.T
namespace Go.AI.T
open Go Go.RowKit Go.AI Go.Conc Go.Co Go.Co.Cnt Go.Proofs.Tryz
open Go.AI.T.Q (c_impl_node_nodes co_impl_node_nodes)
noncomputable section
section
variable {Post:Value->World->Prop} {main:Bool} {fk:Option Fk} {ι0 ι6 ι:Inj} {h0 h6 h:H} {s0 s6 s:LG} {w0 w6 w:World} {st6:St} {a6:Act} {r:R} {F g:Nat}
structure JJ (ι0:Inj) (h0:H) (s0:LG) (w0:World) (fk:Option Fk) (ι6:Inj) (st6:St) (F g:Nat) (r:R) (bx b o n D:Nat) (rc:Loop) (i:Nat) (s:LG) (w:World):Prop where
 ex:∃ι h,Hd ι0 h0 s0 w0 (fun B=>B=D\/B=D+1) ι h s w/\ι6.le ι/\rfX bx b o n (mBody F g st6) (n - i) h (mEnd F g st6)=some r
 fk:s.fk=fk
 dd:w.heap[D]?=some (.deferred (some []))
 lp:w.heap[D+1]?=some (.loop rc)
variable {bx b o n D:Nat} {rc:Loop} {i:Nat} {w₁:World}
theorem JJ.own (j:JJ ι0 h0 s0 w0 fk ι6 st6 F g r bx b o n D rc i s w):s.own D/\s.own (D+1):=let ⟨_,_,A,_⟩:=j.ex; ⟨(A.hid D (.inl rfl)).2.2.1,(A.hid (D+1) (.inr rfl)).2.2.1⟩
theorem JJ.rely (j:JJ ι0 h0 s0 w0 fk ι6 st6 F g r bx b o n D rc i s w) (q:Rely tW s w w₁):JJ ι0 h0 s0 w0 fk ι6 st6 F g r bx b o n D rc i s w₁:=by
 obtain ⟨oD,oL⟩:=j.own
 obtain ⟨ι,h,A,hl,e⟩:=j.ex
 exact ⟨⟨ι,h,A.rely q,hl,e⟩,j.fk,(q.own _ oD).trans j.dd,(q.own _ oL).trans j.lp⟩
theorem JJ.box (j:JJ ι0 h0 s0 w0 fk ι6 st6 F g r bx b o n D rc i s w) {BX OB sz B q:Nat} (ibx:ι6 bx=some (BX,OB,sz)) (hBq:1<=n->∃base sz,ι6 b=some (B,base,sz)/\q=base+o) :
 ∃c e fr cap A,(s.own BX\/s.ro BX)/\w.heap[BX]?=some (.cells c e fr)/\c[OB]?=some (.slice (some A) n cap)/\(1<=n->A=⟨B,q,none⟩):=by
 obtain ⟨ι,h,A,hl,e⟩:=j.ex
 obtain ⟨fl,lb,sv,hb,hs,he⟩:=rfX_box e
 obtain ⟨c,ty,lo,hi,hh,hsz,hcc,_,_⟩:=A.rel.cells hb (hl _ _ ibx)
 obtain ⟨v,hv,hvr⟩:=hcc 0 sv hs
 obtain ⟨⟨A1,cap,rfl⟩,h1⟩:=slEq_val he hvr
 refine ⟨c,ty,(lo,hi),cap,A1,A.cov.all _ _ _ _ (hl _ _ ibx),hh,by simpa using hv,fun hn=>?_⟩
 obtain ⟨B',base',sz',c',ib',e1,_⟩:=h1 hn
 obtain ⟨base,sz2,ib,rfl⟩:=hBq hn
 have:=hl _ _ ib
 rw [ib'] at this
 cases this
 injection e1 with e2 _
 exact Option.some.inj e2
theorem JJ.round (j:JJ ι0 h0 s0 w0 fk ι6 st6 F g r bx b o n D rc i s w) (S6:StR ι6 53 st6 a6) (hrc:rc={ state:=.ready,pending:=none,fn:=17,tmps:=a6.tmps,params:= #[21,22],assign:=mA,body:=mB,defers:=D }) {B q:Nat} (hBq:1<=n->∃base sz,ι6 b=some (B,base,sz)/\q=base+o) (hin:i<n) :
 ∃c e fr v,(s.own B\/s.ro B)/\w.heap[B]?=some (.cells c e fr)/\c[q+(n - 1 - i)]?=some v/\∀(fb:Frame) (cs:List Frame),(∀s' w',JJ ι0 h0 s0 w0 fk ι6 st6 F g r bx b o n D rc (i+1) s' w'->Walk prog tW Post main s' (G (fb.finish (.bool true)) cs) w')->
  Walk prog tW Post main s (G (rf (D+1) rc.fn ⟨(rc.params.zip #[.int .i64 ((n - 1 - i:Nat):Int),v]).foldl (fun tmps (t,a)=>tmps.setIfInBounds t a) rc.tmps,[]⟩ [.code rc.assign,.beginRound,.code rc.body]) (fb::cs)) w:=by
 have jfk:=j.fk
 have jd:=j.dd
 have jl:=j.lp
 obtain ⟨ι,h,A,hl,e⟩:=j.ex
 obtain ⟨m,hm⟩:∃m,n - i=m+1:=⟨n - i - 1,by omega⟩
 have hm2:n - 1 - i=m:=by omega
 have hm3:n - (i+1)=m:=by omega
 rw [hm] at e
 rw [hm2]
 obtain ⟨fl,lst,x,hb,hx,k5⟩:=rfX_succ e
 obtain ⟨base,sz,ib,rfl⟩:=hBq (by omega)
 obtain ⟨c,ty,lo,hi,hh,hsz2,hcc,_,_⟩:=A.rel.cells hb (hl _ _ ib)
 obtain ⟨v,hv,hvr⟩:=hcc (o+m) x hx
 refine ⟨c,ty,(lo,hi),v,A.cov.all _ _ _ _ (hl _ _ ib),hh,by rw [<- hv];congr 1;omega,fun fb cs hk=>?_⟩
 subst hrc
 have hS1:StR ι 53 ((22,x)::(21,.int 3 (.ofNat m))::st6) { tmps:=(#[21,22].zip #[.int .i64 ((m:Nat):Int),v]).foldl (fun t (p,v)=>t.setIfInBounds p v) a6.tmps,defers:=[] }:=by
  have h1:=(S6.mono hl).put 21 (.int 3 (.ofNat m)) (.int .i64 ((m:Nat):Int)) (by omega) (rfl:VR ι (.int 3 (.ofNat m)) (.int (kd 3) (.ofNat m)))
  have h2:=h1.put 22 x v (by omega) hvr
  have ht:(#[21,22].zip #[Value.int .i64 ((m:Nat):Int),v]).foldl (fun t (p,v)=>t.setIfInBounds p v) a6.tmps=((a6.put (some 21) (.int .i64 ((m:Nat):Int))).put (some 22) v).tmps:=by
   have hz:(#[21,22]:Array Nat).zip #[Value.int .i64 ((m:Nat):Int),v] = #[(21,Value.int .i64 ((m:Nat):Int)),(22,v)]:=by
    apply Array.ext'
    simp
   rw [hz]
   rfl
  rw [ht]
  exact ⟨h2.size,h2.at_⟩
 have hΓ:=mG_sound (Post:=Post) (main:=main) (fk:=fk) F g
 refine den_R (lr:=D+1) (fn:=17) (fk0:=(fk,true)) hΓ mA _ _ _ _ _ _ _ flatA k5 ι _ s w A.rel A.cov A.fit jfk hS1 [.beginRound,.code mB] (fb::cs) fun ex a1 s1 w1 hp=>?_
 obtain ⟨ι1,st1,h1,E1,R1,C1,F1,S1,_,q1⟩:=hp
 cases ex with
 | normal=>
  have A1:=A.eval E1 R1 C1 F1
  have same1:=A.same E1
  have lp1:=(same1 (D+1) (.inr rfl)).trans jl
  have dd1:=(same1 D (.inl rfl)).trans jd
  refine .mk rfl fun w2 r2=>?_
  have A2:=A1.rely r2
  obtain ⟨oD,oL⟩:s1.own D/\s1.own (D+1):=⟨(A1.hid D (.inl rfl)).2.2.1,(A1.hid (D+1) (.inr rfl)).2.2.1⟩
  have lp2:=(r2.own _ oL).trans lp1
  have dd2:=(r2.own _ oD).trans dd1
  have lt2:D+1<w2.heap.size:=(Array.getElem?_eq_some_iff.1 lp2).1
  refine .own s1 _ _ _ (sR_begin (run_beginRound lp2 rfl)) (own1_put A1.fit.busy oL lt2 _ rfl fun e he=>?_) ?_
  · rw [ev_begin lp2 rfl] at he
    simpa [Array.mem_push] using he
  have A3:=A2.put (B:=D+1) (.inr rfl) (.loop { state:=.busy,pending:=none,fn:=17,tmps:=a6.tmps,params:= #[21,22],assign:=mA,body:=mB,defers:=D })
  have lp3:(w2.putObj (D+1) (.loop { state:=.busy,pending:=none,fn:=17,tmps:=a6.tmps,params:= #[21,22],assign:=mA,body:=mB,defers:=D })).heap[D+1]?=_:=World.putObj_heap_same lt2
  have dd3:(w2.putObj (D+1) (.loop { state:=.busy,pending:=none,fn:=17,tmps:=a6.tmps,params:= #[21,22],assign:=mA,body:=mB,defers:=D })).heap[D]?=_:=(World.putObj_heap_other (by omega)).trans dd2
  refine den_R (lr:=D+1) (fn:=17) (fk0:=(fk,true)) hΓ mB _ _ _ _ _ _ _ flatB q1 ι1 a1 s1 _ A3.rel A3.cov A3.fit (E1.fk.trans jfk) S1 [] (fb::cs) fun ex a2 s2 w4 hp=>?_
  obtain ⟨ι2,st2,h2,E2,R2,C2,F2,S2,_,q2⟩:=hp
  cases ex with
  | normal=>
   have A4:=A3.eval E2 R2 C2 F2
   have same4:=A3.same E2
   have lp4:=(same4 (D+1) (.inr rfl)).trans lp3
   have dd4:=(same4 D (.inl rfl)).trans dd3
   refine .mk rfl fun w5 r5=>?_
   have A5:=A4.rely r5
   obtain ⟨oD,oL⟩:s2.own D/\s2.own (D+1):=⟨(A4.hid D (.inl rfl)).2.2.1,(A4.hid (D+1) (.inr rfl)).2.2.1⟩
   have lp5:=(r5.own _ oL).trans lp4
   have dd5:=(r5.own _ oD).trans dd4
   have lt5:D+1<w5.heap.size:=(Array.getElem?_eq_some_iff.1 lp5).1
   refine .own s2 _ _ _ (sR_end (run_endRound none lp5)) (own1_put A4.fit.busy oL lt5 _ rfl fun e he=>?_) (hk s2 _ ⟨⟨ι2,h2,A5.put (.inr rfl) _,(hl.trans E1.le).trans E2.le,by rw [hm3];exact q2⟩,E2.fk.trans (E1.fk.trans jfk),(World.putObj_heap_other (by omega)).trans dd5,World.putObj_heap_same lt5⟩)
   rw [ev_endR lp5] at he
   simpa [Array.mem_push] using he
  | exit i=>cases q2
  | ret=>cases q2
  | goto l=>exact q2.elim
  | panic c=>exact q2.elim
  | outgrown=>exact q2.elim
 | exit i=>cases q1
 | ret=>cases q1
 | goto l=>exact q1.elim
 | panic c=>exact q1.elim
 | outgrown=>exact q1.elim
end
end
end Go.AI.T
namespace Go.Co
open Go Go.Conc Go.AI Go.RowKit
section
variable {P:Program} {ty:TypeId} {Post:Value->World->Prop} {main:Bool} {s:LG} {w:World}
def outD (P:Program) (ty:TypeId) (fn:Func) (R:Value->LG->World->Prop):Out:=fun e a s w=>
 bodyOut P ty fn R e a s w\/(e = .ret/\∃D,a.defers=[{ target:=.collected D,args:= #[] }]/\Busy s/\s.own D/\w.heap[D]?=some (.deferred (some []))/\∀w₁,Rely ty s w w₁->bodyOut P ty fn R .ret ⟨a.tmps,[]⟩ s (w₁.putObj D (.deferred none)))
theorem ev_callFunc {f:FuncId} {args:Array Value} (h:Callable P f) (w:World):(callFunc f args:Sem Next).events P w #[] = #[]:=by
 obtain ⟨fn,hf,hb,hn⟩:=h
 have h1:fn.name ≠ "runtime.NumGoroutine" := by simpa using hn
 obtain ⟨c,hc⟩:=Option.isSome_iff_exists.1 hb
 simp [callFunc,hf,h1,hc,mark]
theorem co_fnD {f:FuncId} {fn:Func} {c:Code} {args:Array Value} {R:Value->LG->World->Prop} (hf:P.funcs[f]?=some fn) (hb:fn.body=some c)
 (h:CoC P ty Post main f c (outD P ty fn R) { tmps:=args++Array.replicate (fn.ntmps - args.size) undef,defers:=[] } s w):CoF P ty Post main f args R s w:=by
 intro b cs hc
 rw [enter_at _ hf hb]
 have leave:∀(a':Act) (s':LG) (w':World) (todo:List Item) (e:Exit),bodyOut P ty fn R e a' s' w'->Walk P ty Post main s' (G { (base f).at a' todo with mode:=.returning } (b::cs)) w':=fun a' s' w' todo e q=>by
  refine .mk rfl fun w₁ r=>?_
  obtain ⟨v,h1,h2,h3⟩:=q.2.2 w₁ r
  exact .own s' _ w₁ _ (zaia (b:=base f) rfl q.2.1 hf h1) (.reads (h2.seen P _) w₁) (hc v s' w₁ h3)
 refine h (base f) [] (b::cs) rfl (by simp [base]) fun e a' s' w' q=>?_
 rcases q with q | ⟨rfl,D,hd,hB,ho,hD,hq⟩
 · rcases q.1 with rfl | rfl
   · exact .idle rfl (fun _=>stepG_end) (leave a' s' w' [] .normal q)
   · exact fun todo=>leave a' s' w' todo .ret q
 · refine fun todo=>.mk rfl fun w₁ r=>?_
   have hD1:=(r.own _ ho).trans hD
   refine .own s' _ _ _ (stepG_collected hd (run_takeDeferred hD1)) (own1_put hB ho (Array.getElem?_eq_some_iff.1 hD1).1 _ rfl fun e he=>?_) (leave ⟨a'.tmps,[]⟩ s' _ todo .ret (hq w₁ r))
   rw [ev_take hD1] at he
   simpa [Array.mem_push] using he
end
end Go.Co
namespace Go.AI.T
open Go Go.RowKit Go.AI Go.Conc Go.Co Go.Co.Cnt Go.Proofs.Tryz
open Go.AI.T.Q (c_impl_node_nodes co_impl_node_nodes)
noncomputable section
section
variable {Post:Value->World->Prop} {main:Bool} {fk:Option Fk} {ι0 ι6 ι:Inj} {h0 h6 h:H} {s0 s6 s:LG} {w0 w6 w:World} {st6:St} {a6:Act} {r:R} {F g:Nat}
theorem can_back:Callable prog 60:=⟨_,func60,by rw [body_BB];rfl,by kernel_rfl⟩
theorem inv_back (l BX OB:Nat) (u:World):(invoke (.fn (.func 60) #[.pointer (some ⟨BX,OB,none⟩)]) #[.func (.yield l) #[] #[]]).run prog u = .ok (.enter 60 #[.func (.yield l) #[] #[],.pointer (some ⟨BX,OB,none⟩)]) u:=by
 have e:invoke (.fn (.func 60) #[.pointer (some ⟨BX,OB,none⟩)]) #[.func (.yield l) #[] #[]]=callFunc 60 #[.func (.yield l) #[] #[],.pointer (some ⟨BX,OB,none⟩)]:=by simp [invoke]
 rw [e]
 exact zacw can_back u
theorem evi_back (l BX OB:Nat) (u:World):(invoke (.fn (.func 60) #[.pointer (some ⟨BX,OB,none⟩)]) #[.func (.yield l) #[] #[]]).events prog u #[] = #[]:=by
 have e:invoke (.fn (.func 60) #[.pointer (some ⟨BX,OB,none⟩)]) #[.func (.yield l) #[] #[]]=callFunc 60 #[.func (.yield l) #[] #[],.pointer (some ⟨BX,OB,none⟩)]:=by simp [invoke]
 rw [e]
 exact ev_callFunc can_back u
theorem co_range {BX OB sz B q bx b o n:Nat} {Q:Out} (hg:a6.eval (.tmp 20) = .func (.func 60) #[] #[.pointer (some ⟨BX,OB,none⟩)]) (A6:Hd ι0 h0 s0 w0 (fun _=>False) ι6 h6 s6 w6) (hfk:s6.fk=fk) (S6:StR ι6 53 st6 a6)
 (ibx:ι6 bx=some (BX,OB,sz)) (hn:n<=999999) (hBq:1<=n->∃base sz,ι6 b=some (B,base,sz)/\q=base+o) (e:rfX bx b o n (mBody F g st6) n h6 (mEnd F g st6)=some r)
 (hQ:∀ι h s w D,Hd ι0 h0 s0 w0 (fun B=>B=D\/B=D+1) ι h s w->s.fk=fk->ι6.le ι->mEnd F g st6 h=some r->w.heap[D]?=some (.deferred (some []))->Q .normal ⟨a6.tmps,{ target:=.collected D,args:= #[] }::a6.defers⟩ s w) :
 CoC prog tW Post main 17 (.rangeFunc (.tmp 20) #[21,22] mA mB) Q a6 s6 w6:=by
 intro fb k cs hbf hke hq
 refine .mk rfl fun w₁ r1=>?_
 have A1:=A6.rely r1
 have h1:=run_enterLoop_outer (P:=prog) (w:=w₁) fb.fn a6.tmps #[21,22] mA mB
 rw [hbf] at h1
 have hst:=stepG_range (P:=prog) (main:=main) (b:=fb) (k:=k) (cs:=cs) (a:=a6) (w:=w₁) (ps:= #[21,22]) (x:=mA) (y:=mB) hg hke (by rw [hbf];exact h1) (ev_enter _ _ _ _ _) (inv_back _ _ _) (evi_back _ _ _)
 refine .own (s6.plus w₁.heap.size (w₁.heap.size+2)) _ _ _ hst (own1_two s6 w₁ (fun b hb=>A1.fit.lt b hb) _ _) ?_
 generalize hrc:({ state:=.ready,pending:=none,fn:=17,tmps:=a6.tmps,params:= #[21,22],assign:=mA,body:=mB,defers:=w₁.heap.size }:Loop)=rc
 have J0:JJ ι0 h0 s0 w0 fk ι6 st6 F g r bx b o n w₁.heap.size rc 0 (s6.plus w₁.heap.size (w₁.heap.size+2)) ((w₁.alloc (.deferred (some []))).alloc (.loop rc)):={
  ex:=⟨ι6,h6,A1.two _ _,.refl _,by simpa using e⟩
  fk:=hfk
  dd:=(Below.heap_alloc _ _ _ (by simp)).trans (World.alloc_heap_new _ _)
  lp:=by
   have:=World.alloc_heap_new (w₁.alloc (.deferred (some []))) (.loop rc)
   rwa [World.size_alloc] at this }
 refine back_co (l:=w₁.heap.size+1) (bx:=BX) (ob:=OB) (B:=B) (q:=q) (n:=n) (by omega) (fun i s w=>JJ ι0 h0 s0 w0 fk ι6 st6 F g r bx b o n w₁.heap.size rc i s w) rc (by subst hrc;rfl) (fun j r=>j.rely r)
  (fun j=>⟨let ⟨_,_,A,_⟩:=j.ex;A.fit.busy,j.own.2,j.lp⟩) (fun j=>j.box ibx hBq) (fun hi j=>j.round S6 hrc.symm hBq hi) J0 _ cs fun v s' w' j=>?_
 have hfin:(fb.at ⟨a6.tmps,[{ target:=.collected w₁.heap.size,args:= #[] }]++a6.defers⟩ (.inRangeFunc (w₁.heap.size+1)::k)).finish v=fb.at ⟨a6.tmps,{ target:=.collected w₁.heap.size,args:= #[] }::a6.defers⟩ (.endRangeFunc (w₁.heap.size+1)::k):=rfl
 rw [hfin]
 refine .mk rfl fun w2 r2=>?_
 have j2:=j.rely r2
 obtain ⟨ι',h',A2,hl,e2⟩:=j2.ex
 rw [Nat.sub_self] at e2
 have hl2:=(Array.getElem?_eq_some_iff.1 j2.lp).1
 have hrdy:rc.state≠.busy:=by subst hrc;exact fun h=>by cases h
 have hrun:=run_endLoop (P:=prog) j2.lp hrdy
 have hpend:rc.pending=none:=by subst hrc;rfl
 rw [hpend] at hrun
 refine .own s' _ _ _ (stepG_endRange hrun) (own1_put A2.fit.busy j2.own.2 hl2 _ rfl fun e he=>?_) (hq .normal _ _ _ (hQ ι' h' _ _ w₁.heap.size (A2.put (.inr rfl) _) j2.fk hl (rfX_zero e2) ((World.putObj_heap_other (by omega)).trans j2.dd)))
 rw [ev_endL j2.lp hrdy] at he
 simpa [Array.mem_push] using he
theorem rounds_ex {bx b o n:Nat} {X:Nat->Prop} (S6:StR ι6 53 st6 a6) {B base sz:Nat} (hib:1<=n->ι6 b=some (B,base,sz)):∀m ι h s w,m<=n->Hd ι0 h0 s0 w0 X ι h s w->s.fk=fk->ι6.le ι->rfX bx b o n (mBody F g st6) m h (mEnd F g st6)=some r->∃ι' h' s' w',Hd ι0 h0 s0 w0 X ι' h' s' w'/\s'.fk=fk/\ι6.le ι'/\mEnd F g st6 h'=some r:=by
 have hΓ:=mG_sound (Post:=fun _ _=>True) (main:=false) (fk:=fk) F g
 intro m
 induction m with
 | zero=>intro ι h s w _ A hfk hl e;exact ⟨ι,h,s,w,A,hfk,hl,rfX_zero e⟩
 | succ m ih=>
  intro ι h s w hm A hfk hl e
  obtain ⟨fl,lst,x,hb,hx,k5⟩:=rfX_succ e
  obtain ⟨c,ty,lo,hi,hh,hsz2,hcc,_,_⟩:=A.rel.cells hb (hl _ _ (hib (by omega)))
  obtain ⟨v,hv,hvr⟩:=hcc (o+m) x hx
  have h1:=(S6.mono hl).put 21 (.int 3 (.ofNat m)) (.int .i64 ((m:Nat):Int)) (by omega) (rfl:VR ι (.int 3 (.ofNat m)) (.int (kd 3) (.ofNat m)))
  have h2:=h1.put 22 x v (by omega) hvr
  obtain ⟨ι1,st1,h1',a1,s1,w1,A1,f1,S1,l1,e1⟩:=hd_ex hΓ ok_mA k5 A hfk h2
  have e1:=e1.resolve_right (by simp)
  obtain ⟨ι2,st2,h2',a2,s2,w2,A2,f2,S2,l2,e2⟩:=hd_ex hΓ ok_mB e1 A1 f1 S1
  have e2:=e2.resolve_right (by simp)
  exact ih _ _ _ _ (by omega) A2 f2 ((hl.trans l1).trans l2) e2
theorem rfC_some (S6:StR ι6 53 st6 a6) (R6:Rel ι6 h6 w6) (e6:rfC (get st6 20) h6 (mBody F g st6) (mEnd F g st6)=some r):∃bx BX OB sz b o n B base sz2,a6.eval (.tmp 20) = .func (.func 60) #[] #[.pointer (some ⟨BX,OB,none⟩)]/\ι6 bx=some (BX,OB,sz)/\n<=999999/\(1<=n->ι6 b=some (B,base,sz2))/\rfX bx b o n (mBody F g st6) n h6 (mEnd F g st6)=some r:=by
 obtain ⟨bx,hfv,e7⟩:=boxOf_some e6
 obtain ⟨fl0,lb0,hb0,e8⟩:=zaae e7
 obtain ⟨s0,hs0,e9⟩:=zaay e8
 obtain ⟨b,o,n,e10⟩:∃b o n,bc (Nat.ble n 999999) (rfX bx b o n (mBody F g st6) n h6 (mEnd F g st6)) none=some r:=by
  cases s0 using AV.casesE <;> (try (cases e9;done))
  case sl b o n c=>exact ⟨b,o,n,e9⟩
  case osl b o n es=>exact ⟨b,o,n,e9⟩
 obtain ⟨hn,e11⟩:=zaac e10
 have hn:=Nat.le_of_ble_eq_true hn
 clear e6 e7 e8 e9 e10 hb0 hs0
 have hfun:=S6.at_ 20
 rw [hfv] at hfun
 obtain ⟨fs,cs,hg,hfs,hcs⟩:=hfun.func
 have hfs0:fs = #[]:=by
  have:fs.toList=[]:=hfs
  simpa using this
 obtain ⟨BX,OB,sz,ibx,hcs0⟩:∃BX OB sz,ι6 bx=some (BX,OB,sz)/\cs = #[.pointer (some ⟨BX,OB,none⟩)]:=by
  obtain ⟨x,xs,hxy,hx,hy⟩:=(show ∃x xs,cs.toList=x::xs/\VX ι6 (.ptr bx 0) [x]/\VX ι6 (.leaf .nil) xs from hcs)
  obtain ⟨B,base,sz,ib,hx⟩:=hx
  have hy:xs=[]:=hy
  refine ⟨B,base,sz,ib,?_⟩
  subst hy
  have hx:x = .pointer (some ⟨B,base+0,none⟩):=by simpa using hx
  rw [hx] at hxy
  have:=congrArg List.toArray hxy
  simpa using this
 subst hfs0;subst hcs0
 obtain ⟨fl,lb,s,hb,hs,he⟩:=rfX_box e11
 obtain ⟨c,ty,lo,hi,hh,hsz,hcc,_,_⟩:=R6.cells hb ibx
 obtain ⟨v,hv,hvr⟩:=hcc 0 s hs
 rcases Nat.eq_zero_or_pos n with h0 | h0
 · exact ⟨bx,BX,OB,sz,b,o,n,0,0,0,hg,ibx,hn,fun h=>by omega,e11⟩
 · obtain ⟨B,base,sz2,c,ib,_⟩:=(slEq_val he hvr).2 h0
   exact ⟨bx,BX,OB,sz,b,o,n,B,base,sz2,hg,ibx,hn,fun _=>ib,e11⟩
theorem cm_end {X:Nat->Prop} {st:St} {a:Act} (A:Hd ι0 h0 s0 w0 X ι h s w) (hS:StR ι 53 st a) (hd:a.defers=[]) (hk:kR st h=some r):bodyOut prog tW f17 (PostC true ι0 h0 s0 w0 r) .ret a s w:=by
 cases hk
 exact ⟨.inr rfl,hd,fun w₁ rl=>⟨_,zab7 rfl,zacn (A:=fun _=>False) (zadk rfl) (fun _ h=>h.elim) (zab7 rfl) A.fit.busy (fun _ h=>h.elim),ι,zanh hS [2,3],(A.rely rl).ext,(A.rely rl).rel,A.cov,(A.rely rl).fit⟩⟩
theorem cm_fin {X:Nat->Prop} {st:St} {a:Act} (A:Hd ι0 h0 s0 w0 X ι h s w) (hS:StR ι 53 st a) (hk:kR st h=some r):∃v s' w',PostC true ι0 h0 s0 w0 r v s' w':=by
 cases hk
 exact ⟨_,s,w,ι,zanh hS [2,3],A.ext,A.rel,A.cov,A.fit⟩
set_option maxHeartbeats 2000000 in
theorem co_impl_CutMatch {Post:Value->World->Prop} {main:Bool} {fk:Option Fk} (F g:Nat):∀args h r,u1 (c_impl_CutMatch F g) args h=some r->CoTri prog tW Post main (fk,true) 17 args h r:=by
 intro args h r e0
 obtain ⟨a0,rfl,e⟩:=zae6 e0
 clear e0
 rw [<- k_m] at e
 refine ⟨⟨_,func17,by rw [shape];rfl,by kernel_rfl⟩,fun ι w vs s hR hC hV hF hfk=>?_⟩
 have hS:StR ι 53 (mkInit 0 [a0]) { tmps:=vs.toArray++Array.replicate (f17.ntmps - vs.toArray.size) undef,defers:=[] }:=VL.entry ntmps17 (by simp) hV
 have A0:Hd ι h s w (fun _=>False) ι h s w:=⟨ExtC.same hR hC,hR,hC,hF,fun _ h=>h.elim⟩
 constructor
 · have hΓ:=mG_sound (Post:=Post) (main:=main) (fk:=fk) F g
   refine co_fnD func17 shape ?_
   refine hd_step hΓ ok_m0 e A0 hfk hS (fun ι1 st1 h1 a1 s1 w1 A1 f1 S1 d1 e1=>?_) (fun _ _ _ _ _ _ A S d _ k=>.inl (cm_end A S d k))
   refine hd_step hΓ ok_m1 e1 A1 f1 S1 (fun ι2 st2 h2 a2 s2 w2 A2 f2 S2 d2 e2=>?_) (fun _ _ _ _ _ _ A S d _ k=>.inl (cm_end A S (d.trans d1) k))
   refine hd_step hΓ ok_m2 e2 A2 f2 S2 (fun ι3 st3 h3 a3 s3 w3 A3 f3 S3 d3 e3=>?_) (fun _ _ _ _ _ _ A S d _ k=>.inl (cm_end A S (d.trans (d2.trans d1)) k))
   refine hd_step hΓ ok_m4 e3 A3 f3 S3 (fun ι4 st4 h4 a4 s4 w4 A4 f4 S4 d4 e4=>?_) (fun _ _ _ _ _ _ A S d _ k=>.inl (cm_end A S (d.trans (d3.trans (d2.trans d1))) k))
   refine hd_step hΓ ok_m5 e4 A4 f4 S4 (fun ι5 st5 h5 a5 s5 w5 A5 f5 S5 d5 e5=>?_) (fun _ _ _ _ _ _ A S d _ k=>.inl (cm_end A S (d.trans (d4.trans (d3.trans (d2.trans d1)))) k))
   have d15:a5.defers=[]:=d5.trans (d4.trans (d3.trans (d2.trans d1)))
   refine co_seq ?_
   refine hd_step hΓ ok_m6 e5 A5 f5 S5 (fun ι6 st6 h6 a6 s6 w6 A6 f6 S6 d6 e6=>?_) (fun _ _ _ _ _ _ A S d _ k=>.inl (cm_end A S (d.trans d15) k))
   have d16:a6.defers=[]:=d6.trans d15
   clear d1 d2 d3 d4 d5 d6 d15 A1 A2 A3 A4 A5 S1 S2 S3 S4 S5 e e1 e2 e3 e4 e5 hS
   obtain ⟨bx,BX,OB,sz,b,o,n,B,base,sz2,hg,ibx,hn,hib,e7⟩:=rfC_some S6 A6.rel e6
   refine zadq (co_range (B:=B) (q:=base+o) hg A6 f6 S6 ibx hn (fun h=>⟨base,sz2,hib h,rfl⟩) e7 fun ι7 h7 s7 w7 D A7 f7 l7 e8 hD=>?_)
   show CoC prog tW Post main 17 mS _ _ s7 w7
   have S7:StR ι7 53 st6 ⟨a6.tmps,{ target:=.collected D,args:= #[] }::a6.defers⟩:=⟨(S6.mono l7).size,(S6.mono l7).at_⟩
   refine (zagz (fk0:=(fk,true)) hΓ mS _ _ _ _ _ _ _ ok_mS e8 ι7 _ s7 w7 A7.rel A7.cov A7.fit f7 S7).1.mono fun ex a8 s8 w8 hp=>?_
   obtain ⟨ι8,st8,h8,E8,R8,C8,F8,S8,d8,q8⟩:=hp
   cases ex with
   | ret=>
    have A8:=A7.eval E8 R8 C8 F8
    refine .inr ⟨rfl,D,by rw [d8];show _::a6.defers=_;rw [d16],F8.busy,(A8.hid D (.inl rfl)).2.2.1,(A7.same E8 D (.inl rfl)).trans hD,fun w₁ rl=>cm_end ((A8.rely rl).put (.inl rfl) _) ⟨S8.size,S8.at_⟩ rfl q8⟩
   | normal=>cases q8
   | exit i=>cases q8
   | goto l=>exact q8.elim
   | panic c=>exact q8.elim
   | outgrown=>exact q8.elim
 · have hΓ:=mG_sound (Post:=fun _ _=>True) (main:=false) (fk:=fk) F g
   obtain ⟨ι1,st1,h1,a1,s1,w1,A1,f1,S1,l1,e1⟩:=hd_ex hΓ ok_m0 e A0 hfk hS
   refine Or.elim e1 (fun e1=>?_) (fun e1=>cm_fin A1 S1 e1)
   obtain ⟨ι2,st2,h2,a2,s2,w2,A2,f2,S2,l2,e2⟩:=hd_ex hΓ ok_m1 e1 A1 f1 S1
   refine Or.elim e2 (fun e2=>?_) (fun e2=>cm_fin A2 S2 e2)
   obtain ⟨ι3,st3,h3,a3,s3,w3,A3,f3,S3,l3,e3⟩:=hd_ex hΓ ok_m2 e2 A2 f2 S2
   refine Or.elim e3 (fun e3=>?_) (fun e3=>cm_fin A3 S3 e3)
   obtain ⟨ι4,st4,h4,a4,s4,w4,A4,f4,S4,l4,e4⟩:=hd_ex hΓ ok_m4 e3 A3 f3 S3
   refine Or.elim e4 (fun e4=>?_) (fun e4=>cm_fin A4 S4 e4)
   obtain ⟨ι5,st5,h5,a5,s5,w5,A5,f5,S5,l5,e5⟩:=hd_ex hΓ ok_m5 e4 A4 f4 S4
   refine Or.elim e5 (fun e5=>?_) (fun e5=>cm_fin A5 S5 e5)
   obtain ⟨ι6,st6,h6,a6,s6,w6,A6,f6,S6,l6,e6⟩:=hd_ex hΓ ok_m6 e5 A5 f5 S5
   refine Or.elim e6 (fun e6=>?_) (fun e6=>cm_fin A6 S6 e6)
   obtain ⟨bx,BX,OB,sz,b,o,n,B,base,sz2,hg,ibx,hn,hib,e7⟩:=rfC_some S6 A6.rel e6
   obtain ⟨ι7,h7,s7,w7,A7,f7,l7,e8⟩:=rounds_ex (fk:=fk) S6 hib n _ _ _ _ (Nat.le_refl _) A6 f6 (.refl _) e7
   obtain ⟨ι8,st8,h8,a8,s8,w8,A8,f8,S8,l8,e9⟩:=hd_ex hΓ ok_mS e8 A7 f7 (S6.mono l7)
   exact Or.elim e9 (fun e9=>by cases e9) (fun e9=>cm_fin A8 S8 e9)
end
end
end Go.AI.T
namespace Go.AI.T
open Go Go.RowKit Go.AI Go.Conc Go.Co Go.Co.Cnt Go.Proofs.Tryz
open Go.AI.T.Q (c_impl_node_nodes co_impl_node_nodes)
noncomputable section
theorem wk_impl_CutMatch {Post:Value->World->Prop} {main:Bool} (F g:Nat):∀args h r,u1 (c_impl_CutMatch F g) args h=some r->CoTri prog tW Post main (none,false) 17 args h r:=fun args h r e=>(co_impl_CutMatch F g args h r e).weak
theorem match_bad {F g:Nat} {l:List Nat} {n:Nat} (hn:lenL l=n) (hm:n<=1048576) (ht:isTree l=false) (h:H):c_impl_CutMatch F g (.str l n) h=some ((.one .tup (.cons (.int 3 (.ofNat 0)) (.cons (.bool false) (.leaf .nil)))),h):=by
 delta c_impl_CutMatch;rw [zam7 hn hm ht,bindR_some',zat6,zaui];rfl
end
end Go.AI.T
