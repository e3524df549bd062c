/- The functions that the law FnMiddleAlike reaches, as the evaluator reads them, in company. -/
import Derived.Test.YtecliakkmgoglaaGreatDoorAt
import Derived.Test.YtecliakkmgoglaaGreatDoorWid
import Derived.Test.YtecliakkmgoglaaGreatDoorCo7
import Derived.KernelRfl
set_option linter.unusedVariables false
set_option linter.unusedSimpArgs false
set_option maxRecDepth 100000
namespace Go.AI.T.D
open Go Go.Proofs.Tryz Go.RowKit Go.AI Go.Conc Go.Co Go.Co.Cnt
noncomputable section
variable {Post:Value->World->Prop} {main:Bool} {fk:Option Fk}
def c_spec_l91Node (F g:Nat) (a0:AV) (h:H):Option R:=quietC (Go.AI.c_spec_l91Node 20000 20) a0 h
theorem co_spec_l91Node (F g:Nat):∀args h r,u1 (c_spec_l91Node F g) args h=some r->CoTri prog tW Post main (fk,true) 21 args h r:=zaun (Go.AI.co_spec_l91Node 20000 20)
noncomputable def c_spec_DrawMiddleAlike_j1 (F g:Nat) (vs:List AV) (h:H):Option R:=(fun x7 x8 x9 x10 x11=>aPick x10 x11 (AV.bool false) h fun x12 h=>withBool x12 fun t13=>bc t13 (some (AV.one .tup (AV.cons x8 (AV.cons x9 (AV.leaf .nil))),h)) (bindR (c_spec_l6Open F g x7 h) fun x14 h=>bindR (c_spec_l91Tree F g x14 (AV.int 3 (Int.ofNat 6)) h) fun x15 h=>some (AV.one .tup (AV.cons x8 (AV.cons x15 (AV.leaf .nil))),h))) (hd vs) (hd (tl vs)) (hd (tl (tl vs))) (hd (tl (tl (tl vs)))) (hd (tl (tl (tl (tl vs)))))
noncomputable def c_spec_DrawMiddleAlike (F g:Nat) (a0:AV) (h:H):Option R:=bindR (c_spec_l91Node F g a0 h) fun x1 h=>aExtract x1 0 h fun x2 h=>aExtract x1 1 h fun x3 h=>bindR (c_spec_MiddleAt F g x2 x3 h) fun x4 h=>aExtract x4 0 h fun x5 h=>aExtract x4 1 h fun x6 h=>guardB true x6 (aLenK 1 a0 h fun x16 h=>aRem x16 (AV.int 3 (Int.ofNat 3)) h fun x17 h=>aCmpI (fun a b=>ilt b a) x17 (AV.int 3 (Int.ofNat 0)) h fun x18 h=>(c_spec_DrawMiddleAlike_j1 F g) [a0,x2,x5,x6,x18] h) ((c_spec_DrawMiddleAlike_j1 F g) [a0,x2,x5,x6,(AV.one .tup (AV.leaf .nil))] h)
theorem k_spec_DrawMiddleAlike (F g:Nat) (a0:AV) (h:H):callD prog (Env.add (Env.add (Env.add (Env.add (fun _ _ _=>none:Env) 21 (u1 (c_spec_l91Node F g))) 8 (u2 (c_spec_MiddleAt F g))) 32 (u1 (c_spec_l6Open F g))) 31 (u2 (c_spec_l91Tree F g))) 32 F (bodyOf f12) [2,3] (.two .o (.two .o (.two .o (.two (.two (.at_ [0,4,6,20,24] .o .o) (.two (.two .o .o) .o)) (.two .o .o))))) [a0] h=c_spec_DrawMiddleAlike F g a0 h:=by kernel_rfl
theorem co_spec_DrawMiddleAlike (F g:Nat):∀args h r,u1 (c_spec_DrawMiddleAlike F g) args h=some r->CoTri prog tW Post main (fk,true) 12 args h r:=by
 intro args h r e;obtain ⟨a0,rfl,e1⟩:=zae6 e;exact zabz func12 rfl rfl rfl ntmps12 (by kernel_rfl) (CoSound.add (CoSound.add (CoSound.add (CoSound.add (CoSound.none _ _ _ _ _) (co_spec_l91Node F g)) (co_spec_MiddleAt F g)) (co_spec_l6Open F g)) (co_spec_l91Tree F g)) ((k_spec_DrawMiddleAlike F g a0 h).trans e1)
end
end Go.AI.T.D
namespace Go.AI.T
open Go Go.Proofs.Tryz Go.RowKit Go.AI Go.Conc Go.Co Go.Co.Cnt
noncomputable section
variable {Post:Value->World->Prop} {main:Bool} {fk:Option Fk}
def c_spec_DrawMiddleAlike (F g:Nat) (a0:AV) (h:H):Option R:=quietC (D.c_spec_DrawMiddleAlike 20000 20) a0 h
theorem co_spec_DrawMiddleAlike (F g:Nat):∀args h r,u1 (c_spec_DrawMiddleAlike F g) args h=some r->CoTri prog tW Post main (fk,true) 12 args h r:=zaun (D.co_spec_DrawMiddleAlike 20000 20)
theorem wk_spec_DrawMiddleAlike (F g:Nat):∀args h r,u1 (c_spec_DrawMiddleAlike F g) args h=some r->CoTri prog tW Post main (none,false) 12 args h r:=fun args h r e=>(co_spec_DrawMiddleAlike F g args h r e).weak
theorem node_q {a0:AV} {n:Nat} {L:List AV} {B:Blk} (ha:(a0 = .leaf .nils/\n=0)\/a0 = .osl 0 0 n 1) (hB:0<n->B = .cells 2 L) (hb:∀i,i<n->∃v,L[i]?=some (.int 4 (.ofNat v))/\v<256) :
 ∃l z,(l.length<=300/\(isTree l=true->l.length<=16))/\(z = .negSucc 0\/∃j,z = .ofNat j/\j<=l.length / 2)/\D.c_spec_l91Node 20000 20 a0 (hCode B)=some ((.one .tup (.cons (.str l l.length) (.cons (.int 3 z) (.leaf .nil)))),hCode B):=by
 obtain ⟨l,z,h',hl,hz,e,hlo⟩:=zavb (F:=20000) (g:=20) (h:=hCode B) (by omega) ha (fun hn=>⟨2,hB hn⟩) hb (Nat.le_refl _) (Nat.le_refl _)
 exact ⟨l,z,hl,hz,zaul (h':=h') e rfl hlo⟩
theorem draw_mid (F g:Nat) {a0:AV} {n:Nat} {L:List AV} {B:Blk} (ha:(a0 = .leaf .nils/\n=0)\/a0 = .osl 0 0 n 1) (hB:0<n->B = .cells 2 L) (hb:∀i,i<n->∃v,L[i]?=some (.int 4 (.ofNat v))/\v<256) :
 ∃l t,(l.length<=300/\(isTree l=true->l.length<=16))/\(t.length<=300/\(isTree t=true->t.length<=16))/\c_spec_DrawMiddleAlike F g a0 (hCode B)=some ((.one .tup (.cons (.str l l.length) (.cons (.str t t.length) (.leaf .nil)))),hCode B):=by
 obtain ⟨l,z,hl,hz,e1⟩:=node_q ha hB hb
 obtain ⟨t,b,e2,h2,h3⟩:=at_told (F:=20000) (g:=20) (h:=hCode B) hl.2 hz
 have hlen:∀(h:H) (k:AV->H->Option R),aLenK 1 a0 h k=k (nI n) h:=fun h k=>by rcases ha with ⟨rfl,rfl⟩ | rfl <;> rfl
 obtain ⟨b',m,h4,e4,r1,_⟩:=zars (F:=20000) (g:=20) (h:=hCode B) ha (fun hn=>⟨2,hB hn⟩) hb (Nat.le_refl _) (Nat.le_refl _)
 obtain ⟨l2,p',h5,g1,g2,g3,r2⟩:=zao0 (F:=20000) (g:=20) (n:=6) r1 (by omega) (by omega) (by omega)
 have r0:∀x y,D.c_spec_DrawMiddleAlike_j1 20000 20 [a0,.str l l.length,x,.bool false,y] (hCode B)=bindR (Go.AI.c_spec_l6Open 20000 20 a0 (hCode B)) fun x14 h=>bindR (Go.AI.c_spec_l91Tree 20000 20 x14 (AV.int 3 (Int.ofNat 6)) h) fun x15 h=>some (AV.one .tup (AV.cons (.str l l.length) (AV.cons x15 (AV.leaf .nil))),h):=fun x y=>by kernel_rfl
 have rest:∀x y,D.c_spec_DrawMiddleAlike_j1 20000 20 [a0,.str l l.length,x,.bool false,y] (hCode B)=some ((.one .tup (.cons (.str l l.length) (.cons (.str l2 l2.length) (.leaf .nil)))),h5):=fun x y=>by
  rw [r0,e4,bindR_some',show AV.int 3 (Int.ofNat 6)=nI 6 from rfl,g3,bindR_some']
 have rest2:∀x,D.c_spec_DrawMiddleAlike_j1 20000 20 [a0,.str l l.length,x,.bool true,.bool false] (hCode B)=D.c_spec_DrawMiddleAlike_j1 20000 20 [a0,.str l l.length,x,.bool false,.bool false] (hCode B):=fun x=>by kernel_rfl
 have rest3:∀x,D.c_spec_DrawMiddleAlike_j1 20000 20 [a0,.str l l.length,x,.bool true,.bool true] (hCode B)=some (AV.one .tup (AV.cons (.str l l.length) (AV.cons x (AV.leaf .nil))),hCode B):=fun x=>by kernel_rfl
 cases b with
 | false=>
  refine ⟨l,l2,hl,⟨g1.1,fun h=>Nat.le_trans (g1.2 h) (by omega)⟩,zaul (h':=h5) ?_ rfl r2.lo⟩
  show D.c_spec_DrawMiddleAlike 20000 20 a0 (hCode B)=_
  delta D.c_spec_DrawMiddleAlike
  rw [e1,bindR_some',zat6,zaui,e2,bindR_some',zat6,zaui]
  exact rest _ _
 | true=>
  obtain ⟨c,hc⟩:∃c:Bool,∀k:AV->H->Option R,(aLenK 1 a0 (hCode B) fun x16 h=>aRem x16 (AV.int 3 (Int.ofNat 3)) h fun x17 h=>aCmpI (fun a b=>ilt b a) x17 (AV.int 3 (Int.ofNat 0)) h fun x18 h=>k x18 h)=k (.bool c) (hCode B):=by
   refine ⟨ilt (.ofNat 0) (.ofNat (n % 3)),fun k=>?_⟩
   rw [hlen,show AV.int 3 (Int.ofNat 3)=nI 3 from rfl,remN (by omega)]
   rfl
  cases c with
  | false=>
   refine ⟨l,l2,hl,⟨g1.1,fun h=>Nat.le_trans (g1.2 h) (by omega)⟩,zaul (h':=h5) ?_ rfl r2.lo⟩
   show D.c_spec_DrawMiddleAlike 20000 20 a0 (hCode B)=_
   delta D.c_spec_DrawMiddleAlike
   rw [e1,bindR_some',zat6,zaui,e2,bindR_some',zat6,zaui]
   refine (hc fun x18 h=>D.c_spec_DrawMiddleAlike_j1 20000 20 [a0,.str l l.length,.str t t.length,.bool true,x18] h).trans ?_
   exact (rest2 _).trans (rest _ _)
  | true=>
   obtain ⟨k1,k2⟩:=h2 rfl
   refine ⟨l,t,hl,⟨by omega,fun _=>k2⟩,zaul (h':=hCode B) ?_ rfl (Nat.le_refl _)⟩
   show D.c_spec_DrawMiddleAlike 20000 20 a0 (hCode B)=_
   delta D.c_spec_DrawMiddleAlike
   rw [e1,bindR_some',zat6,zaui,e2,bindR_some',zat6,zaui]
   exact (hc fun x18 h=>D.c_spec_DrawMiddleAlike_j1 20000 20 [a0,.str l l.length,.str t t.length,.bool true,x18] h).trans (rest3 _)
noncomputable def c_impl_MiddleAlike_j1 (F g:Nat) (vs:List AV) (h:H):Option R:=(fun x12 x13=>aPick x12 x13 (AV.bool false) h fun x14 h=>some (x14,h)) (hd vs) (hd (tl vs))
noncomputable def c_impl_MiddleAlike_j2 (F g:Nat) (vs:List AV) (h:H):Option R:=(fun x7 x8 x9 x10=>aPick x9 x10 (AV.bool false) h fun x11 h=>guardB true x11 (aCmpS eqL x7 x8 h fun x15 h=>(c_impl_MiddleAlike_j1 F g) [x11,x15] h) ((c_impl_MiddleAlike_j1 F g) [x11,(AV.one .tup (AV.leaf .nil))] h)) (hd vs) (hd (tl vs)) (hd (tl (tl vs))) (hd (tl (tl (tl vs))))
noncomputable def c_impl_MiddleAlike (F g:Nat) (a0 a1:AV) (h:H):Option R:=bindR (c_impl_MiddleFree F g a0 h) fun x1 h=>aExtract x1 0 h fun x2 h=>aExtract x1 1 h fun x3 h=>bindR (c_impl_MiddleFree F g a1 h) fun x4 h=>aExtract x4 0 h fun x5 h=>aExtract x4 1 h fun x6 h=>guardB true x3 ((c_impl_MiddleAlike_j2 F g) [x2,x5,x3,x6] h) ((c_impl_MiddleAlike_j2 F g) [x2,x5,x3,(AV.one .tup (AV.leaf .nil))] h)
theorem k_impl_MiddleAlike (F g:Nat) (a0 a1:AV) (h:H):callD prog (Env.add (fun _ _ _=>none:Env) 20 (u1 (c_impl_MiddleFree F g))) 28 F (bodyOf f11) [4] (.two .o (.two .o (.two .o (.two (.at_ [5,7,20,21] .o (.at_ [23,26] .o .o)) .o)))) [a0,a1] h=c_impl_MiddleAlike F g a0 a1 h:=by kernel_rfl
theorem co_impl_MiddleAlike (F g:Nat):∀args h r,u2 (c_impl_MiddleAlike F g) args h=some r->CoTri prog tW Post main (none,false) 11 args h r:=by
 intro args h r e;obtain ⟨a0,a1,rfl,e1⟩:=zafv e;exact zabz func11 rfl rfl rfl ntmps11 (by kernel_rfl) (CoSound.add (CoSound.none _ _ _ _ _) (co_impl_MiddleFree F g)) ((k_impl_MiddleAlike F g a0 a1 h).trans e1)
noncomputable def c_spec_MiddleAlike_j1 (F g:Nat) (vs:List AV) (h:H):Option R:=(fun x7 x8=>aPick x7 x8 (AV.bool false) h fun x9 h=>some (x9,h)) (hd vs) (hd (tl vs))
noncomputable def c_spec_MiddleAlike_j2 (F g:Nat) (vs:List AV) (h:H):Option R:=(fun x2 x3 x4 x5=>aPick x4 x5 (AV.bool false) h fun x6 h=>guardB true x6 (bindR (c_spec_l6mFree F g x2 h) fun x10 h=>bindR (c_spec_l6mFree F g x3 h) fun x11 h=>aCmpS eqL x10 x11 h fun x12 h=>(c_spec_MiddleAlike_j1 F g) [x6,x12] h) ((c_spec_MiddleAlike_j1 F g) [x6,(AV.one .tup (AV.leaf .nil))] h)) (hd vs) (hd (tl vs)) (hd (tl (tl vs))) (hd (tl (tl (tl vs))))
noncomputable def c_spec_MiddleAlike (F g:Nat) (a0 a1:AV) (h:H):Option R:=bindR (c_spec_TreeIn F g a0 h) fun x1 h=>guardB true x1 (bindR (c_spec_TreeIn F g a1 h) fun x13 h=>(c_spec_MiddleAlike_j2 F g) [a0,a1,x1,x13] h) ((c_spec_MiddleAlike_j2 F g) [a0,a1,x1,(AV.one .tup (AV.leaf .nil))] h)
theorem k_spec_MiddleAlike (F g:Nat) (a0 a1:AV) (h:H):callD prog (Env.add (Env.add (fun _ _ _=>none:Env) 33 (u1 (c_spec_TreeIn F g))) 34 (u1 (c_spec_l6mFree F g))) 18 F (bodyOf f13) [4] (.two .o (.two (.at_ [0,1,7,9] .o (.at_ [11,16] .o .o)) .o)) [a0,a1] h=c_spec_MiddleAlike F g a0 a1 h:=by kernel_rfl
theorem co_spec_MiddleAlike (F g:Nat):∀args h r,u2 (c_spec_MiddleAlike F g) args h=some r->CoTri prog tW Post main (fk,true) 13 args h r:=by
 intro args h r e;obtain ⟨a0,a1,rfl,e1⟩:=zafv e;exact zabz func13 rfl rfl rfl ntmps13 (by kernel_rfl) (CoSound.add (CoSound.add (CoSound.none _ _ _ _ _) (co_spec_TreeIn F g)) (co_spec_l6mFree F g)) ((k_spec_MiddleAlike F g a0 a1 h).trans e1)
theorem wk_spec_MiddleAlike (F g:Nat):∀args h r,u2 (c_spec_MiddleAlike F g) args h=some r->CoTri prog tW Post main (none,false) 13 args h r:=fun args h r e=>(co_spec_MiddleAlike F g args h r e).weak
noncomputable def c_laws_FnMiddleAlike_j1 (F g:Nat) (vs:List AV) (h:H):Option R:=(fun x73 x74=>aPick x73 x74 (AV.bool false) h fun x75 h=>some (x75,h)) (hd vs) (hd (tl vs))
noncomputable def c_laws_FnMiddleAlike_j2 (F g:Nat) (vs:List AV) (h:H):Option R:=(fun x68 x69 x70 x71=>aPick x70 x71 (AV.bool false) h fun x72 h=>guardB true x72 (bindR (c_impl_MiddleAlike F g x69 x68 h) fun x76 h=>(c_laws_FnMiddleAlike_j1 F g) [x72,x76] h) ((c_laws_FnMiddleAlike_j1 F g) [x72,(AV.one .tup (AV.leaf .nil))] h)) (hd vs) (hd (tl vs)) (hd (tl (tl vs))) (hd (tl (tl (tl vs))))
noncomputable def c_laws_FnMiddleAlike_j3 (F g:Nat) (vs:List AV) (h:H):Option R:=(fun x61 x62 x63 x64 x65 x66=>aPick x65 x66 (AV.bool false) h fun x67 h=>guardB true x67 (aCmpI ieq x63 x64 h fun x77 h=>(c_laws_FnMiddleAlike_j2 F g) [x61,x62,x67,x77] h) ((c_laws_FnMiddleAlike_j2 F g) [x61,x62,x67,(AV.one .tup (AV.leaf .nil))] h)) (hd vs) (hd (tl vs)) (hd (tl (tl vs))) (hd (tl (tl (tl vs)))) (hd (tl (tl (tl (tl vs))))) (hd (tl (tl (tl (tl (tl vs))))))
noncomputable def c_laws_FnMiddleAlike_j4 (F g:Nat) (vs:List AV) (h:H):Option R:=(fun x52 x53 x54 x55 x56 x57 x58 x59=>aPick x58 x59 (AV.bool false) h fun x60 h=>guardB true x60 (aCmpI ieq x54 x55 h fun x78 h=>(c_laws_FnMiddleAlike_j3 F g) [x52,x53,x56,x57,x60,x78] h) ((c_laws_FnMiddleAlike_j3 F g) [x52,x53,x56,x57,x60,(AV.one .tup (AV.leaf .nil))] h)) (hd vs) (hd (tl vs)) (hd (tl (tl vs))) (hd (tl (tl (tl vs)))) (hd (tl (tl (tl (tl vs))))) (hd (tl (tl (tl (tl (tl vs)))))) (hd (tl (tl (tl (tl (tl (tl vs))))))) (hd (tl (tl (tl (tl (tl (tl (tl vs))))))))
noncomputable def c_laws_FnMiddleAlike_j5 (F g:Nat) (vs:List AV) (h:H):Option R:=(fun x42 x43 x44 x45 x46 x47 x48 x49 x50=>aPick x49 x50 (AV.bool false) h fun x51 h=>guardB true x51 ((c_laws_FnMiddleAlike_j4 F g) [x42,x43,x44,x45,x46,x47,x51,x48] h) ((c_laws_FnMiddleAlike_j4 F g) [x42,x43,x44,x45,x46,x47,x51,(AV.one .tup (AV.leaf .nil))] h)) (hd vs) (hd (tl vs)) (hd (tl (tl vs))) (hd (tl (tl (tl vs)))) (hd (tl (tl (tl (tl vs))))) (hd (tl (tl (tl (tl (tl vs)))))) (hd (tl (tl (tl (tl (tl (tl vs))))))) (hd (tl (tl (tl (tl (tl (tl (tl vs)))))))) (hd (tl (tl (tl (tl (tl (tl (tl (tl vs)))))))))
noncomputable def c_laws_FnMiddleAlike_j6 (F g:Nat) (vs:List AV) (h:H):Option R:=(fun x31 x32 x33 x34 x35 x36 x37 x38 x39 x40=>aPick x39 x40 (AV.bool false) h fun x41 h=>guardB true x41 ((c_laws_FnMiddleAlike_j5 F g) [x31,x32,x33,x34,x35,x37,x38,x41,x36] h) ((c_laws_FnMiddleAlike_j5 F g) [x31,x32,x33,x34,x35,x37,x38,x41,(AV.one .tup (AV.leaf .nil))] h)) (hd vs) (hd (tl vs)) (hd (tl (tl vs))) (hd (tl (tl (tl vs)))) (hd (tl (tl (tl (tl vs))))) (hd (tl (tl (tl (tl (tl vs)))))) (hd (tl (tl (tl (tl (tl (tl vs))))))) (hd (tl (tl (tl (tl (tl (tl (tl vs)))))))) (hd (tl (tl (tl (tl (tl (tl (tl (tl vs))))))))) (hd (tl (tl (tl (tl (tl (tl (tl (tl (tl vs))))))))))
noncomputable def c_laws_FnMiddleAlike_j7 (F g:Nat) (vs:List AV) (h:H):Option R:=(fun x10 x11 x12 x13 x14 x15=>aPick x14 (AV.bool true) x15 h fun x16 h=>withBool x16 fun t17=>bc t17 (aEq false 0 x12 x13 h fun x18 h=>some (x18,h)) (bindR (c_impl_MiddleWidest F g x10 h) fun x19 h=>aExtract x19 0 h fun x20 h=>aExtract x19 1 h fun x21 h=>bindR (c_impl_MiddleWidest F g x11 h) fun x22 h=>aExtract x22 0 h fun x23 h=>aExtract x22 1 h fun x24 h=>bindR (c_impl_CountSpread F g x10 h) fun x25 h=>aExtract x25 0 h fun x26 h=>aExtract x25 1 h fun x27 h=>bindR (c_impl_CountSpread F g x11 h) fun x28 h=>aExtract x28 0 h fun x29 h=>aExtract x28 1 h fun x30 h=>guardB true x21 ((c_laws_FnMiddleAlike_j6 F g) [x10,x11,x20,x23,x26,x27,x29,x30,x21,x24] h) ((c_laws_FnMiddleAlike_j6 F g) [x10,x11,x20,x23,x26,x27,x29,x30,x21,(AV.one .tup (AV.leaf .nil))] h))) (hd vs) (hd (tl vs)) (hd (tl (tl vs))) (hd (tl (tl (tl vs)))) (hd (tl (tl (tl (tl vs))))) (hd (tl (tl (tl (tl (tl vs))))))
noncomputable def c_laws_FnMiddleAlike_r8 (F g:Nat) (x4:AV) (h:H):Option R:=aExtract x4 0 h fun x5 h=>aExtract x4 1 h fun x6 h=>bindR (c_impl_MiddleAlike F g x5 x6 h) fun x7 h=>bindR (c_spec_MiddleAlike F g x5 x6 h) fun x8 h=>aEq true 0 x7 x8 h fun x9 h=>guardB false x9 (aNot x7 h fun x79 h=>(c_laws_FnMiddleAlike_j7 F g) [x5,x6,x7,x8,x9,x79] h) ((c_laws_FnMiddleAlike_j7 F g) [x5,x6,x7,x8,x9,(AV.one .tup (AV.leaf .nil))] h)
noncomputable def c_laws_FnMiddleAlike (F g:Nat) (a0:AV) (h:H):Option R:=aLenK 1 a0 h fun x1 h=>aCmpI (fun a b=>ilt b a) x1 (AV.int 3 (Int.ofNat 1048576)) h fun x2 h=>withBool x2 fun t3=>bc t3 (some ((AV.bool true),h)) (bindR (c_spec_DrawMiddleAlike F g a0 h) fun x4 h=>c_laws_FnMiddleAlike_r8 F g x4 h)
theorem k_laws_FnMiddleAlike (F g:Nat) (a0:AV) (h:H):callD prog (Env.add (Env.add (Env.add (Env.add (Env.add (fun _ _ _=>none:Env) 12 (u1 (c_spec_DrawMiddleAlike F g))) 11 (u2 (c_impl_MiddleAlike F g))) 13 (u2 (c_spec_MiddleAlike F g))) 14 (u1 (c_impl_MiddleWidest F g))) 15 (u1 (c_impl_CountSpread F g))) 84 F (bodyOf f4) [2] (.two .o (.two (.two .o (.two (.two .o .o) .o)) (.two .o (.two .o (.two .o (.two (.two (.at_ [3,4,5,6,32,34] .o .o) (.two (.two .o .o) .o)) (.two .o (.two .o (.two .o (.two .o (.two (.at_ [3,4,7,9,11,12,13,14,60,61] .o (.at_ [3,4,7,9,11,13,14,63,64] .o (.at_ [3,4,7,9,11,13,66,67] .o (.at_ [3,4,11,13,69,72] .o (.at_ [3,4,74,77] .o (.at_ [79,82] .o .o)))))) .o))))))))))) [a0] h=c_laws_FnMiddleAlike F g a0 h:=by kernel_rfl
theorem root_laws_FnMiddleAlike (F g:Nat) {a0:AV} {h h':H} (e1:c_laws_FnMiddleAlike F g a0 h=some (.bool true,h')) {ι:Inj} {v0:Value} {W:World} (hR:Rel ι h W) (hC:Cov ι h (lgLaw W)) (hV:VL ι [a0] [v0]):Walk prog tW (fun v w'=>v = .bool true/\Below W.heap.size W w') true (lgLaw W) (G (Frame.enter prog 4 #[v0] .normal) []) W:=
 zatd (fk0:=(none,false)) func4 rfl (by kernel_rfl) rfl ntmps4 (by kernel_rfl) (CoSound.add (CoSound.add (CoSound.add (CoSound.add (CoSound.add (CoSound.none _ _ _ _ _) (wk_spec_DrawMiddleAlike F g)) (co_impl_MiddleAlike F g)) (wk_spec_MiddleAlike F g)) (co_impl_MiddleWidest F g)) (co_impl_CountSpread F g)) ((k_laws_FnMiddleAlike F g a0 h).trans e1) hR hC hV (zavc W) rfl rfl rfl fun v s' w' q=>zaup q
end
end Go.AI.T
