/- Goroutines in company, part 1. -/
import GoSem.Step
import Derived.Conc.CrowdBase
import Derived.Conc.CrowdComm
import Derived.Conc.Beside
import Derived.KernelRfl
set_option linter.unusedVariables false
set_option linter.unusedSimpArgs false
set_option maxRecDepth 100000
namespace Go.Co
open Go
inductive Rk:Type
 | leaf
 | num (n:Nat)
 | node (f:World->Bool->Rk)
def Rk.lt:Rk->Rk->Prop
 | .num m,.num n=>m<n
 | .num _,.node _=>True
 | a,.node f=>∃w x,a=f w x
 | _,_=>False
theorem Rk.lt_node (f:World->Bool->Rk) (w:World) (x:Bool):Rk.lt (f w x) (.node f):=by
 cases h:f w x with
 | num n=>trivial
 | leaf=>exact ⟨w,x,h.symm⟩
 | node g=>exact ⟨w,x,h.symm⟩
theorem Rk.acc_num (n:Nat):Acc Rk.lt (.num n):=by
 induction n using Nat.strongRecOn with
 | ind n ih=>
  refine ⟨_,fun y hy=>?_⟩
  cases y with
  | num m=>exact ih m hy
  | leaf=>exact hy.elim
  | node f=>exact hy.elim
theorem Rk.acc_leaf:Acc Rk.lt .leaf:=⟨_,fun y hy=>by cases y <;> exact hy.elim⟩
theorem Rk.wf:WellFounded Rk.lt:=⟨fun a=>by
 induction a with
 | leaf=>exact Rk.acc_leaf
 | num n=>exact Rk.acc_num n
 | node f ih=>
  refine ⟨_,fun y hy=>?_⟩
  cases y with
  | num m=>exact Rk.acc_num m
  | leaf=>exact Rk.acc_leaf
  | node g=>obtain ⟨w,x,e⟩:=hy;rw [e];exact ih w x⟩
section
variable {α:Type} {r:α->α->Prop}
def Less (r:α->α->Prop) (l' l:List α):Prop:=∃x rest ys,l.Perm (x::rest)/\l'.Perm (ys++rest)/\∀y∈ys,r y x
theorem zak2 {l l':List α} (h:Acc (Less r) l) (p:l.Perm l'):Acc (Less r) l':=
 ⟨_,fun _ ⟨x,rest,ys,h1,h2,h3⟩=>h.inv ⟨x,rest,ys,p.trans h1,h2,h3⟩⟩
open Classical in
theorem zar9 (a:α) (ha:∀b,r b a->∀M,Acc (Less r) M->Acc (Less r) (b::M)):∀M,Acc (Less r) M->Acc (Less r) (a::M):=by
 intro M hM
 induction hM with
 | intro M hM ih=>
  refine ⟨_,fun N ⟨x,rest,ys,h1,h2,h3⟩=>?_⟩
  by_cases hx:x=a
  · subst hx
    have p:M.Perm rest:=h1.cons_inv
    refine zak2 ?_ h2.symm
    clear h2
    have base:Acc (Less r) rest:=zak2 ⟨_,hM⟩ p
    induction ys with
    | nil=>exact base
    | cons y ys ihy=>exact ha y (h3 y (List.mem_cons_self ..)) _ (ihy fun z hz=>h3 z (List.mem_cons_of_mem _ hz))
  · have hmem:x∈M:=by
     have:x∈a::M:=h1.symm.mem_iff.1 (List.mem_cons_self ..)
     rcases List.mem_cons.1 this with h | h
     · exact absurd h hx
     · exact h
    obtain ⟨s,t,rfl⟩:=List.append_of_mem hmem
    have p1:(s++x::t).Perm (x::(s++t)):=List.perm_middle
    have p2:rest.Perm (a::(s++t)):=by
     have:=h1.symm.trans ((p1.cons a).trans (List.Perm.swap _ _ _))
     exact this.cons_inv
    have hN:N.Perm (a::(ys++(s++t))):=h2.trans ((p2.append_left ys).trans List.perm_middle)
    refine zak2 (ih (ys++(s++t)) ⟨x,s++t,ys,p1,.refl _,h3⟩) hN.symm
theorem zari (wf:WellFounded r):∀l:List α,Acc (Less r) l
 | []=>⟨_,fun N ⟨x,rest,ys,h1,_⟩=>by have:=h1.length_eq;simp at this⟩
 | a::l=>by
  have key:∀a,∀M,Acc (Less r) M->Acc (Less r) (a::M):=fun a=>wf.induction a fun a ih=>zar9 a ih
  exact key a l (zari wf l)
theorem zatv (wf:WellFounded r):WellFounded (Less r):=⟨zari wf⟩
theorem zaew {l:List α} {i:Nat} (h:i<l.length):(l[i]::l.eraseIdx i).Perm l:=by
 have e:l=l.take i++l[i]::l.drop (i+1):=by
  rw [<- List.drop_eq_getElem_cons h,List.take_append_drop]
 rw [List.eraseIdx_eq_take_drop_succ]
 conv=>rhs;rw [e]
 exact List.perm_middle.symm
theorem zass {l:List α} {i:Nat} {x y:α} (h:l[i]?=some x) (hr:r y x):Less r (l.set i y) l:=by
 obtain ⟨hlt,rfl⟩:=List.getElem?_eq_some_iff.1 h
 refine ⟨l[i],l.eraseIdx i,[y],(zaew hlt).symm,?_,fun z hz=>by simp at hz;subst hz;exact hr⟩
 have h2:=zaew (l:=l.set i y) (i:=i) (by simpa using hlt)
 rw [List.getElem_set_self,List.eraseIdx_set_eq] at h2
 exact h2.symm
theorem zaqj {l:List α} {i:Nat} {x y z:α} (h:l[i]?=some x) (hr:r y x) (hz:r z x):Less r (l.set i y++[z]) l:=by
 obtain ⟨hlt,rfl⟩:=List.getElem?_eq_some_iff.1 h
 refine ⟨l[i],l.eraseIdx i,[z,y],(zaew hlt).symm,?_,fun q hq=>by simp at hq;rcases hq with rfl | rfl <;> assumption⟩
 have h2:=zaew (l:=l.set i y) (i:=i) (by simpa using hlt)
 rw [List.getElem_set_self,List.eraseIdx_set_eq] at h2
 exact List.perm_append_comm.trans ((h2.symm).cons z)
end
end Go.Co
namespace Go.Co
open Go Go.Conc
open Go.ConcR (KK wgBlock WgAt stA smA rd wr mk)
structure Kid where
 ch:Nat
 wg:Nat
 out:List Value
 st:Nat
inductive Tag where
 | idle | dis | added | pend
 | w1 (b:Nat)
 | w2 (v:Nat)
 | w3 | w4 | ke | acq
structure Fk where
 wg:Nat
 kids:List (Nat×List Value×Bool)
 tag:Tag
structure LG where
 own:Nat->Prop
 ro:Nat->Prop
 kid:Option Kid
 fk:Option Fk
def WgLive (ty:TypeId) (wg:Nat) (w:World):Prop:=∃st sm,WgAt ty wg w st sm
def setWg (ty:TypeId) (w:World) (wg:Nat) (st sm:Int):World:={ w with heap:=w.heap.setIfInBounds wg (wgBlock ty st sm) }
structure Rely (ty:TypeId) (s:LG) (w w₁:World):Prop where
 tape:w₁.tape=w.tape
 os:w₁.os=w.os
 output:w₁.output=w.output
 size:w.heap.size<=w₁.heap.size
 own:∀b,s.own b->w₁.heap[b]?=w.heap[b]?
 ro:∀b,s.ro b->w₁.heap[b]?=w.heap[b]?
 kid:∀k,s.kid=some k->WgLive ty k.wg w->WgLive ty k.wg w₁
 fk:∀f,s.fk=some f->WgLive ty f.wg w->WgLive ty f.wg w₁
section
variable {ty:TypeId}
theorem Rely.refl (s:LG) (w:World):Rely ty s w w:=⟨rfl,rfl,rfl,Nat.le_refl _,fun _ _=>rfl,fun _ _=>rfl,fun _ _ h=>h,fun _ _ h=>h⟩
theorem Rely.trans {s:LG} {a b c:World} (h:Rely ty s a b) (k:Rely ty s b c):Rely ty s a c:=
 ⟨k.tape.trans h.tape,k.os.trans h.os,k.output.trans h.output,Nat.le_trans h.size k.size,fun x y=>(k.own x y).trans (h.own x y),fun x y=>(k.ro x y).trans (h.ro x y),fun x y z=>k.kid x y (h.kid x y z),fun x y z=>k.fk x y (h.fk x y z)⟩
end
def EvG (s:LG) (e:Event):Prop:=
 match e.loc with
 | .cell a=>e.sync=false/\(s.own a.block\/(s.ro a.block/\e.write=false))
 | .obj r=>e.sync=false/\(s.own r\/(s.ro r/\e.write=false))
 | .mark (.read a) | .mark (.write a)=>∃f,s.fk=some f/\a.block=f.wg
 | .mark m=>Neutral m
 | _=>True
def LG.plus (s:LG) (B B':Nat):LG:={ s with own:=fun b=>s.own b\/(B<=b/\b<B') }
structure Own1 (ty:TypeId) (s:LG) (w:World) (s':LG) (w':World) (es:Array Event):Prop where
 tape:w'.tape=w.tape
 os:w'.os=w.os
 output:w'.output=w.output
 size:w.heap.size<=w'.heap.size
 frame:∀b,b<w.heap.size->¬ s.own b->w'.heap[b]?=w.heap[b]?
 own:∀b,s'.own b->s.own b\/(w.heap.size<=b/\b<w'.heap.size)
 ro:∀b,s'.ro b->s.ro b\/s.own b\/(w.heap.size<=b/\b<w'.heap.size)
 apart:(∀b,s.own b->¬ s.ro b)->(∀b,s.own b\/s.ro b->b<w.heap.size)->∀b,s'.own b->¬ s'.ro b
 kid:s'.kid=s.kid
 fk:s'.fk=s.fk\/(s.fk=none/\(∀k,s.kid=some k->k.st=0)/\∃wg,s'.fk=some ⟨wg,[],.idle⟩/\s.own wg/\¬ s'.own wg/\¬ s'.ro wg/\WgAt ty wg w' 0 0)
 ev:∀e∈es,EvG (s.plus w.heap.size w'.heap.size) e
 mute:∀k,s.kid=some k->2<=k.st->es = #[]
inductive PT (wg n:Nat) (D:Prop):Tag->Int->Int->Tag->Int->Int->Array Event->Prop
 | dis {st sm:Int}:PT wg n D .idle st sm .dis st sm #[mk .disable]
 | add {v:Nat}:PT wg n D .dis (v * KK) 0 .added (((v+1:Nat):Int) * KK) 0 #[rd (stA wg),wr (stA wg)]
 | ena {st sm:Int}:PT wg n D .added st sm .pend st sm #[mk .enable]
 | wdis {st sm:Int}:D->PT wg n D .idle st sm (.w1 n) st sm #[mk .disable]
 | w1z {b:Nat}:PT wg n D (.w1 b) 0 0 .ke 0 0 #[rd (stA wg)]
 | w1n {b v:Nat}:v≠0->v<=b->PT wg n D (.w1 b) (v * KK) 0 (.w2 v) (v * KK) 0 #[rd (stA wg)]
 | w2h {v:Nat}:PT wg n D (.w2 v) (v * KK) 0 .w3 (v * KK+1) 0 #[rd (stA wg),wr (stA wg)]
 | w2m {v v':Nat}:v'<v->PT wg n D (.w2 v) (v' * KK) 0 (.w1 v') (v' * KK) 0 #[rd (stA wg)]
 | w3:PT wg n D .w3 0 1 .w4 0 0 (semEvents (smA wg))
 | w4:PT wg n D .w4 0 0 .ke 0 0 #[rd (stA wg)]
 | ke {st sm:Int}:PT wg n D .ke st sm .acq st sm #[mk .enable]
def PFit:Tag->Int->Int->Prop
 | .dis,st,sm=>∃v:Nat,v<2147483647/\st=v * KK/\sm=0
 | .w1 b,st,sm=>∃v:Nat,v<=b/\v<2147483648/\st=v * KK/\sm=0
 | .w2 u,st,sm=>∃v:Nat,v<=u/\u≠0/\v<2147483648/\st=v * KK/\sm=0
 | .w3,st,sm=>sm=0\/(st=0/\sm=1)
 | .w4,st,sm=>st=0/\sm=0
 | _,_,_=>True
inductive KT (wg:Nat):Nat->Int->Int->Nat->Int->Int->Array Event->Prop
 | rel {st sm:Int}:KT wg 1 st sm 2 st sm #[mk (.releaseMerge (stA wg))]
 | dis {st sm:Int}:KT wg 2 st sm 3 st sm #[mk .disable]
 | addq {v wt:Nat}:wt<=1->¬ (v=0/\wt=1)->KT wg 3 ((v+1) * KK+wt) 0 7 (v * KK+wt) 0 #[rd (stA wg),wr (stA wg)]
 | addl:KT wg 3 (KK+1) 0 4 1 0 #[rd (stA wg),wr (stA wg)]
 | ld:KT wg 4 1 0 5 1 0 #[rd (stA wg)]
 | st:KT wg 5 1 0 6 0 0 #[wr (stA wg)]
 | sem:KT wg 6 0 0 7 0 1 (semEvents (smA wg))
def KFit:Nat->Int->Int->Prop
 | 3,st,sm=>∃v wt:Nat,wt<=1/\v<2147483647/\st=(v+1) * KK+wt/\sm=0
 | 4,st,sm | 5,st,sm=>st=1/\sm=0
 | 6,st,sm=>st=0/\sm=0
 | _,_,_=>True
section
variable (P:Program) (ty:TypeId) (Post:Value->World->Prop)
inductive Cl (X Y:Bool->LG->Goroutine->World->Prop) (main:Bool) (s:LG) (g:Goroutine) (w:World):Prop
 | own (s':LG) (g':Goroutine) (w':World) (es:Array Event):stepG P main g w = .go g' w' es->Own1 ty s w s' w' es->X main s' g' w'->Cl X Y main s g w
 | spawn (wg c:Nat) (kids:List (Nat×List Value×Bool)) (L:List Value) (s' sc:LG) (g' child:Goroutine):stepG P main g w = .spawn g' child w #[]->s.fk=some ⟨wg,kids,.pend⟩->kids.length<1000000->s.own c->
  w.heap[c]?=some (.chan 0 #[] false 0 0 false)->s'.kid=s.kid->s'.fk=some ⟨wg,kids++[(c,L,false)],.idle⟩->(∀b,s'.own b->s.own b/\b≠c)->(∀b,s'.ro b->(s.ro b\/s.own b)/\b≠c)->((∀b,s.own b->¬ s.ro b)->∀b,s'.own b->¬ s'.ro b)->
  (∀b,¬ sc.own b)->(∀b,sc.ro b->s'.ro b)->sc.kid=some ⟨c,wg,L,0⟩->sc.fk=none->X main s' g' w->Y false sc child w->Cl X Y main s g w
 | send (k:Kid) (v z:Value) (rest:List Value):stepG P main g w = .comm g #[scase k.ch v z] true .send w #[]->s.kid=some k->k.st=0->k.out=v::rest->s.fk=none->
  X main { s with kid:=some { k with out:=rest } } (Conc.served g undef) w->Cl X Y main s g w
 | recv (f:Fk) (i c:Nat) (rem:List Value) (b:Bool) (z:Value):stepG P main g w = .comm g #[rcase c z] true (.recv b) w #[]->s.fk=some f->f.tag = .idle->f.kids[i]?=some (c,rem,false)->
  (∀v rest,rem=v::rest->X main { s with fk:=some { f with kids:=f.kids.set i (c,rest,false) } } (Conc.served g (recvd b v true)) w)->
  (rem=[]->X main { s with fk:=some { f with kids:=f.kids.set i (c,[],true) } } (Conc.served g (recvd b z false)) w)->Cl X Y main s g w
 | close (k:Kid):s.kid=some k->k.st=0->k.out=[]->s.fk=none->mayWake P g=true->
  (
   ∀sn rc,w.heap[k.ch]?=some (.chan 0 #[] false sn rc false)->∃g',stepG P main g w = .go g' (w.setChan k.ch 0 #[] true sn rc false) #[⟨.obj k.ch,false,true⟩,⟨.obj k.ch,true,true⟩]/\g'.status = .running /\
   X main { s with kid:=some { k with st:=1 } } g' (w.setChan k.ch 0 #[] true sn rc false))->Cl X Y main s g w
 | part (f:Fk):s.fk=some f->(∀st sm,WgAt ty f.wg w st sm->PFit f.tag st sm->
  (f.tag = .w3/\sm=0/\stepG P main g w = .go { g with status:=.blocked } w #[]) \/
  ∃tag' st' sm' es g',PT f.wg f.kids.length (∀x∈f.kids,x.2.2=true) f.tag st sm tag' st' sm' es/\stepG P main g w = .go g' (setWg ty w f.wg st' sm') es/\X main { s with fk:=some { f with tag:=tag' } } g' (setWg ty w f.wg st' sm'))->Cl X Y main s g w
 | join (f:Fk) (g':Goroutine):s.fk=some f->f.tag = .acq->stepG P main g w = .go g' w #[mk (.acquire (stA f.wg))]->X main { s with fk:=none } g' w->Cl X Y main s g w
 | quit (k:Kid):s.kid=some k->s.fk=none->(k.st=6->mayWake P g=true)->k.st≠0->(∀st sm,WgAt ty k.wg w st sm->KFit k.st st sm->
  ∃n' st' sm' es g',KT k.wg k.st st sm n' st' sm' es/\stepG P main g w = .go g' (setWg ty w k.wg st' sm') es/\(n'=7->∃q,QuitsD P q 1 g')/\(n'≠7->X main { s with kid:=some { k with st:=n' } } g' (setWg ty w k.wg st' sm')))->Cl X Y main s g w
 | done (v:Value) (es:Array Event):main=true->s.kid=none->s.fk=none->stepG P main g w = .ended (.done v) w es->(∀e∈es,EvG s e)->Post v w->Cl X Y main s g w
def LiveS (ty:TypeId) (s:LG) (w:World):Prop:=(∀k,s.kid=some k->WgLive ty k.wg w)/\∀f,s.fk=some f->WgLive ty f.wg w
def W:Rk->Bool->LG->Goroutine->World->Prop
 | .leaf,_,_,_,_ | .num _,_,_,_,_=>False
 | .node f,main,s,g,w=>core g=g/\∀w₁,Rely ty s w w₁->LiveS ty s w₁->Cl P ty Post (W (f w₁ true)) (W (f w₁ false)) main s g w₁
def Walk (main:Bool) (s:LG) (g:Goroutine) (w:World):Prop:=∃o,W P ty Post o main s g w
end
section
variable {P:Program} {ty:TypeId} {Post:Value->World->Prop}
theorem W.core {o:Rk} {main:Bool} {s:LG} {g:Goroutine} {w:World} (h:W P ty Post o main s g w):core g=g:=by
 cases o with
 | leaf=>exact h.elim
 | num n=>exact h.elim
 | node f=>exact h.1
theorem W.rely {o:Rk} {main:Bool} {s:LG} {g:Goroutine} {w w₁:World} (h:W P ty Post o main s g w) (r:Rely ty s w w₁):W P ty Post o main s g w₁:=by
 cases o with
 | leaf=>exact h.elim
 | num n=>exact h.elim
 | node f=>exact ⟨h.1,fun w₂ h₂=>h.2 w₂ (r.trans h₂)⟩
theorem Cl.pick {main:Bool} {s:LG} {g:Goroutine} {w:World} (h:Cl P ty Post (Walk P ty Post) (Walk P ty Post) main s g w):∃o₁ o₂,Cl P ty Post (W P ty Post o₁) (W P ty Post o₂) main s g w:=by
 cases h with
 | own s' g' w' es h1 h2 h3=>obtain ⟨o,h3⟩:=h3;exact ⟨o,.leaf,.own s' g' w' es h1 h2 h3⟩
 | spawn wg c kids L s' sc g' child h1 h2 h0 h3 h4 h5 h6 h7 h8 h9 h10 h11 h12 h13 h14 h15=>obtain ⟨o,h14⟩:=h14;obtain ⟨o',h15⟩:=h15;exact ⟨o,o',.spawn wg c kids L s' sc g' child h1 h2 h0 h3 h4 h5 h6 h7 h8 h9 h10 h11 h12 h13 h14 h15⟩
 | send k v z rest h1 h2 h3 h4 h5 h6=>obtain ⟨o,h6⟩:=h6;exact ⟨o,.leaf,.send k v z rest h1 h2 h3 h4 h5 h6⟩
 | recv f i c rem b z h1 h2 h3 h4 h5 h6=>
  cases rem with
  | nil=>obtain ⟨o,h6⟩:=h6 rfl;exact ⟨o,.leaf,.recv f i c [] b z h1 h2 h3 h4 (fun _ _ e=>by cases e) fun _=>h6⟩
  | cons v rest=>obtain ⟨o,h5⟩:=h5 v rest rfl;exact ⟨o,.leaf,.recv f i c (v::rest) b z h1 h2 h3 h4 (fun _ _ e=>by cases e;exact h5) fun e=>by cases e⟩
 | close k h1 h2 h3 h4 h5 h6=>
  by_cases hc:∃sn rc,w.heap[k.ch]?=some (.chan 0 #[] false sn rc false)
  · obtain ⟨sn,rc,hc⟩:=hc
    obtain ⟨g',h7,h8,o,h9⟩:=h6 sn rc hc
    exact ⟨o,.leaf,.close k h1 h2 h3 h4 h5 fun sn' rc' hc'=>by rw [hc] at hc';cases hc';exact ⟨g',h7,h8,h9⟩⟩
  · exact ⟨.leaf,.leaf,.close k h1 h2 h3 h4 h5 fun sn rc h=>absurd ⟨sn,rc,h⟩ hc⟩
 | part f h1 h2=>
  by_cases hc:∃st sm,WgAt ty f.wg w st sm/\PFit f.tag st sm
  · obtain ⟨st,sm,hw,hf⟩:=hc
    have uniq:∀{st' sm'},WgAt ty f.wg w st' sm'->st'=st/\sm'=sm:=fun h=>by
     unfold WgAt at h hw;rw [hw] at h;simp only [wgBlock,Option.some.injEq,Obj.cells.injEq] at h
     have h1:=h.1
     simp only [Array.mk.injEq,List.cons.injEq,Value.int.injEq,true_and,and_true] at h1
     exact ⟨h1.1.symm,h1.2.symm⟩
    rcases h2 st sm hw hf with h3 | ⟨tag',st',sm',es,g',h3,h4,o,h5⟩
    · exact ⟨.leaf,.leaf,.part f h1 fun st' sm' hw' hf'=>by obtain ⟨rfl,rfl⟩:=uniq hw';exact .inl h3⟩
    · exact ⟨o,.leaf,.part f h1 fun st'' sm'' hw' hf'=>by obtain ⟨rfl,rfl⟩:=uniq hw';exact .inr ⟨tag',st',sm',es,g',h3,h4,h5⟩⟩
  · exact ⟨.leaf,.leaf,.part f h1 fun st sm hw hf=>absurd ⟨st,sm,hw,hf⟩ hc⟩
 | join f g' h1 h2 h3 h4=>obtain ⟨o,h4⟩:=h4;exact ⟨o,.leaf,.join f g' h1 h2 h3 h4⟩
 | quit k h1 h2 h3 h4 h5=>
  by_cases hc:∃st sm,WgAt ty k.wg w st sm/\KFit k.st st sm
  · obtain ⟨st,sm,hw,hf⟩:=hc
    have uniq:∀{st' sm'},WgAt ty k.wg w st' sm'->st'=st/\sm'=sm:=fun h=>by
     unfold WgAt at h hw;rw [hw] at h;simp only [wgBlock,Option.some.injEq,Obj.cells.injEq] at h
     have h1:=h.1
     simp only [Array.mk.injEq,List.cons.injEq,Value.int.injEq,true_and,and_true] at h1
     exact ⟨h1.1.symm,h1.2.symm⟩
    obtain ⟨n',st',sm',es,g',h6,h7,h8,h9⟩:=h5 st sm hw hf
    by_cases hn:n'=7
    · exact ⟨.leaf,.leaf,.quit k h1 h2 h3 h4 fun st'' sm'' hw' hf'=>by obtain ⟨rfl,rfl⟩:=uniq hw';exact ⟨n',st',sm',es,g',h6,h7,h8,fun h=>absurd hn h⟩⟩
    · obtain ⟨o,h9⟩:=h9 hn
      exact ⟨o,.leaf,.quit k h1 h2 h3 h4 fun st'' sm'' hw' hf'=>by obtain ⟨rfl,rfl⟩:=uniq hw';exact ⟨n',st',sm',es,g',h6,h7,h8,fun _=>h9⟩⟩
  · exact ⟨.leaf,.leaf,.quit k h1 h2 h3 h4 fun st sm hw hf=>absurd ⟨st,sm,hw,hf⟩ hc⟩
 | done v es h1 h2 h3 h4 h5 h6=>exact ⟨.leaf,.leaf,.done v es h1 h2 h3 h4 h5 h6⟩
open Classical in
theorem Walk.mkL {main:Bool} {s:LG} {g:Goroutine} {w:World} (hc:Conc.core g=g) (h:∀w₁,Rely ty s w w₁->LiveS ty s w₁->Cl P ty Post (Walk P ty Post) (Walk P ty Post) main s g w₁):Walk P ty Post main s g w:=by
 have h2:∀w₁,∃x:Rk×Rk,Rely ty s w w₁->LiveS ty s w₁->Cl P ty Post (W P ty Post x.1) (W P ty Post x.2) main s g w₁:=fun w₁=>by
  by_cases hr:Rely ty s w w₁/\LiveS ty s w₁
  · obtain ⟨o₁,o₂,h3⟩:=(h w₁ hr.1 hr.2).pick
    exact ⟨(o₁,o₂),fun _ _=>h3⟩
  · exact ⟨(.leaf,.leaf),fun h1 h2=>absurd ⟨h1,h2⟩ hr⟩
 refine ⟨.node fun w₁ b=>if b then (Classical.choose (h2 w₁)).1 else (Classical.choose (h2 w₁)).2,hc,fun w₁ hr hl=>?_⟩
 have:=Classical.choose_spec (h2 w₁) hr hl
 simpa using this
theorem Walk.mk {main:Bool} {s:LG} {g:Goroutine} {w:World} (hc:Conc.core g=g) (h:∀w₁,Rely ty s w w₁->Cl P ty Post (Walk P ty Post) (Walk P ty Post) main s g w₁):Walk P ty Post main s g w:=.mkL hc fun w₁ r _=>h w₁ r
theorem Walk.rely {main:Bool} {s:LG} {g:Goroutine} {w w₁:World} (h:Walk P ty Post main s g w) (r:Rely ty s w w₁):Walk P ty Post main s g w₁:=let ⟨o,h⟩:=h; ⟨o,h.rely r⟩
end
end Go.Co
namespace Go.Co
open Go Go.Conc
open Go.ConcR (KK wgBlock WgAt stA smA rd wr mk)
def blk:Loc->Option Nat
 | .cell a=>some a.block
 | .obj r=>some r
 | _=>none
theorem zau6 {l:Loc} {b:Nat} (h:blk l=some b):l.isMemory=true:=by cases l <;> first | rfl | cases h
theorem zatw {l:Loc} (h:l.isMemory=true):∃b,blk l=some b:=by cases l <;> first | exact ⟨_,rfl⟩ | cases h
structure Hold where
 own:Nat->Nat->Prop
 ro:Nat->Nat->Prop
 sy:Nat->Nat->Prop
 sg:Nat->Nat->Prop
structure Hold.Ok (H:Hold):Prop where
 own:∀i j b,H.own i b->H.own j b->i=j
 ownRo:∀i j b,H.own i b->¬ H.ro j b
 ownSy:∀i j b,H.own i b->¬ H.sy j b
 roSy:∀i j b,H.ro i b->¬ H.sy j b
 sgSy:∀i b,H.sg i b->H.sy i b
 sg:∀i j b,H.sg i b->H.sg j b->i=j
def May (H:Hold) (g:Nat) (op:MemOp):Prop:=
 op.g=g/\(∀a,op.act≠.mark (.release a))/\∀x b,op.act.touch?=some x->blk x.loc=some b->
  H.own g b\/(H.ro g b/\x.write=false)\/(H.sy g b/\x.kind = .atomic)\/(H.sg g b/\x.kind = .said)
structure TI (H:Hold) (n B:Nat) (t:Trace):Prop where
 nr:∀said,¬ Race said t
 norel:∀op∈t,∀a,op.act≠.mark (.release a)
 gs:∀op∈t,op.g<n
 low:∀k x b,touchAt t k=some x->blk x.loc=some b->b<B
 own:∀i b,H.own i b->∀k x,touchAt t k=some x->blk x.loc=some b->Knows t i k
 ro:∀i b,H.ro i b->∀k x,touchAt t k=some x->blk x.loc=some b->x.write=true->Knows t i k
 sy:∀i b,H.sy i b->∀k x,touchAt t k=some x->blk x.loc=some b->x.kind = .plain->Knows t i k
 sg:∀i b,H.sg i b->∀k x,touchAt t k=some x->blk x.loc=some b->x.kind = .said->Knows t i k
theorem zact {t u:Trace} {k:Nat} {x:Touch} (h:touchAt (t++u) k=some x):touchAt t k=some x\/∃op,op∈u/\(t++u)[k]?=some op/\op.act.touch?=some x:=by
 obtain ⟨op,ho,hx⟩:=touch_of h
 rcases getElem?_append_cases ho with ⟨_,h'⟩ | ⟨_,hu⟩
 · left;rw [touchAt_of h'];exact hx
 · exact .inr ⟨op,hu,ho,hx⟩
section
variable {H:Hold} {n B:Nat} {t u:Trace} {g:Nat}
theorem TI.app (h:TI H n B t) (A:H.Ok) (hg:g<n) (hu:∀op∈u,May H g op) (hB:∀op∈u,∀x b,op.act.touch?=some x->blk x.loc=some b->b<B):TI H n B (t++u):=by
 have kn:∀{k:Nat} {op:MemOp},(t++u)[k]?=some op->op∈u->Knows (t++u) g k:=fun hk hm=>by
  have:=knows_own hk;rwa [(hu _ hm).1] at this
 refine ⟨fun said=>?_,fun op hop a=>?_,fun op hop=>?_,fun k x b hx hb=>?_,fun i b hi k x hx hb=>?_,fun i b hi k x hx hb hw=>?_,fun i b hi k x hx hb hp=>?_,fun i b hi k x hx hb hp=>?_⟩
 · refine noRace_append (h.nr said) (fun op hop=>(hu op hop).1) (fun i a ha op hop x hx hc=>?_)
   obtain ⟨b,hb⟩:=zatw (show x.loc.isMemory=true by rw [<- hc.1];exact hc.2.1)
   have hb':blk a.loc=some b:=by rw [hc.1];exact hb
   rcases (hu op hop).2.2 x b hx hb with ho | ⟨hr,hw⟩ | ⟨hs,hk⟩ | ⟨hs,hk⟩
   · exact h.own g b ho i a ha hb'
   · exact h.ro g b hr i a ha hb' (hc.2.2.1.resolve_right (by simp [hw]))
   · rcases hc.2.2.2 with hp | hp | ⟨_,_,hp⟩
     · exact h.sy g b hs i a ha hb' hp
     · rw [hk] at hp;cases hp
     · rw [hk] at hp;cases hp
   · rcases hc.2.2.2 with hp | hp | ⟨_,hp,_⟩
     · exact h.sy g b (A.sgSy g b hs) i a ha hb' hp
     · rw [hk] at hp;cases hp
     · exact h.sg g b hs i a ha hb' hp
 · rcases Array.mem_append.1 hop with h1 | h1
   · exact h.norel op h1 a
   · exact (hu op h1).2.1 a
 · rcases Array.mem_append.1 hop with h1 | h1
   · exact h.gs op h1
   · rw [(hu op h1).1];exact hg
 · rcases zact hx with h1 | ⟨op,hop,_,h1⟩
   · exact h.low k x b h1 hb
   · exact hB op hop x b h1 hb
 · rcases zact hx with h1 | ⟨op,hop,hk,h1⟩
   · exact (h.own i b hi k x h1 hb).app u
   · rcases (hu op hop).2.2 x b h1 hb with ho | ⟨hr,_⟩ | ⟨hs,_⟩ | ⟨hs,_⟩
     · rw [A.own i g b hi ho];exact kn hk hop
     · exact absurd hr (A.ownRo i g b hi)
     · exact absurd hs (A.ownSy i g b hi)
     · exact absurd (A.sgSy g b hs) (A.ownSy i g b hi)
 · rcases zact hx with h1 | ⟨op,hop,hk,h1⟩
   · exact (h.ro i b hi k x h1 hb hw).app u
   · rcases (hu op hop).2.2 x b h1 hb with ho | ⟨_,hf⟩ | ⟨hs,_⟩ | ⟨hs,_⟩
     · exact absurd hi (A.ownRo g i b ho)
     · rw [hf] at hw;cases hw
     · exact absurd hs (A.roSy i g b hi)
     · exact absurd (A.sgSy g b hs) (A.roSy i g b hi)
 · rcases zact hx with h1 | ⟨op,hop,hk,h1⟩
   · exact (h.sy i b hi k x h1 hb hp).app u
   · rcases (hu op hop).2.2 x b h1 hb with ho | ⟨hr,_⟩ | ⟨_,hs⟩ | ⟨_,hs⟩
     · exact absurd hi (A.ownSy g i b ho)
     · exact absurd hi (A.roSy g i b hr)
     · rw [hs] at hp;cases hp
     · rw [hs] at hp;cases hp
 · rcases zact hx with h1 | ⟨op,hop,hk,h1⟩
   · exact (h.sg i b hi k x h1 hb hp).app u
   · rcases (hu op hop).2.2 x b h1 hb with ho | ⟨hr,_⟩ | ⟨_,hs⟩ | ⟨hs,_⟩
     · exact absurd (A.sgSy i b hi) (A.ownSy g i b ho)
     · exact absurd (A.sgSy i b hi) (A.roSy g i b hr)
     · rw [hs] at hp;cases hp
     · rw [A.sg i g b hi hs];exact kn hk hop
theorem TI.turn {H':Hold} {B':Nat} (h:TI H n B t) (hB:B<=B')
 (own:∀i b,H'.own i b->H.own i b\/B<=b) (ro:∀i b,H'.ro i b->H.ro i b\/H.own i b\/B<=b)
 (sy:∀i b,H'.sy i b->H.sy i b\/H.own i b\/B<=b) (sg:∀i b,H'.sg i b->H.sg i b\/H.own i b\/B<=b):TI H' n B' t:=by
 have no:∀{k:Nat} {x:Touch} {b:Nat},touchAt t k=some x->blk x.loc=some b->B<=b->False:=fun hx hb hl=>by have:=h.low _ _ _ hx hb;omega
 refine ⟨h.nr,h.norel,h.gs,fun k x b hx hb=>Nat.lt_of_lt_of_le (h.low k x b hx hb) hB,fun i b hi k x hx hb=>?_,fun i b hi k x hx hb hw=>?_,fun i b hi k x hx hb hp=>?_,fun i b hi k x hx hb hp=>?_⟩
 · rcases own i b hi with h1 | h1
   · exact h.own i b h1 k x hx hb
   · exact (no hx hb h1).elim
 · rcases ro i b hi with h1 | h1 | h1
   · exact h.ro i b h1 k x hx hb hw
   · exact h.own i b h1 k x hx hb
   · exact (no hx hb h1).elim
 · rcases sy i b hi with h1 | h1 | h1
   · exact h.sy i b h1 k x hx hb hp
   · exact h.own i b h1 k x hx hb
   · exact (no hx hb h1).elim
 · rcases sg i b hi with h1 | h1 | h1
   · exact h.sg i b h1 k x hx hb hp
   · exact h.own i b h1 k x hx hb
   · exact (no hx hb h1).elim
theorem zasg {p k:Nat} {x y:MemOp} (hx:x.g=p/\x.act = .go k) (hy:y.g=k/\y.act = .start) (h0:Deaf t p=0) (hk:Deaf t k=0) {i:Nat} (h:Knows t p i):Knows (t ++ #[x,y]) k i:=by
 have hxp:(t ++ #[x,y])[t.size]?=some x:=by rw [Array.getElem?_append_right (Nat.le_refl _)];simp
 have hyp:(t ++ #[x,y])[t.size+1]?=some y:=by rw [Array.getElem?_append_right (by omega)];simp
 have h1:HappensBefore (t ++ #[x,y]) i t.size:=h.hb_new (Nat.le_refl _) hxp hx.1
 have e0:(t ++ #[x,y]).heard t.size:=⟨p,by simp [Trace.g?,hx.1],by rw [deaf_old (Nat.le_refl _)];exact h0⟩
 have e1:(t ++ #[x,y]).heard (t.size+1):=⟨k,by simp [Trace.g?,hy.1],by rw [deaf_succ hxp,deaf_old (Nat.le_refl _)];simp only [deafStep,hx.2];exact hk⟩
 exact ⟨t.size+1,y,hyp,hy.1,.inr (h1.trans (.single (.inr ⟨.spawn (child:=k) (by rw [act?_of hxp,hx.2]) (by rw [act?_of hyp,hy.2]) (by simp [Trace.g?,hy.1]),e0,e1⟩)))⟩
theorem TI.go {H':Hold} {p:Nat} {x y:MemOp} (h:TI H n B t) (hp:p<n) (hx:x.g=p/\x.act = .go n) (hy:y.g=n/\y.act = .start) (h0:Deaf t p=0) (hk:Deaf t n=0)
 (own:∀i b,H'.own i b->i≠n/\H.own i b) (ro:∀i b,H'.ro i b->if i=n then H.ro p b\/H.own p b else H.ro i b\/H.own i b)
 (sy:∀i b,H'.sy i b->if i=n then H.sy p b\/H.own p b else H.sy i b\/H.own i b) (sg:∀i b,H'.sg i b->i≠n/\(H.sg i b\/H.own i b)):TI H' (n+1) B (t ++ #[x,y]):=by
 have hnt:∀op ∈ #[x,y],∀b,op.act.touch?=some b->False:=by
  intro op hop b hb
  simp only [List.mem_toArray,List.mem_cons,List.not_mem_nil,or_false] at hop
  rcases hop with rfl | rfl
  · rw [hx.2] at hb;cases hb
  · rw [hy.2] at hb;cases hb
 have old:∀{i:Nat} {a:Touch},touchAt (t ++ #[x,y]) i=some a->touchAt t i=some a:=by
  intro i a ha
  rcases zact ha with h1 | ⟨op,hop,_,h1⟩
  · exact h1
  · exact (hnt op hop a h1).elim
 have pass:∀{i:Nat},Knows t p i->Knows (t ++ #[x,y]) n i:=fun hi=>zasg hx hy h0 hk hi
 refine ⟨fun said=>?_,fun op hop a=>?_,fun op hop=>?_,fun k z b hz hb=>h.low k z b (old hz) hb,fun i b hi k z hz hb=>?_,fun i b hi k z hz hb hw=>?_,fun i b hi k z hz hb hw=>?_,fun i b hi k z hz hb hw=>?_⟩
 · have e:t ++ #[x,y]=(t ++ #[x]) ++ #[y]:=by apply Array.ext';simp
   rw [e]
   refine noRace_append (g:=n) (noRace_append (g:=p) (h.nr said) (fun op hop=>by simp at hop;rw [hop];exact hx.1) (fun i a _ op hop b hb _=>(hnt op (by simp at hop ⊢;exact .inl hop) b hb).elim))
    (fun op hop=>by simp at hop;rw [hop];exact hy.1) (fun i a _ op hop b hb _=>(hnt op (by simp at hop ⊢;exact .inr hop) b hb).elim)
 · rcases Array.mem_append.1 hop with h1 | h1
   · exact h.norel op h1 a
   · simp only [List.mem_toArray,List.mem_cons,List.not_mem_nil,or_false] at h1
     rcases h1 with rfl | rfl
     · rw [hx.2];simp
     · rw [hy.2];simp
 · rcases Array.mem_append.1 hop with h1 | h1
   · exact Nat.lt_succ_of_lt (h.gs op h1)
   · simp only [List.mem_toArray,List.mem_cons,List.not_mem_nil,or_false] at h1
     rcases h1 with rfl | rfl
     · rw [hx.1];omega
     · rw [hy.1];omega
 · exact (h.own i b (own i b hi).2 k z (old hz) hb).app _
 · have:=ro i b hi
   by_cases e:i=n
   · rw [if_pos e] at this
     subst e
     rcases this with h1 | h1
     · exact pass (h.ro p b h1 k z (old hz) hb hw)
     · exact pass (h.own p b h1 k z (old hz) hb)
   · rw [if_neg e] at this
     rcases this with h1 | h1
     · exact (h.ro i b h1 k z (old hz) hb hw).app _
     · exact (h.own i b h1 k z (old hz) hb).app _
 · have:=sy i b hi
   by_cases e:i=n
   · rw [if_pos e] at this
     subst e
     rcases this with h1 | h1
     · exact pass (h.sy p b h1 k z (old hz) hb hw)
     · exact pass (h.own p b h1 k z (old hz) hb)
   · rw [if_neg e] at this
     rcases this with h1 | h1
     · exact (h.sy i b h1 k z (old hz) hb hw).app _
     · exact (h.own i b h1 k z (old hz) hb).app _
 · rcases (sg i b hi).2 with h1 | h1
   · exact (h.sg i b h1 k z (old hz) hb hw).app _
   · exact (h.own i b h1 k z (old hz) hb).app _
end
def Held (alive:Nat->Prop) (rel:Nat->Option Nat) (t:Trace):Prop:=
 ∀k,t.counts k->(∃j,alive j/\Knows t j k)\/∃j r,rel j=some r/\Before t k r
structure RelAt (wg:Nat) (t:Trace) (j r:Nat):Prop where
 act:t.act? r=some (.mark (.releaseMerge (stA wg)))
 g:t.g? r=some j
 heard:t.heard r
theorem RelAt.app {wg:Nat} {t:Trace} {j r:Nat} (h:RelAt wg t j r) (u:Trace):RelAt wg (t++u) j r:=
 ⟨by rw [act?_old (lt_of_act? h.act)];exact h.act,by rw [g?_old (lt_of_act? h.act)];exact h.g,(heard_old (lt_of_act? h.act)).2 h.heard⟩
section
variable {alive:Nat->Prop} {rel:Nat->Option Nat} {t u:Trace} {g:Nat}
theorem Held.old {k:Nat} (h:Held alive rel t) (hk:k<t.size) (hc:(t++u).counts k):(∃j,alive j/\Knows (t++u) j k)\/∃j r,rel j=some r/\Before (t++u) k r:=by
 rcases h k ((counts_old hk).1 hc) with ⟨j,h1,h2⟩ | ⟨j,r,h1,h2⟩
 · exact .inl ⟨j,h1,h2.app u⟩
 · exact .inr ⟨j,r,h1,h2.app u⟩
theorem Held.app (h:Held alive rel t) (hu:∀op∈u,op.g=g) (hg:alive g\/∀k,t.size<=k->¬ (t++u).counts k):Held alive rel (t++u):=by
 intro k hc
 rcases Nat.lt_or_ge k t.size with hk | hk
 · exact h.old hk hc
 · rcases hg with hg | hg
   · obtain ⟨x,hx,_⟩:=hc
     obtain ⟨op,ho,_⟩:=touch_of hx
     rcases getElem?_append_cases ho with ⟨h1,_⟩ | ⟨_,h1⟩
     · omega
     · have:=knows_own ho;rw [hu op h1] at this;exact .inl ⟨g,hg,this⟩
   · exact absurd hc (hg k hk)
end
end Go.Co
namespace Go.Co
open Go Go.Conc
open Go.ConcN (sumTo upd upd_same upd_ne)
open Go.ConcR (KK wgBlock WgAt stA smA rd wr mk)
section
variable (P:Program) (ty:TypeId) (Post:Value->World->Prop)
inductive Sit (main:Bool) (s:LG) (o:Rk) (d:Nat) (w:World):Goroutine->Prop
 | run (g:Goroutine):g.status = .running->W P ty Post o main s (core g) w->(∀k,s.kid=some k->k.st≠7)->Sit main s o d w g
 | send (g:Goroutine) (k:Kid) (v z:Value) (rest:List Value) (o':Rk):W P ty Post o main s g w->s.kid=some k->k.st=0->k.out=v::rest->s.fk=none->Rk.lt o' o->
  W P ty Post o' main { s with kid:=some { k with out:=rest } } (Conc.served g undef) w->Sit main s o d w (parked g #[scase k.ch v z] .send)
 | recv (g:Goroutine) (f:Fk) (i c:Nat) (rem:List Value) (b:Bool) (z:Value):W P ty Post o main s g w->s.fk=some f->f.tag = .idle->f.kids[i]?=some (c,rem,false)->
  (∀v rest,rem=v::rest->∃o',Rk.lt o' o/\W P ty Post o' main { s with fk:=some { f with kids:=f.kids.set i (c,rest,false) } } (Conc.served g (recvd b v true)) w)->(∀k,s.kid=some k->k.st≠7)->
  Sit main s o d w (parked g #[rcase c z] (.recv b))
 | sem (g:Goroutine) (f:Fk):W P ty Post o main s g w->s.fk=some f->f.tag = .w3->(∀k,s.kid=some k->k.st≠7)->Sit main s o d w { g with status:=.blocked }
 | quit (g:Goroutine) (k:Kid) (q:Nat):main=false->s.kid=some k->k.st=7->s.fk=none->o=Rk.num q->QuitsD P q d g->Sit main s o d w g
end
section
variable {P:Program} {ty:TypeId} {Post:Value->World->Prop}
theorem zabv {g:Goroutine} (h:core g=g):g.status = .running/\g.offers=none:=by
 rw [<- h];exact ⟨rfl,rfl⟩
theorem Rely.kidOut {s:LG} {w w₁:World} (r:Rely ty s w w₁) {k:Kid} (hk:s.kid=some k) (out:List Value) (st:Nat):Rely ty { s with kid:=some { k with out:=out,st:=st } } w w₁:=
 ⟨r.tape,r.os,r.output,r.size,r.own,r.ro,fun k' e=>by cases e;exact r.kid k hk,r.fk⟩
theorem Rely.fkKids {s:LG} {w w₁:World} (r:Rely ty s w w₁) {f:Fk} (hf:s.fk=some f) (kids:List (Nat×List Value×Bool)) (tag:Tag):Rely ty { s with fk:=some { f with kids:=kids,tag:=tag } } w w₁:=
 ⟨r.tape,r.os,r.output,r.size,r.own,r.ro,r.kid,fun f' e=>by cases e;exact r.fk f hf⟩
theorem Sit.rely {main:Bool} {s:LG} {o:Rk} {d:Nat} {w w₁:World} {g:Goroutine} (h:Sit P ty Post main s o d w g) (r:Rely ty s w w₁):Sit P ty Post main s o d w₁ g:=by
 cases h with
 | run _ h1 h2 h3=>exact .run _ h1 (h2.rely r) h3
 | send g k v z rest o' h1 h2 h3 h4 h5 h6 h7=>exact .send g k v z rest o' (h1.rely r) h2 h3 h4 h5 h6 (h7.rely (r.kidOut h2 rest k.st))
 | recv g f i c rem b z h1 h2 h3 h4 h5 h6=>exact .recv g f i c rem b z (h1.rely r) h2 h3 h4 (fun v rest e=>let ⟨o',h7,h8⟩:=h5 v rest e; ⟨o',h7,h8.rely (r.fkKids h2 _ f.tag)⟩) h6
 | sem g f h1 h2 h3 h4=>exact .sem g f (h1.rely r) h2 h3 h4
 | quit _ k q h1 h2 h3 h4 h5 h6=>exact .quit _ k q h1 h2 h3 h4 h5 h6
theorem Sit.woken {main:Bool} {s:LG} {o:Rk} {d:Nat} {w:World} {g x x':Goroutine} {w':World} (h:Sit P ty Post main s o d w g):Sit P ty Post main s o d w (woken P x x' w' g):=by
 unfold Conc.woken
 split
 case isFalse=>exact h
 cases h with
 | run _ h1 h2 h3=>rw [again_running _ (.inl h1)];exact .run _ h1 h2 h3
 | send g k v z rest o' h1 h2 h3 h4 h5 h6 h7=>
  by_cases hc:(parked g #[scase k.ch v z] .send).again w'=parked g #[scase k.ch v z] .send
  · rw [hc];exact .send g k v z rest o' h1 h2 h3 h4 h5 h6 h7
  · have e:(parked g #[scase k.ch v z] .send).again w'={ parked g #[scase k.ch v z] .send with status:=.running }:=by
     unfold Goroutine.again at hc ⊢
     simp only [parked] at hc ⊢
     split at hc
     · rename_i hh;rw [if_pos hh]
     · exact absurd rfl hc
    rw [e]
    refine .run _ rfl ?_ (fun k' hk'=>by rw [h2] at hk';cases hk';omega)
    have:=h1.core
    rw [show core { parked g #[scase k.ch v z] .send with status:=.running }=core g from rfl,this];exact h1
 | recv g f i c rem b z h1 h2 h3 h4 h5 h6=>
  by_cases hc:(parked g #[rcase c z] (.recv b)).again w'=parked g #[rcase c z] (.recv b)
  · rw [hc];exact .recv g f i c rem b z h1 h2 h3 h4 h5 h6
  · have e:(parked g #[rcase c z] (.recv b)).again w'={ parked g #[rcase c z] (.recv b) with status:=.running }:=by
     unfold Goroutine.again at hc ⊢
     simp only [parked] at hc ⊢
     split at hc
     · rename_i hh;rw [if_pos hh]
     · exact absurd rfl hc
    rw [e]
    refine .run _ rfl ?_ h6
    have:=h1.core
    rw [show core { parked g #[rcase c z] (.recv b) with status:=.running }=core g from rfl,this];exact h1
 | sem g f h1 h2 h3 h4=>
  have hg:=zabv h1.core
  have e:({ g with status:=.blocked }:Goroutine).again w'=g:=by
   obtain ⟨fr,cs,st,dy,off⟩:=g
   obtain ⟨rfl,rfl⟩:st = .running/\off=none:=hg
   rfl
  rw [e]
  exact .run _ hg.1 (by rw [h1.core];exact h1) h4
 | quit _ k q h1 h2 h3 h4 h5 h6=>rw [again_running _ h6.status];exact .quit _ k q h1 h2 h3 h4 h5 h6
theorem Sit.awake {main:Bool} {s:LG} {o:Rk} {d:Nat} {w:World} {g:Goroutine} (h:Sit P ty Post main s o d w g):awake g:=by
 cases h with
 | run _ h1 h2 h3=>exact awake_of (.inl h1)
 | send g k v z rest o' h1 h2 h3 h4 h5 h6 h7=>exact awake_of (.inr (.inl rfl))
 | recv g f i c rem b z h1 h2 h3 h4 h5 h6=>exact awake_of (.inr (.inl rfl))
 | sem g f h1 h2 h3 h4=>exact awake_of (.inr (.inl rfl))
 | quit _ k q h1 h2 h3 h4 h5 h6=>exact awake_of (h6.status.elim .inl fun x=>.inr (.inr x))
end
def pnd:Tag->Nat
 | .added | .pend=>1
 | _=>0
def isOpen:Tag->Prop
 | .idle | .dis | .added | .pend | .w1 _ | .w2 _=>True
 | _=>False
def isFin:Tag->Prop
 | .w4 | .ke | .acq=>True
 | _=>False
def cnt (n:Nat) (g:Nat->Nat):Nat:=sumTo n fun k=>if g k<=3 then 1 else 0
inductive GMode (n:Nat) (g:Nat->Nat):Tag->Int->Int->Prop
 | opn {tag:Tag}:isOpen tag->(∀k,k<n->g k<=3\/g k=7)->(∀b,tag = .w1 b->cnt n g<=b/\b<=n)->(∀v,tag = .w2 v->cnt n g<=v/\v≠0/\v<=n)->GMode n g tag (((cnt n g+pnd tag:Nat):Int) * KK) 0
 | reg:(∀k,k<n->g k<=3\/g k=7)->1<=cnt n g->GMode n g .w3 ((cnt n g:Nat) * KK+1) 0
 | last (L:Nat):L<n->(g L=4\/g L=5\/g L=6)->(∀k,k<n->k≠L->g k=7)->GMode n g .w3 (if g L=6 then 0 else 1) 0
 | sema:(∀k,k<n->g k=7)->GMode n g .w3 0 1
 | fin {tag:Tag}:isFin tag->(∀k,k<n->g k=7)->GMode n g tag 0 0
theorem cnt_le (n:Nat) (g:Nat->Nat):cnt n g<=n:=by
 unfold cnt
 induction n with
 | zero=>exact Nat.le_refl _
 | succ n ih=>simp only [sumTo];split <;> omega
theorem zalg {n:Nat} {g g':Nat->Nat} (h:∀k,k<n->g k=g' k):cnt n g=cnt n g':=by
 unfold cnt
 exact Go.ConcN.sumTo_congr fun k hk=>by rw [h k hk]
theorem zarz {n:Nat} {g:Nat->Nat} (h:∀k,k<n->3<g k):cnt n g=0:=by
 unfold cnt
 induction n with
 | zero=>rfl
 | succ n ih=>simp only [sumTo];rw [ih fun k hk=>h k (by omega),if_neg (by have:=h n (by omega);omega)]
theorem zam1 {n:Nat} {g:Nat->Nat} {k:Nat} (hk:k<n) (h:g k<=3):1<=cnt n g:=by
 unfold cnt
 have:=Go.ConcN.le_sumTo (f:=fun k=>if g k<=3 then 1 else 0) hk
 simp only [h,if_true] at this
 exact this
theorem zan2 {n:Nat} {g:Nat->Nat} {k:Nat} (hk:k<n) (x:Nat):cnt n (upd g k x)+(if g k<=3 then 1 else 0)=cnt n g+(if x<=3 then 1 else 0):=by
 unfold cnt
 exact Go.ConcN.sumTo_upd g x (fun a=>if a<=3 then 1 else 0) hk
theorem GMode.congr {n:Nat} {g g':Nat->Nat} {tag:Tag} {st sm:Int} (h:GMode n g tag st sm) (e:∀k,k<n->g k=g' k):GMode n g' tag st sm:=by
 have ec:=zalg e
 cases h with
 | opn h1 h2 h3 h4=>rw [ec];exact .opn h1 (fun k hk=>by rw [<- e k hk];exact h2 k hk) (fun b hb=>by rw [<- ec];exact h3 b hb) (fun v hv=>by rw [<- ec];exact h4 v hv)
 | reg h1 h2=>rw [ec];exact .reg (fun k hk=>by rw [<- e k hk];exact h1 k hk) (by rw [<- ec];exact h2)
 | last L h1 h2 h3=>rw [e L h1];exact .last L h1 (by rw [<- e L h1];exact h2) (fun k hk hne=>by rw [<- e k hk];exact h3 k hk hne)
 | sema h1=>exact .sema fun k hk=>by rw [<- e k hk];exact h1 k hk
 | fin h0 h1=>exact .fin h0 fun k hk=>by rw [<- e k hk];exact h1 k hk
theorem GMode.stay {n:Nat} {g:Nat->Nat} {tag:Tag} {st sm:Int} (h:GMode n g tag st sm) {k x:Nat} (hk:k<n) (h3:g k<=3) (hx:x<=3):GMode n (upd g k x) tag st sm:=by
 have ec:cnt n (upd g k x)=cnt n g:=by have:=zan2 (g:=g) hk x;rw [if_pos h3,if_pos hx] at this;omega
 have all:(∀j,j<n->g j<=3\/g j=7)->∀j,j<n->upd g k x j<=3\/upd g k x j=7:=fun ha j hj=>by
  by_cases e:j=k
  · subst e;rw [upd_same];exact .inl hx
  · rw [upd_ne g x e];exact ha j hj
 cases h with
 | opn h1 h2 h4 h5=>rw [<- ec];exact .opn h1 (all h2) (fun b hb=>by rw [ec];exact h4 b hb) (fun v hv=>by rw [ec];exact h5 v hv)
 | reg h1 h2=>rw [<- ec];exact .reg (all h1) (by rw [ec];exact h2)
 | last L h1 h2 h4=>
  have:k≠L:=fun e=>by subst e;omega
  exact absurd (h4 k hk this) (by omega)
 | sema h1=>exact absurd (h1 k hk) (by omega)
 | fin h0 h1=>exact absurd (h1 k hk) (by omega)
theorem KK_eq:KK=4294967296:=rfl
theorem GMode.kfit {n:Nat} {g:Nat->Nat} {tag:Tag} {st sm:Int} (h:GMode n g tag st sm) (hn:n<=1000000) {k:Nat} (hk:k<n) (h7:g k≠7):KFit (g k) st sm:=by
 have hle:=cnt_le n g
 have fit3:∀(v wt:Nat),wt<=1->1<=v->v<=2000000->KFit 3 ((v:Nat) * KK+wt) 0:=fun v wt hw h1 h2=>⟨v - 1,wt,hw,by omega,by rw [KK_eq];omega,rfl⟩
 have small:g k<=3->(∀v wt:Nat,wt<=1->1<=v->v<=2000000->st=(v:Nat) * KK+wt->sm=0->KFit (g k) st sm):=fun h3 v wt hw h1 h2 e1 e2=>by
  subst e1 e2
  have:g k=0\/g k=1\/g k=2\/g k=3:=by omega
  rcases this with e | e | e | e <;> rw [e]
  · trivial
  · trivial
  · trivial
  · exact fit3 v wt hw h1 h2
 cases h with
 | opn h1 h2 _ _=>
  have h3:g k<=3:=(h2 k hk).resolve_right h7
  have:=zam1 hk h3
  have hp:pnd tag<=1:=by cases tag <;> simp [pnd]
  exact small h3 (cnt n g+pnd tag) 0 (by omega) (by omega) (by omega) (by simp) rfl
 | reg h1 h2=>
  have h3:g k<=3:=(h1 k hk).resolve_right h7
  exact small h3 (cnt n g) 1 (by omega) h2 (by omega) (by simp) rfl
 | last L h1 h2 h4=>
  have e:k=L:=Classical.byContradiction fun e=>h7 (h4 k hk e)
  subst e
  rcases h2 with e | e | e <;> rw [e] <;> simp [KFit]
 | sema h1=>exact absurd (h1 k hk) h7
 | fin h0 h1=>exact absurd (h1 k hk) h7
theorem GMode.out {n:Nat} {g:Nat->Nat} {tag:Tag} {st sm:Int} (h:GMode n g tag st sm) :
 (isOpen tag/\(∀k,k<n->g k<=3\/g k=7)/\st=((cnt n g+pnd tag:Nat):Int) * KK/\sm=0)\/(tag = .w3/\(∀k,k<n->g k<=3\/g k=7)/\1<=cnt n g/\st=(cnt n g:Nat) * KK+1/\sm=0) \/
 (tag = .w3/\(∃L,L<n/\(g L=4\/g L=5\/g L=6)/\(∀k,k<n->k≠L->g k=7)/\st=(if g L=6 then 0 else 1))/\sm=0)\/(tag = .w3/\(∀k,k<n->g k=7)/\st=0/\sm=1)\/(isFin tag/\(∀k,k<n->g k=7)/\st=0/\sm=0):=by
 cases h with
 | opn h1 h2 _ _=>exact .inl ⟨h1,h2,rfl,rfl⟩
 | reg h1 h2=>exact .inr (.inl ⟨rfl,h1,h2,rfl,rfl⟩)
 | last L h1 h2 h3=>exact .inr (.inr (.inl ⟨rfl,⟨L,h1,h2,h3,rfl⟩,rfl⟩))
 | sema h1=>exact .inr (.inr (.inr (.inl ⟨rfl,h1,rfl,rfl⟩)))
 | fin h0 h1=>exact .inr (.inr (.inr (.inr ⟨h0,h1,rfl,rfl⟩)))
theorem GMode.kid {n:Nat} {g:Nat->Nat} {tag:Tag} {st sm st' sm':Int} {wg n':Nat} {es:Array Event} (h:GMode n g tag st sm) {k:Nat} (hk:k<n) (hT:KT wg (g k) st sm n' st' sm' es):GMode n (upd g k n') tag st' sm':=by
 generalize hx:g k=x at hT
 have h7:∀{y:Nat},(∀j,j<n->g j<=3\/g j=7)->y=7->∀j,j<n->upd g k y j<=3\/upd g k y j=7:=fun ha hy j hj=>by
  by_cases e:j=k
  · subst e;rw [upd_same];exact .inr hy
  · rw [upd_ne g _ e];exact ha j hj
 have isL:∀{L:Nat},L<n->(∀j,j<n->j≠L->g j=7)->x≠7->k=L:=fun hL ha hx7=>Classical.byContradiction fun e=>hx7 (by rw [<- hx];exact ha k hk e)
 cases hT with
 | rel=>exact h.stay hk (by omega) (by omega)
 | dis=>exact h.stay hk (by omega) (by omega)
 | addq hw hno=>
  rename_i v wt
  have hc:=zan2 (g:=g) hk 7
  simp only [hx,Nat.le_refl,if_true] at hc
  have hc:cnt n (upd g k 7)+1=cnt n g:=by simpa using hc
  generalize e0:((v+1) * KK+wt:Int)=st0 at h
  cases h with
  | opn h1 h2 h3 h4=>
   rw [KK_eq] at e0
   obtain rfl:wt=0:=by omega
   have ev:(v:Int)=((cnt n (upd g k 7)+pnd tag:Nat):Int):=by omega
   rw [show ((v:Int) * KK+((0:Nat):Int))=((cnt n (upd g k 7)+pnd tag:Nat):Int) * KK by rw [ev];simp]
   exact .opn h1 (h7 h2 rfl) (fun b hb=>by have:=h3 b hb;omega) (fun u hu=>by have:=h4 u hu;omega)
  | reg h1 h2=>
   rw [KK_eq] at e0
   obtain rfl:wt=1:=by omega
   have ev:(v:Int)=((cnt n (upd g k 7):Nat):Int):=by omega
   rw [show ((v:Int) * KK+((1:Nat):Int))=((cnt n (upd g k 7):Nat):Int) * KK+1 by rw [ev];rfl]
   exact .reg (h7 h1 rfl) (by omega)
  | last L h1 h2 h3=>have:=isL h1 h3 (by omega);subst this;omega
  | fin h0 h1=>have:=h1 k hk;omega
 | addl=>
  have hc:=zan2 (g:=g) hk 4
  simp only [hx,Nat.le_refl,if_true] at hc
  have hc:cnt n (upd g k 4)+1=cnt n g:=by simpa using hc
  generalize e0:(KK+1:Int)=st0 at h
  cases h with
  | opn h1 h2 h3 h4=>rw [KK_eq] at e0;omega
  | reg h1 h2=>
   rw [KK_eq] at e0
   have e1:cnt n (upd g k 4)=0:=by omega
   have:=GMode.last (g:=upd g k 4) k hk (.inl (upd_same g k 4)) (fun j hj hne=>by
    rw [upd_ne g 4 hne]
    rcases h1 j hj with h3 | h3
    · have:=zam1 (g:=upd g k 4) hj (by rw [upd_ne g 4 hne];exact h3)
      omega
    · exact h3)
   rw [upd_same] at this
   exact this
  | last L h1 h2 h3=>have:=isL h1 h3 (by omega);subst this;omega
  | fin h0 h1=>have:=h1 k hk;omega
 | ld=>
  generalize e0:(1:Int)=st0 at h
  cases h with
  | opn h1 h2 h3 h4=>have:=h2 k hk;omega
  | reg h1 h2=>have:=h1 k hk;omega
  | last L h1 h2 h3=>
   have:=isL h1 h3 (by omega);subst this
   have:=GMode.last (g:=upd g k 5) k hk (.inr (.inl (upd_same g k 5))) (fun j hj hne=>by rw [upd_ne g 5 hne];exact h3 j hj hne)
   rw [upd_same] at this
   rw [hx]
   simpa using this
  | fin h0 h1=>have:=h1 k hk;omega
 | st=>
  generalize e0:(1:Int)=st0 at h
  cases h with
  | opn h1 h2 h3 h4=>have:=h2 k hk;omega
  | reg h1 h2=>have:=h1 k hk;omega
  | last L h1 h2 h3=>
   have:=isL h1 h3 (by omega);subst this
   have:=GMode.last (g:=upd g k 6) k hk (.inr (.inr (upd_same g k 6))) (fun j hj hne=>by rw [upd_ne g 6 hne];exact h3 j hj hne)
   rw [upd_same] at this
   simpa using this
  | fin h0 h1=>have:=h1 k hk;omega
 | sem=>
  rcases h.out with ⟨_,h2,_⟩ | ⟨_,h1,_⟩ | ⟨rfl,⟨L,h1,h2,h3,_⟩,_⟩ | ⟨_,h1,_,h2⟩ | ⟨_,h1,_⟩
  · have:=h2 k hk;omega
  · have:=h1 k hk;omega
  · have:=isL h1 h3 (by omega);subst this
    exact .sema fun j hj=>by
     by_cases e:j=k
     · subst e;exact upd_same g j 7
     · rw [upd_ne g 7 e];exact h3 j hj e
  · omega
  · have:=h1 k hk;omega
theorem GMode.pfit {n:Nat} {g:Nat->Nat} {tag:Tag} {st sm:Int} (h:GMode n g tag st sm) (hn:n<=1000000):PFit tag st sm:=by
 have hle:=cnt_le n g
 cases h with
 | opn h1 h2 h3 h4=>
  cases tag <;> first | exact h1.elim | trivial | skip
  · exact ⟨cnt n g,by omega,by simp [pnd],rfl⟩
  · rename_i b;exact ⟨cnt n g,(h3 b rfl).1,by omega,by simp [pnd],rfl⟩
  · rename_i v;exact ⟨cnt n g,(h4 v rfl).1,(h4 v rfl).2.1,by omega,by simp [pnd],rfl⟩
 | reg h1 h2=>exact .inl rfl
 | last L h1 h2 h3=>exact .inl rfl
 | sema h1=>exact .inr ⟨rfl,rfl⟩
 | fin h0 h1=>cases tag <;> first | exact h0.elim | trivial | exact ⟨rfl,rfl⟩
theorem GMode.none3 {n:Nat} {g:Nat->Nat} (h:∀k,k<n->g k<=3\/g k=7) (hc:cnt n g=0):∀k,k<n->g k=7:=fun k hk=>by
 rcases h k hk with h3 | h3
 · have:=zam1 hk h3;omega
 · exact h3
theorem GMode.part {n:Nat} {g:Nat->Nat} {tag tag':Tag} {st sm st' sm':Int} {wg:Nat} {D:Prop} {es:Array Event} (h:GMode n g tag st sm) (hT:PT wg n D tag st sm tag' st' sm' es):GMode n g tag' st' sm':=by
 have hle:=cnt_le n g
 cases hT with
 | dis=>
  cases h with
  | opn h1 h2 h3 h4=>exact .opn (tag:=.dis) trivial h2 (fun _ e=>by cases e) (fun _ e=>by cases e)
  | fin h0 h1=>exact h0.elim
 | add=>
  rename_i v
  generalize e0:((v:Int) * KK)=st0 at h
  cases h with
  | opn h1 h2 h3 h4=>
   rw [KK_eq] at e0
   have ev:v=cnt n g:=by simp only [pnd] at e0;omega
   subst ev
   exact .opn (tag:=.added) trivial h2 (fun _ e=>by cases e) (fun _ e=>by cases e)
  | fin h0 h1=>exact h0.elim
 | ena=>
  cases h with
  | opn h1 h2 h3 h4=>exact .opn (tag:=.pend) trivial h2 (fun _ e=>by cases e) (fun _ e=>by cases e)
  | fin h0 h1=>exact h0.elim
 | wdis _=>
  cases h with
  | opn h1 h2 h3 h4=>exact .opn (tag:=.w1 n) trivial h2 (fun _ e=>by cases e;omega) (fun _ e=>by cases e)
  | fin h0 h1=>exact h0.elim
 | w1z=>
  rcases h.out with ⟨_,h2,e,_⟩ | ⟨e,_⟩ | ⟨e,_⟩ | ⟨e,_⟩ | ⟨h0,_⟩
  · rw [KK_eq] at e;simp only [pnd] at e;exact .fin trivial (GMode.none3 h2 (by omega))
  · cases e
  · cases e
  · cases e
  · exact h0.elim
 | w1n hv hb=>
  rename_i b v
  generalize e0:((v:Int) * KK)=st0 at h
  cases h with
  | opn h1 h2 h3 h4=>
   have e1:=e0
   rw [KK_eq] at e1
   have ev:v=cnt n g:=by simp only [pnd] at e1;omega
   subst ev
   exact .opn (tag:=.w2 (cnt n g)) trivial h2 (fun _ e=>by cases e) (fun _ e=>by cases e;omega)
  | fin h0 h1=>exact h0.elim
 | w2h=>
  rename_i v
  generalize e0:((v:Int) * KK)=st0 at h
  cases h with
  | opn h1 h2 h3 h4=>
   have e1:=e0
   rw [KK_eq] at e1
   have ev:v=cnt n g:=by simp only [pnd] at e1;omega
   have:=(h4 v rfl).2.1
   subst ev
   exact .reg h2 (by omega)
  | fin h0 h1=>exact h0.elim
 | w2m hlt=>
  rename_i v v'
  generalize e0:((v':Int) * KK)=st0 at h
  cases h with
  | opn h1 h2 h3 h4=>
   have e1:=e0
   rw [KK_eq] at e1
   have ev:v'=cnt n g:=by simp only [pnd] at e1;omega
   subst ev
   exact .opn (tag:=.w1 (cnt n g)) trivial h2 (fun _ e=>by cases e;omega) (fun _ e=>by cases e)
  | fin h0 h1=>exact h0.elim
 | w3=>
  rcases h.out with ⟨h0,_⟩ | ⟨_,_,_,_,e⟩ | ⟨_,_,e⟩ | ⟨_,h1,_⟩ | ⟨h0,_⟩
  · exact h0.elim
  · omega
  · omega
  · exact .fin trivial h1
  · exact h0.elim
 | w4=>
  rcases h.out with ⟨h0,_⟩ | ⟨e,_⟩ | ⟨e,_⟩ | ⟨e,_⟩ | ⟨_,h1,_⟩
  · exact h0.elim
  · cases e
  · cases e
  · cases e
  · exact .fin trivial h1
 | ke=>
  cases h with
  | opn h1 _ _ _=>exact h1.elim
  | fin h0 h1=>exact .fin trivial h1
theorem GMode.spawn {n:Nat} {g g':Nat->Nat} {st sm:Int} (h:GMode n g .pend st sm) (e:∀k,k<n->g' k=g k) (h0:g' n=0):GMode (n+1) g' .idle st sm:=by
 have ec:cnt (n+1) g'=cnt n g+1:=by
  have e1:cnt (n+1) g'=cnt n g'+1:=by simp [cnt,sumTo,h0]
  rw [e1,zalg e]
 cases h with
 | opn h1 h2 h3 h4=>
  have:=GMode.opn (n:=n+1) (g:=g') (tag:=.idle) trivial (fun k hk=>by
   by_cases hn:k=n
   · subst hn;left;omega
   · rw [e k (by omega)];exact h2 k (by omega)) (fun _ e=>by cases e) (fun _ e=>by cases e)
  rw [ec] at this
  exact this
 | fin h0 h1=>exact h0.elim
end Go.Co
namespace Go.Co
open Go Go.Conc
open Go.ConcN (sumTo upd upd_same upd_ne)
open Go.ConcR (KK wgBlock WgAt stA smA rd wr mk)
abbrev KF:=Nat->Option Kid
abbrev FF:=Nat->Option Fk
abbrev LK:=Nat->Option (Nat×Nat)
structure Str (K:KF) (F:FF) (lk:LK) (n:Nat):Prop where
 kid0:K 0=none
 kids:∀j,0<j->j<n->∃k,K j=some k
 lnk:∀j p k,lk j=some (p,k)->p<j/\j<n/\∃f kd seen,F p=some f/\K j=some kd/\f.kids[k]?=some (kd.ch,kd.out,seen)/\kd.wg=f.wg/\(seen=true->1<=kd.st)
 lnk':∀p f k,p<n->F p=some f->k<f.kids.length->∃j,lk j=some (p,k)
 inj:∀j j' x,lk j=some x->lk j'=some x->j=j'
 un:∀j k,0<j->j<n->lk j=none->K j=some k->k.st=7
 ch:∀j j' k k',lk j≠none->lk j'≠none->K j=some k->K j'=some k'->k.ch=k'.ch->j=j'
 wg:∀p p' f f',p<n->p'<n->F p=some f->F p'=some f'->f.wg=f'.wg->p=p'
 work:∀p f k,p<n->F p=some f->K p=some k->k.st=0
 out:∀j k,j<n->K j=some k->1<=k.st->k.out=[]
 len:∀p f,p<n->F p=some f->f.kids.length<=1000000
structure Wld (ty:TypeId) (K:KF) (F:FF) (lk:LK) (n:Nat) (w:World):Prop where
 chan:∀j kd,lk j≠none->K j=some kd->∃sn rc,w.heap[kd.ch]?=some (.chan 0 #[] (decide (1<=kd.st)) sn rc false)
 wg:∀p f,p<n->F p=some f->∃st sm g,WgAt ty f.wg w st sm/\(∀j k kd,lk j=some (p,k)->K j=some kd->g k=kd.st)/\GMode f.kids.length g f.tag st sm
section
variable {K:KF} {F:FF} {lk:LK} {n i:Nat} {ty:TypeId} {w w':World}
theorem Str.linked (h:Str K F lk n) {j:Nat} {kd:Kid} (hj:j<n) (h0:0<j) (hk:K j=some kd) (h7:kd.st≠7):∃p k,lk j=some (p,k):=by
 cases e:lk j with
 | none=>exact absurd (h.un j kd h0 hj e hk) h7
 | some x=>exact ⟨x.1,x.2,rfl⟩
theorem Str.tag (h:Str K F lk n) {f:Fk} (hf:F i=some f) (tag:Tag):Str K (upd F i (some { f with tag:=tag })) lk n:=by
 have get:∀{p:Nat} {f':Fk},upd F i (some { f with tag:=tag }) p=some f'->∃f0,F p=some f0/\f'.wg=f0.wg/\f'.kids=f0.kids:=fun {p f'} e=>by
  by_cases hp:p=i
  · subst hp;rw [upd_same] at e;cases e;exact ⟨f,hf,rfl,rfl⟩
  · rw [upd_ne F _ hp] at e;exact ⟨f',e,rfl,rfl⟩
 refine ⟨h.kid0,h.kids,fun j p k e=>?_,fun p f' k hp e hk=>?_,h.inj,h.un,h.ch,fun p p' f1 f2 h1 h2 e1 e2 e3=>?_,fun p f' k hp e hk=>?_,h.out,fun p f' hp e=>?_⟩
 · obtain ⟨h1,h2,f0,kd,seen,h3,h4,h5,h6,h7⟩:=h.lnk j p k e
   refine ⟨h1,h2,?_⟩
   by_cases hp:p=i
   · subst hp;rw [hf] at h3;cases h3;exact ⟨_,kd,seen,upd_same F p _,h4,h5,h6,h7⟩
   · exact ⟨f0,kd,seen,by rw [upd_ne F _ hp];exact h3,h4,h5,h6,h7⟩
 · obtain ⟨f0,h1,_,h3⟩:=get e;exact h.lnk' p f0 k hp h1 (by rw [<- h3];exact hk)
 · obtain ⟨f0,g1,g2,_⟩:=get e1;obtain ⟨f0',g3,g4,_⟩:=get e2;exact h.wg p p' f0 f0' h1 h2 g1 g3 (by rw [<- g2, <- g4];exact e3)
 · obtain ⟨f0,h1,_,_⟩:=get e;exact h.work p f0 k hp h1 hk
 · obtain ⟨f0,h1,_,h3⟩:=get e;rw [h3];exact h.len p f0 hp h1
theorem Str.stage (h:Str K F lk n) (h0:0<i) {kd:Kid} (hk:K i=some kd) (st:Nat) (hst:kd.st<=st) (ho:kd.out=[]) (hF:F i=none) (h7:kd.st≠7):Str (upd K i (some { kd with st:=st })) F lk n:=by
 have get:∀{j:Nat} {k':Kid},upd K i (some { kd with st:=st }) j=some k'->∃k0,K j=some k0/\k'.ch=k0.ch/\k'.out=k0.out/\k'.wg=k0.wg/\k0.st<=k'.st/\(j=i\/k'=k0):=fun {j k'} e=>by
  by_cases hj:j=i
  · subst hj;rw [upd_same] at e;cases e;exact ⟨kd,hk,rfl,rfl,rfl,hst,.inl rfl⟩
  · rw [upd_ne K _ hj] at e;exact ⟨k',e,rfl,rfl,rfl,Nat.le_refl _,.inr rfl⟩
 refine ⟨by rw [upd_ne K _ (by omega)];exact h.kid0,fun j a b=>?_,fun j p k e=>?_,h.lnk',h.inj,fun j k a b c e=>?_,fun j j' k k' a b e1 e2 e3=>?_,h.wg,fun p f k hp e e2=>?_,fun j k hj e e2=>?_,h.len⟩
 · by_cases hj:j=i
   · subst hj;exact ⟨_,upd_same K j _⟩
   · rw [upd_ne K _ hj];exact h.kids j a b
 · obtain ⟨h1,h2,f0,k0,seen,h3,h4,h5,h6,h8⟩:=h.lnk j p k e
   refine ⟨h1,h2,?_⟩
   by_cases hj:j=i
   · subst hj;rw [hk] at h4;cases h4;exact ⟨f0,_,seen,h3,upd_same K j _,h5,h6,fun e=>by have:=h8 e;show 1<=st;omega⟩
   · exact ⟨f0,k0,seen,h3,by rw [upd_ne K _ hj];exact h4,h5,h6,h8⟩
 · obtain ⟨k0,e1,_,_,_,e5,e6⟩:=get e
   have:=h.un j k0 a b c e1
   rcases e6 with rfl | rfl
   · rw [hk] at e1;cases e1;exact absurd this h7
   · exact this
 · obtain ⟨k0,e4,e5,_⟩:=get e1;obtain ⟨k0',e6,e7,_⟩:=get e2
   exact h.ch j j' k0 k0' a b e4 e6 (by rw [<- e5, <- e7];exact e3)
 · by_cases hpi:p=i
   · subst hpi;rw [hF] at e;cases e
   · rw [upd_ne K _ hpi] at e2;exact h.work p f k hp e e2
 · obtain ⟨k0,e3,_,e4,_,_,e5⟩:=get e
   rcases e5 with rfl | rfl
   · rw [hk] at e3;cases e3;rw [e4];exact ho
   · exact h.out j k hj e3 e2
theorem Str.opened (h:Str K F lk n) (hF:F i=none) (wg:Nat) (hw:∀p f,p<n->F p=some f->f.wg≠wg) (hK:∀k,K i=some k->k.st=0):Str K (upd F i (some ⟨wg,[],.idle⟩)) lk n:=by
 have get:∀{p:Nat} {f':Fk},upd F i (some ⟨wg,[],.idle⟩) p=some f'->(p=i/\f'=⟨wg,[],.idle⟩)\/(p≠i/\F p=some f'):=fun {p f'} e=>by
  by_cases hp:p=i
  · subst hp;rw [upd_same] at e;cases e;exact .inl ⟨rfl,rfl⟩
  · rw [upd_ne F _ hp] at e;exact .inr ⟨hp,e⟩
 refine ⟨h.kid0,h.kids,fun j p k e=>?_,fun p f' k hp e hk=>?_,h.inj,h.un,h.ch,fun p p' f1 f2 h1 h2 e1 e2 e3=>?_,fun p f' k hp e hk=>?_,h.out,fun p f' hp e=>?_⟩
 · obtain ⟨h1,h2,f0,kd,seen,h3,h4⟩:=h.lnk j p k e
   have hpi:p≠i:=fun e=>by subst e;rw [hF] at h3;cases h3
   exact ⟨h1,h2,f0,kd,seen,by rw [upd_ne F _ hpi];exact h3,h4⟩
 · rcases get e with ⟨rfl,rfl⟩ | ⟨_,e⟩
   · simp at hk
   · exact h.lnk' p f' k hp e hk
 · rcases get e1 with ⟨ha,hb⟩ | ⟨_,g1⟩ <;> rcases get e2 with ⟨ha',hb'⟩ | ⟨_,g2⟩
   · rw [ha,ha']
   · subst hb;exact absurd e3.symm (hw p' f2 h2 g2)
   · subst hb';exact absurd e3 (hw p f1 h1 g1)
   · exact h.wg p p' f1 f2 h1 h2 g1 g2 e3
 · rcases get e with ⟨rfl,rfl⟩ | ⟨_,e⟩
   · exact hK k hk
   · exact h.work p f' k hp e hk
 · rcases get e with ⟨rfl,rfl⟩ | ⟨_,e⟩
   · simp
   · exact h.len p f' hp e
def cutLk (lk:LK) (i:Nat):LK:=fun j=>match lk j with | some (p,k)=>if p=i then none else some (p,k) | none=>none
theorem zae1 {lk:LK} {i j:Nat} {x:Nat×Nat} (h:cutLk lk i j=some x):lk j=some x/\x.1≠i:=by
 unfold cutLk at h
 split at h
 · rename_i p k e
   split at h
   · cases h
   · cases h;exact ⟨e,by assumption⟩
 · cases h
theorem zais {lk:LK} {i j:Nat} (h:cutLk lk i j=none):lk j=none\/∃k,lk j=some (i,k):=by
 unfold cutLk at h
 split at h
 · rename_i p k e
   split at h
   · rename_i hp;exact .inr ⟨k,by rw [e,hp]⟩
   · cases h
 · rename_i e;exact .inl e
theorem Str.joined (h:Str K F lk n) (all:∀j k kd,lk j=some (i,k)->K j=some kd->kd.st=7):Str K (upd F i none) (cutLk lk i) n:=by
 have get:∀{p:Nat} {f':Fk},upd F i none p=some f'->p≠i/\F p=some f':=fun {p f'} e=>by
  by_cases hp:p=i
  · subst hp;rw [upd_same] at e;cases e
  · rw [upd_ne F _ hp] at e;exact ⟨hp,e⟩
 refine ⟨h.kid0,h.kids,fun j p k e=>?_,fun p f' k hp e hk=>?_,fun j j' x e1 e2=>h.inj j j' x (zae1 e1).1 (zae1 e2).1,fun j k a b c e=>?_,fun j j' k k' a b=>?_,fun p p' f1 f2 h1 h2 e1 e2=>h.wg p p' f1 f2 h1 h2 (get e1).2 (get e2).2,
  fun p f' k hp e=>h.work p f' k hp (get e).2,h.out,fun p f' hp e=>h.len p f' hp (get e).2⟩
 · obtain ⟨e1,e2⟩:=zae1 e
   obtain ⟨h1,h2,f0,kd,seen,h3,h4⟩:=h.lnk j p k e1
   exact ⟨h1,h2,f0,kd,seen,by rw [upd_ne F _ e2];exact h3,h4⟩
 · obtain ⟨j,hj⟩:=h.lnk' p f' k hp (get e).2 hk
   exact ⟨j,by unfold cutLk;rw [hj];simp [(get e).1]⟩
 · rcases zais c with c | ⟨q,c⟩
   · exact h.un j k a b c e
   · exact all j q k c e
 · have nn:∀{j:Nat},cutLk lk i j≠none->lk j≠none:=fun {j} hh e=>hh (by unfold cutLk;rw [e])
   exact h.ch j j' k k' (nn a) (nn b)
theorem Str.spawned (h:Str K F lk n) (hi:i<n) {f:Fk} (hf:F i=some f) (hl:f.kids.length<1000000) (c:Nat) (L:List Value) (hc:∀j k,lk j≠none->K j=some k->k.ch≠c) (hn:K n=none) (hFn:F n=none) (hln:lk n=none) (tag:Tag) :
 Str (upd K n (some ⟨c,f.wg,L,0⟩)) (upd F i (some ⟨f.wg,f.kids++[(c,L,false)],tag⟩)) (upd lk n (some (i,f.kids.length))) (n+1):=by
 have hin:i≠n:=by omega
 have getF:∀{p:Nat} {f':Fk},upd F i (some ⟨f.wg,f.kids++[(c,L,false)],tag⟩) p=some f'->(p=i/\f'=⟨f.wg,f.kids++[(c,L,false)],tag⟩)\/(p≠i/\F p=some f'):=fun {p f'} e=>by
  by_cases hp:p=i
  · subst hp;rw [upd_same] at e;cases e;exact .inl ⟨rfl,rfl⟩
  · rw [upd_ne F _ hp] at e;exact .inr ⟨hp,e⟩
 have getK:∀{j:Nat} {k':Kid},upd K n (some ⟨c,f.wg,L,0⟩) j=some k'->(j=n/\k'=⟨c,f.wg,L,0⟩)\/(j≠n/\K j=some k'):=fun {j k'} e=>by
  by_cases hj:j=n
  · subst hj;rw [upd_same] at e;cases e;exact .inl ⟨rfl,rfl⟩
  · rw [upd_ne K _ hj] at e;exact .inr ⟨hj,e⟩
 have getL:∀{j:Nat} {x:Nat×Nat},upd lk n (some (i,f.kids.length)) j=some x->(j=n/\x=(i,f.kids.length))\/(j≠n/\lk j=some x):=fun {j x} e=>by
  by_cases hj:j=n
  · subst hj;rw [upd_same] at e;cases e;exact .inl ⟨rfl,rfl⟩
  · rw [upd_ne lk _ hj] at e;exact .inr ⟨hj,e⟩
 have Fp:∀{p:Nat} {f':Fk},p<n+1->F p=some f'->p<n:=fun {p f'} hp e=>by
  rcases Nat.lt_or_ge p n with h1 | h1
  · exact h1
  · obtain rfl:p=n:=by omega
    rw [hFn] at e;cases e
 refine ⟨by rw [upd_ne K _ (by omega)];exact h.kid0,fun j a b=>?_,fun j p k e=>?_,fun p f' k hp e hk=>?_,fun j j' x e1 e2=>?_,fun j k a b e1 e2=>?_,fun j j' k k' a b e1 e2 e3=>?_,fun p p' f1 f2 h1 h2 e1 e2 e3=>?_,fun p f' k hp e1 e2=>?_,fun j k hj e e2=>?_,fun p f' hp e=>?_⟩
 · by_cases hj:j=n
   · subst hj;exact ⟨_,upd_same K j _⟩
   · rw [upd_ne K _ hj];exact h.kids j a (by omega)
 · rcases getL e with ⟨rfl,e'⟩ | ⟨hj,e'⟩
   · cases e'
     exact ⟨hi,by omega,_,_,false,upd_same F i _,upd_same K j _,by simp,rfl,fun e=>by cases e⟩
   · obtain ⟨h1,h2,f0,kd,seen,h3,h4,h5,h6,h8⟩:=h.lnk j p k e'
     refine ⟨h1,by omega,?_⟩
     by_cases hp:p=i
     · subst hp;rw [hf] at h3;cases h3
       exact ⟨_,kd,seen,upd_same F p _,by rw [upd_ne K _ hj];exact h4,by show (f.kids++_)[k]?=_;rw [List.getElem?_append_left (List.getElem?_eq_some_iff.1 h5).1];exact h5,h6,h8⟩
     · exact ⟨f0,kd,seen,by rw [upd_ne F _ hp];exact h3,by rw [upd_ne K _ hj];exact h4,h5,h6,h8⟩
 · rcases getF e with ⟨rfl,rfl⟩ | ⟨hpi,e⟩
   · simp only [List.length_append,List.length_singleton] at hk
     by_cases hk2:k=f.kids.length
     · subst hk2;exact ⟨n,upd_same lk n _⟩
     · obtain ⟨j,hj⟩:=h.lnk' p f k hi hf (by omega)
       have hjn:j≠n:=fun e=>by subst e;rw [hln] at hj;cases hj
       exact ⟨j,by rw [upd_ne lk _ hjn];exact hj⟩
   · obtain ⟨j,hj⟩:=h.lnk' p f' k (Fp hp e) e hk
     have hjn:j≠n:=fun e=>by subst e;rw [hln] at hj;cases hj
     exact ⟨j,by rw [upd_ne lk _ hjn];exact hj⟩
 · have nof:∀{j:Nat},lk j=some (i,f.kids.length)->False:=fun {j} e=>by
    obtain ⟨_,_,f0,kd,seen,h3,_,h5,_⟩:=h.lnk j i _ e
    rw [hf] at h3;cases h3
    have:=(List.getElem?_eq_some_iff.1 h5).1
    omega
   rcases getL e1 with ⟨ha,hb⟩ | ⟨_,g1⟩ <;> rcases getL e2 with ⟨ha',hb'⟩ | ⟨_,g2⟩
   · rw [ha,ha']
   · subst hb;exact (nof g2).elim
   · subst hb';exact (nof g1).elim
   · exact h.inj j j' x g1 g2
 · have hj:j≠n:=fun e=>by subst e;rw [upd_same] at e1;cases e1
   rw [upd_ne lk _ hj] at e1;rw [upd_ne K _ hj] at e2
   exact h.un j k a (by omega) e1 e2
 · have lkn:∀{j:Nat},j≠n->upd lk n (some (i,f.kids.length)) j≠none->lk j≠none:=fun hj hh=>by rwa [upd_ne lk _ hj] at hh
   rcases getK e1 with ⟨ha,hb⟩ | ⟨hj,g1⟩ <;> rcases getK e2 with ⟨ha',hb'⟩ | ⟨hj',g2⟩
   · rw [ha,ha']
   · subst hb;exact absurd e3.symm (hc j' k' (lkn hj' b) g2)
   · subst hb';exact absurd e3 (hc j k (lkn hj a) g1)
   · exact h.ch j j' k k' (lkn hj a) (lkn hj' b) g1 g2 e3
 · rcases getF e1 with ⟨ha,hb⟩ | ⟨hp,g1⟩ <;> rcases getF e2 with ⟨ha',hb'⟩ | ⟨hp',g2⟩
   · rw [ha,ha']
   · subst ha;subst hb;exact h.wg p p' f f2 hi (Fp h2 g2) hf g2 e3
   · subst ha';subst hb';exact h.wg p p' f1 f (Fp h1 g1) hi g1 hf e3
   · exact h.wg p p' f1 f2 (Fp h1 g1) (Fp h2 g2) g1 g2 e3
 · rcases getK e2 with ⟨rfl,rfl⟩ | ⟨hj,e2⟩
   · rfl
   · rcases getF e1 with ⟨rfl,rfl⟩ | ⟨_,e1⟩
     · exact h.work p f k hi hf e2
     · exact h.work p f' k (Fp hp e1) e1 e2
 · rcases getK e with ⟨rfl,rfl⟩ | ⟨hj',e⟩
   · simp at e2
   · exact h.out j k (by omega) e e2
 · rcases getF e with ⟨rfl,rfl⟩ | ⟨_,e⟩
   · simp;omega
   · exact h.len p f' (Fp hp e) e
theorem Str.moved (h:Str K F lk n) {j p k:Nat} (hl:lk j=some (p,k)) {kd:Kid} (hk:K j=some kd) (h0:kd.st=0) {f:Fk} (hf:F p=some f) (rest:List Value) :
 Str (upd K j (some { kd with out:=rest })) (upd F p (some { f with kids:=f.kids.set k (kd.ch,rest,false) })) lk n:=by
 obtain ⟨hpj,hjn,f0,kd0,seen0,e1,e2,hks,e4,_⟩:=h.lnk j p k hl
 rw [hf] at e1;cases e1;rw [hk] at e2;cases e2
 have hkl:=(List.getElem?_eq_some_iff.1 hks).1
 have getF:∀{q:Nat} {f':Fk},upd F p (some { f with kids:=f.kids.set k (kd.ch,rest,false) }) q=some f'->∃f0,F q=some f0/\f'.wg=f0.wg/\f'.kids.length=f0.kids.length:=fun {q f'} e=>by
  by_cases hq:q=p
  · subst hq;rw [upd_same] at e;cases e;exact ⟨f,hf,rfl,by simp⟩
  · rw [upd_ne F _ hq] at e;exact ⟨f',e,rfl,rfl⟩
 have getK:∀{i:Nat} {k':Kid},upd K j (some { kd with out:=rest }) i=some k'->∃k0,K i=some k0/\k'.ch=k0.ch/\k'.wg=k0.wg/\k'.st=k0.st/\(i=j\/k'=k0):=fun {i k'} e=>by
  by_cases hi:i=j
  · subst hi;rw [upd_same] at e;cases e;exact ⟨kd,hk,rfl,rfl,rfl,.inl rfl⟩
  · rw [upd_ne K _ hi] at e;exact ⟨k',e,rfl,rfl,rfl,.inr rfl⟩
 refine ⟨by rw [upd_ne K _ (by omega)];exact h.kid0,fun i a b=>?_,fun i q m e=>?_,fun q f' m hq e hm=>?_,h.inj,fun i k' a b c e=>?_,fun i i' k1 k2 a b g1 g2 g3=>?_,fun q q' f1 f2 h1 h2 g1 g2 g3=>?_,fun q f' k' hq g1 g2=>?_,fun i k' hi e g2=>?_,fun q f' hq e=>?_⟩
 · by_cases hi:i=j
   · subst hi;exact ⟨_,upd_same K i _⟩
   · rw [upd_ne K _ hi];exact h.kids i a b
 · obtain ⟨h1,h2,f1,k1,seen,h3,h4,h5,h6,h8⟩:=h.lnk i q m e
   refine ⟨h1,h2,?_⟩
   by_cases hi:i=j
   · subst hi
     rw [hl] at e;cases e
     exact ⟨_,_,false,upd_same F p _,upd_same K i _,by show (f.kids.set k _)[k]?=_;rw [List.getElem?_set_self hkl],e4,fun e=>by cases e⟩
   · have hne:(q,m)≠(p,k):=fun ee=>hi (h.inj i j _ (by rw [e,ee]) hl)
     by_cases hq:q=p
     · subst hq
       rw [hf] at h3;cases h3
       exact ⟨_,k1,seen,upd_same F q _,by rw [upd_ne K _ hi];exact h4,by show (f.kids.set k _)[m]?=_;rw [List.getElem?_set_ne (fun ee=>hne (by rw [ee]))];exact h5,h6,h8⟩
     · exact ⟨f1,k1,seen,by rw [upd_ne F _ hq];exact h3,by rw [upd_ne K _ hi];exact h4,h5,h6,h8⟩
 · obtain ⟨f1,g1,_,g3⟩:=getF e;exact h.lnk' q f1 m hq g1 (by omega)
 · obtain ⟨k0,g1,_,_,g4,_⟩:=getK e;rw [g4];exact h.un i k0 a b c g1
 · obtain ⟨k0,e5,e6,_⟩:=getK g1;obtain ⟨k0',e7,e8,_⟩:=getK g2;exact h.ch i i' k0 k0' a b e5 e7 (by rw [<- e6, <- e8];exact g3)
 · obtain ⟨f3,e5,e6,_⟩:=getF g1;obtain ⟨f4,e7,e8,_⟩:=getF g2;exact h.wg q q' f3 f4 h1 h2 e5 e7 (by rw [<- e6, <- e8];exact g3)
 · obtain ⟨f3,e5,_⟩:=getF g1;obtain ⟨k0,e6,_,_,e7,_⟩:=getK g2;rw [e7];exact h.work q f3 k0 hq e5 e6
 · obtain ⟨k0,e5,_,_,e6,e7⟩:=getK e
   rcases e7 with rfl | rfl
   · rw [hk] at e5;cases e5;omega
   · exact h.out i k' hi e5 g2
 · obtain ⟨f3,e5,_,e6⟩:=getF e;rw [e6];exact h.len q f3 hq e5
theorem Str.seen (h:Str K F lk n) {j p k:Nat} (hl:lk j=some (p,k)) {kd:Kid} (hk:K j=some kd) (h1:1<=kd.st) {f:Fk} (hf:F p=some f) :
 Str K (upd F p (some { f with kids:=f.kids.set k (kd.ch,[],true) })) lk n:=by
 obtain ⟨hpj,hjn,f0,kd0,seen0,e1,e2,hks,e4,_⟩:=h.lnk j p k hl
 rw [hf] at e1;cases e1;rw [hk] at e2;cases e2
 have hkl:=(List.getElem?_eq_some_iff.1 hks).1
 have hout:=h.out j kd hjn hk h1
 have getF:∀{q:Nat} {f':Fk},upd F p (some { f with kids:=f.kids.set k (kd.ch,[],true) }) q=some f'->∃f0,F q=some f0/\f'.wg=f0.wg/\f'.kids.length=f0.kids.length:=fun {q f'} e=>by
  by_cases hq:q=p
  · subst hq;rw [upd_same] at e;cases e;exact ⟨f,hf,rfl,by simp⟩
  · rw [upd_ne F _ hq] at e;exact ⟨f',e,rfl,rfl⟩
 refine ⟨h.kid0,h.kids,fun i q m e=>?_,fun q f' m hq e hm=>?_,h.inj,h.un,h.ch,fun q q' f1 f2 h1 h2 g1 g2 g3=>?_,fun q f' k' hq g1 g2=>?_,h.out,fun q f' hq e=>?_⟩
 · obtain ⟨h1',h2,f1,k1,seen,h3,h4,h5,h6,h8⟩:=h.lnk i q m e
   refine ⟨h1',h2,?_⟩
   by_cases hi:i=j
   · subst hi
     rw [hl] at e;cases e
     exact ⟨_,kd,true,upd_same F p _,hk,by show (f.kids.set k _)[k]?=_;rw [List.getElem?_set_self hkl,hout],e4,fun _=>h1⟩
   · have hne:(q,m)≠(p,k):=fun ee=>hi (h.inj i j _ (by rw [e,ee]) hl)
     by_cases hq:q=p
     · subst hq
       rw [hf] at h3;cases h3
       exact ⟨_,k1,seen,upd_same F q _,h4,by show (f.kids.set k _)[m]?=_;rw [List.getElem?_set_ne (fun ee=>hne (by rw [ee]))];exact h5,h6,h8⟩
     · exact ⟨f1,k1,seen,by rw [upd_ne F _ hq];exact h3,h4,h5,h6,h8⟩
 · obtain ⟨f1,g1,_,g3⟩:=getF e;exact h.lnk' q f1 m hq g1 (by omega)
 · obtain ⟨f3,e5,e6,_⟩:=getF g1;obtain ⟨f4,e7,e8,_⟩:=getF g2;exact h.wg q q' f3 f4 h1 h2 e5 e7 (by rw [<- e6, <- e8];exact g3)
 · obtain ⟨f3,e5,_⟩:=getF g1;exact h.work q f3 k' hq e5 g2
 · obtain ⟨f3,e5,_,e6⟩:=getF e;rw [e6];exact h.len q f3 hq e5
end
end Go.Co
namespace Go.Co
open Go Go.Conc
open Go.ConcN (sumTo upd upd_same upd_ne)
open Go.ConcR (KK wgBlock WgAt stA smA rd wr mk)
section
variable {K:KF} {F:FF} {lk:LK} {n i:Nat} {ty:TypeId} {w w':World}
theorem zabs {c wg:Nat} {st sm:Int} {a b:Nat} {q:Array Value} {cl tm:Bool} {cap:Nat} (h1:w.heap[c]?=some (.chan cap q cl a b tm)) (h2:WgAt ty wg w st sm):c≠wg:=fun e=>by
 subst e;unfold WgAt at h2;rw [h1] at h2;cases h2
theorem zaf5 {wg:Nat} {st sm st' sm':Int} (h:WgAt ty wg w st sm):WgAt ty wg (setWg ty w wg st' sm') st' sm':=by
 have hlt:=(Array.getElem?_eq_some_iff.1 h).1
 unfold WgAt setWg;simp [hlt]
theorem zaa6 {wg b:Nat} {st' sm':Int} (h:b≠wg):(setWg ty w wg st' sm').heap[b]?=w.heap[b]?:=by
 unfold setWg;rw [Array.getElem?_setIfInBounds_ne (Ne.symm h)]
theorem zat6 {wg:Nat} {st sm:Int} (h:WgAt ty wg w st sm):setWg ty w wg st sm=w:=by
 obtain ⟨hlt,e⟩:=Array.getElem?_eq_some_iff.1 h
 unfold setWg
 have:w.heap.setIfInBounds wg (wgBlock ty st sm)=w.heap:=by
  apply Array.ext_getElem?
  intro k
  by_cases hk:wg=k
  · subst hk;rw [Array.getElem?_setIfInBounds_self_of_lt hlt];exact h.symm
  · rw [Array.getElem?_setIfInBounds_ne hk]
 rw [this]
theorem zacx {wg:Nat} {st' sm':Int}:(setWg ty w wg st' sm').heap.size=w.heap.size:=by unfold setWg;simp
theorem zaes {c:Nat} {o:Obj} (h:w.heap[c]?=some o) (q:Array Value) (cl tm:Bool) (cap a b:Nat):(w.setChan c cap q cl a b tm).heap[c]?=some (.chan cap q cl a b tm):=by
 have hlt:=(Array.getElem?_eq_some_iff.1 h).1
 unfold World.setChan;simp [hlt]
theorem zaa1 {c x:Nat} (h:x≠c) (q:Array Value) (cl tm:Bool) (cap a b:Nat):(w.setChan c cap q cl a b tm).heap[x]?=w.heap[x]?:=by
 unfold World.setChan;rw [Array.getElem?_setIfInBounds_ne (Ne.symm h)]
theorem zacw {c:Nat} (q:Array Value) (cl tm:Bool) (cap a b:Nat):(w.setChan c cap q cl a b tm).heap.size=w.heap.size:=by unfold World.setChan;simp
theorem Wld.frame (h:Wld ty K F lk n w) (hc:∀j kd,lk j≠none->K j=some kd->w'.heap[kd.ch]?=w.heap[kd.ch]?) (hw:∀p f,p<n->F p=some f->w'.heap[f.wg]?=w.heap[f.wg]?):Wld ty K F lk n w':=
 ⟨fun j kd a b=>by obtain ⟨sn,rc,e⟩:=h.chan j kd a b;exact ⟨sn,rc,(hc j kd a b).trans e⟩,
  fun p f a b=>by obtain ⟨st,sm,g,e,e2⟩:=h.wg p f a b;exact ⟨st,sm,g,(hw p f a b).trans e,e2⟩⟩
theorem Wld.part (h:Wld ty K F lk n w) (S:Str K F lk n) (hi:i<n) {f:Fk} (hf:F i=some f) {st sm st' sm':Int} (hat:WgAt ty f.wg w st sm) {D:Prop} {tag':Tag} {es:Array Event} (hT:PT f.wg f.kids.length D f.tag st sm tag' st' sm' es) :
 Wld ty K (upd F i (some { f with tag:=tag' })) lk n (setWg ty w f.wg st' sm'):=by
 refine ⟨fun j kd a b=>?_,fun p f' hp e=>?_⟩
 · obtain ⟨sn,rc,e⟩:=h.chan j kd a b
   exact ⟨sn,rc,by rw [zaa6 (zabs e hat)];exact e⟩
 · by_cases hpi:p=i
   · subst hpi
     rw [upd_same] at e;cases e
     obtain ⟨st0,sm0,g,e1,e2,e3⟩:=h.wg p f hp hf
     unfold WgAt at hat e1
     have:st0=st/\sm0=sm:=by
      rw [hat] at e1
      simp only [wgBlock,Option.some.injEq,Obj.cells.injEq,Array.mk.injEq,List.cons.injEq,Value.int.injEq,true_and,and_true] at e1
      exact ⟨e1.1.symm,e1.2.symm⟩
     obtain ⟨rfl,rfl⟩:=this
     exact ⟨st',sm',g,zaf5 hat,e2,e3.part hT⟩
   · rw [upd_ne F _ hpi] at e
     obtain ⟨st0,sm0,g,e1,e2⟩:=h.wg p f' hp e
     refine ⟨st0,sm0,g,?_,e2⟩
     unfold WgAt;rw [zaa6 (fun e3=>hpi (S.wg p i f' f hp hi e hf e3))];exact e1
theorem Wld.fits (h:Wld ty K F lk n w) (S:Str K F lk n) (hi:i<n) {f:Fk} (hf:F i=some f):∃st sm,WgAt ty f.wg w st sm/\PFit f.tag st sm:=by
 obtain ⟨st,sm,g,e1,_,e3⟩:=h.wg i f hi hf
 exact ⟨st,sm,e1,e3.pfit (S.len i f hi hf)⟩
theorem Wld.fitsK (h:Wld ty K F lk n w) (S:Str K F lk n) {p m:Nat} (hl:lk i=some (p,m)) {kd:Kid} (hk:K i=some kd) (h7:kd.st≠7):∃st sm,WgAt ty kd.wg w st sm/\KFit kd.st st sm:=by
 obtain ⟨hp,hin,f,kd',seen,e1,e2,e3,e4,_⟩:=S.lnk i p m hl
 rw [hk] at e2;cases e2
 obtain ⟨st,sm,g,g1,g2,g3⟩:=h.wg p f (by omega) e1
 have hm:=(List.getElem?_eq_some_iff.1 e3).1
 have:=g3.kfit (S.len p f (by omega) e1) hm (by rw [g2 i m kd hl hk];exact h7)
 rw [g2 i m kd hl hk] at this
 exact ⟨st,sm,by rw [e4];exact g1,this⟩
theorem Wld.quit (h:Wld ty K F lk n w) (S:Str K F lk n) {p m:Nat} (hl:lk i=some (p,m)) {kd:Kid} (hk:K i=some kd) (h1:1<=kd.st) {st sm st' sm':Int} (hat:WgAt ty kd.wg w st sm) {n':Nat} {es:Array Event} (hT:KT kd.wg kd.st st sm n' st' sm' es) (hn:1<=n') :
 Wld ty (upd K i (some { kd with st:=n' })) F lk n (setWg ty w kd.wg st' sm'):=by
 obtain ⟨hpi,hin,f,kd',seen,e1,e2,e3,e4,_⟩:=S.lnk i p m hl
 rw [hk] at e2;cases e2
 have hm:=(List.getElem?_eq_some_iff.1 e3).1
 refine ⟨fun j k a b=>?_,fun q f' hq e=>?_⟩
 · by_cases hj:j=i
   · subst hj
     rw [upd_same] at b;cases b
     obtain ⟨sn,rc,e⟩:=h.chan j kd a hk
     exact ⟨sn,rc,by rw [zaa6 (zabs e hat)];simpa [h1,hn] using e⟩
   · rw [upd_ne K _ hj] at b
     obtain ⟨sn,rc,e⟩:=h.chan j k a b
     exact ⟨sn,rc,by rw [zaa6 (zabs e hat)];exact e⟩
 · by_cases hqp:q=p
   · subst hqp
     rw [e1] at e;cases e
     obtain ⟨st0,sm0,g,g1,g2,g3⟩:=h.wg q f hq e1
     rw [<- e4] at g1
     unfold WgAt at hat g1
     have:st0=st/\sm0=sm:=by
      rw [hat] at g1
      simp only [wgBlock,Option.some.injEq,Obj.cells.injEq,Array.mk.injEq,List.cons.injEq,Value.int.injEq,true_and,and_true] at g1
      exact ⟨g1.1.symm,g1.2.symm⟩
     obtain ⟨rfl,rfl⟩:=this
     refine ⟨st',sm',upd g m n',by rw [<- e4];exact zaf5 hat,fun j k kd2 a b=>?_,g3.kid hm (by rw [g2 i m kd hl hk];exact hT)⟩
     by_cases hj:j=i
     · subst hj
       rw [hl] at a;cases a
       rw [upd_same] at b;cases b
       rw [upd_same]
     · rw [upd_ne K _ hj] at b
       have hkm:k≠m:=fun e=>by subst e;exact hj (S.inj j i _ a hl)
       rw [upd_ne g _ hkm];exact g2 j k kd2 a b
   · obtain ⟨st0,sm0,g,g1,g2,g3⟩:=h.wg q f' hq e
     refine ⟨st0,sm0,g,?_,fun j k kd2 a b=>?_,g3⟩
     · unfold WgAt;rw [zaa6 (fun e5=>hqp (S.wg q p f' f hq (by omega) e e1 (e5.trans e4)))];exact g1
     · have hj:j≠i:=fun e5=>by subst e5;rw [hl] at a;cases a;exact hqp rfl
       rw [upd_ne K _ hj] at b;exact g2 j k kd2 a b
theorem Wld.closed (h:Wld ty K F lk n w) (S:Str K F lk n) {p m:Nat} (hl:lk i=some (p,m)) {kd:Kid} (hk:K i=some kd) (h0:kd.st=0) {sn rc:Nat} (hc:w.heap[kd.ch]?=some (.chan 0 #[] false sn rc false)) :
 Wld ty (upd K i (some { kd with st:=1 })) F lk n (w.setChan kd.ch 0 #[] true sn rc false):=by
 obtain ⟨hpi,hin,f,kd',seen,e1,e2,e3,e4,_⟩:=S.lnk i p m hl
 rw [hk] at e2;cases e2
 have hm:=(List.getElem?_eq_some_iff.1 e3).1
 refine ⟨fun j k a b=>?_,fun q f' hq e=>?_⟩
 · by_cases hj:j=i
   · subst hj
     rw [upd_same] at b;cases b
     exact ⟨sn,rc,zaes hc _ _ _ _ _ _⟩
   · rw [upd_ne K _ hj] at b
     obtain ⟨sn',rc',e⟩:=h.chan j k a b
     exact ⟨sn',rc',by rw [zaa1 (fun e5=>hj (S.ch j i k kd a (by rw [hl];simp) b hk e5))];exact e⟩
 · obtain ⟨st0,sm0,g,g1,g2,g3⟩:=h.wg q f' hq e
   have hat:WgAt ty f'.wg (w.setChan kd.ch 0 #[] true sn rc false) st0 sm0:=by unfold WgAt;rw [zaa1 (fun e5=>zabs hc g1 e5.symm)];exact g1
   by_cases hqp:q=p
   · subst hqp
     rw [e1] at e;cases e
     refine ⟨st0,sm0,upd g m 1,hat,fun j k kd2 a b=>?_,g3.stay hm (by rw [g2 i m kd hl hk];omega) (by omega)⟩
     by_cases hj:j=i
     · subst hj
       rw [hl] at a;cases a
       rw [upd_same] at b;cases b
       rw [upd_same]
     · rw [upd_ne K _ hj] at b
       have hkm:k≠m:=fun e=>by subst e;exact hj (S.inj j i _ a hl)
       rw [upd_ne g _ hkm];exact g2 j k kd2 a b
   · refine ⟨st0,sm0,g,hat,fun j k kd2 a b=>?_,g3⟩
     have hj:j≠i:=fun e5=>by subst e5;rw [hl] at a;cases a;exact hqp rfl
     rw [upd_ne K _ hj] at b;exact g2 j k kd2 a b
theorem Wld.opened (h:Wld ty K F lk n w) (S:Str K F lk n) (hi:i<n) (hF:F i=none) (wg:Nat) (hat:WgAt ty wg w 0 0):Wld ty K (upd F i (some ⟨wg,[],.idle⟩)) lk n w:=by
 refine ⟨h.chan,fun p f hp e=>?_⟩
 by_cases hpi:p=i
 · subst hpi
   rw [upd_same] at e;cases e
   refine ⟨0,0,fun _=>0,hat,fun j k kd a b=>?_,?_⟩
   · obtain ⟨_,_,f0,_,_,e1,_⟩:=S.lnk j p k a
     rw [hF] at e1;cases e1
   · have:=GMode.opn (n:=0) (g:=fun _=>0) (tag:=.idle) trivial (fun k hk=>by omega) (fun _ e=>by cases e) (fun _ e=>by cases e)
     simpa [cnt,sumTo,pnd] using this
 · rw [upd_ne F _ hpi] at e;exact h.wg p f hp e
theorem Wld.joined (h:Wld ty K F lk n w):Wld ty K (upd F i none) (cutLk lk i) n w:=by
 refine ⟨fun j kd a b=>h.chan j kd (fun e=>a (by unfold cutLk;rw [e])) b,fun p f hp e=>?_⟩
 have hpi:p≠i:=fun e2=>by subst e2;rw [upd_same] at e;cases e
 rw [upd_ne F _ hpi] at e
 obtain ⟨st,sm,g,g1,g2,g3⟩:=h.wg p f hp e
 exact ⟨st,sm,g,g1,fun j k kd a b=>g2 j k kd (zae1 a).1 b,g3⟩
theorem Wld.all7 (h:Wld ty K F lk n w) (hi:i<n) {f:Fk} (hf:F i=some f) (ht:f.tag = .acq) (S:Str K F lk n):∀j k kd,lk j=some (i,k)->K j=some kd->kd.st=7:=fun j k kd a b=>by
 obtain ⟨st,sm,g,g1,g2,g3⟩:=h.wg i f hi hf
 rw [ht] at g3
 obtain ⟨_,_,f0,kd0,_,e1,e2,e3,_⟩:=S.lnk j i k a
 rw [hf] at e1;cases e1
 have hm:=(List.getElem?_eq_some_iff.1 e3).1
 rw [<- g2 j k kd a b]
 rcases g3.out with ⟨h0,_⟩ | ⟨h0,_⟩ | ⟨h0,_⟩ | ⟨h0,_⟩ | ⟨_,h1,_⟩
 · exact h0.elim
 · cases h0
 · cases h0
 · cases h0
 · exact h1 k hm
theorem Wld.spawned (h:Wld ty K F lk n w) (S:Str K F lk n) (hi:i<n) {f:Fk} (hf:F i=some f) (ht:f.tag = .pend) (c:Nat) (L:List Value) (hc:w.heap[c]?=some (.chan 0 #[] false 0 0 false)) (hFn:F n=none) (hln:lk n=none) :
 Wld ty (upd K n (some ⟨c,f.wg,L,0⟩)) (upd F i (some ⟨f.wg,f.kids++[(c,L,false)],.idle⟩)) (upd lk n (some (i,f.kids.length))) (n+1) w:=by
 refine ⟨fun j kd a b=>?_,fun p f' hp e=>?_⟩
 · by_cases hj:j=n
   · subst hj;rw [upd_same] at b;cases b;exact ⟨0,0,hc⟩
   · rw [upd_ne K _ hj] at b;rw [upd_ne lk _ hj] at a;exact h.chan j kd a b
 · by_cases hpi:p=i
   · subst hpi
     rw [upd_same] at e;cases e
     obtain ⟨st,sm,g,g1,g2,g3⟩:=h.wg p f hi hf
     rw [ht] at g3
     refine ⟨st,sm,upd g f.kids.length 0,g1,fun j k kd a b=>?_,?_⟩
     · by_cases hj:j=n
       · subst hj;rw [upd_same] at a b;cases a;cases b;exact upd_same g _ _
       · rw [upd_ne K _ hj] at b;rw [upd_ne lk _ hj] at a
         have hk:k≠f.kids.length:=fun e=>by
          obtain ⟨_,_,f0,_,_,e1,_,e3,_⟩:=S.lnk j p k a
          rw [hf] at e1;cases e1
          have:=(List.getElem?_eq_some_iff.1 e3).1
          omega
         rw [upd_ne g _ hk];exact g2 j k kd a b
     · simp only [List.length_append,List.length_singleton]
       exact g3.spawn (fun k hk=>upd_ne g _ (by omega)) (upd_same g _ _)
   · rw [upd_ne F _ hpi] at e
     have hpn:p<n:=by
      rcases Nat.lt_or_ge p n with h1 | h1
      · exact h1
      · obtain rfl:p=n:=by omega
        rw [hFn] at e;cases e
     obtain ⟨st,sm,g,g1,g2,g3⟩:=h.wg p f' hpn e
     refine ⟨st,sm,g,g1,fun j k kd a b=>?_,g3⟩
     by_cases hj:j=n
     · subst hj;rw [upd_same] at a;cases a;exact absurd rfl hpi
     · rw [upd_ne K _ hj] at b;rw [upd_ne lk _ hj] at a;exact g2 j k kd a b
theorem Wld.moved (h:Wld ty K F lk n w) (S:Str K F lk n) {j p k:Nat} (hl:lk j=some (p,k)) {kd:Kid} (hk:K j=some kd) (h0:kd.st=0) {f:Fk} (hf:F p=some f) (rest:List Value) {sn rc:Nat} (hc:w.heap[kd.ch]?=some (.chan 0 #[] false sn rc false)) (sn' rc':Nat) :
 Wld ty (upd K j (some { kd with out:=rest })) (upd F p (some { f with kids:=f.kids.set k (kd.ch,rest,false) })) lk n (w.setChan kd.ch 0 #[] false sn' rc' false):=by
 have getK:∀{i:Nat} {k':Kid},upd K j (some { kd with out:=rest }) i=some k'->∃k0,K i=some k0/\k'.ch=k0.ch/\k'.st=k0.st:=fun {i k'} e=>by
  by_cases hi:i=j
  · subst hi;rw [upd_same] at e;cases e;exact ⟨kd,hk,rfl,rfl⟩
  · rw [upd_ne K _ hi] at e;exact ⟨k',e,rfl,rfl⟩
 refine ⟨fun i k' a b=>?_,fun q f' hq e=>?_⟩
 · obtain ⟨k0,b1,b2,b3⟩:=getK b
   rw [b2,b3]
   by_cases hi:i=j
   · subst hi;rw [hk] at b1;cases b1
     rw [h0];exact ⟨sn',rc',zaes hc _ _ _ _ _ _⟩
   · obtain ⟨s1,r1,e⟩:=h.chan i k0 a b1
     exact ⟨s1,r1,by rw [zaa1 (fun e5=>hi (S.ch i j k0 kd a (by rw [hl];simp) b1 hk e5))];exact e⟩
 · have:∃f0,F q=some f0/\f'.wg=f0.wg/\f'.kids.length=f0.kids.length/\f'.tag=f0.tag:=by
    by_cases hq2:q=p
    · subst hq2;rw [upd_same] at e;cases e;exact ⟨f,hf,rfl,by simp,rfl⟩
    · rw [upd_ne F _ hq2] at e;exact ⟨f',e,rfl,rfl,rfl⟩
   obtain ⟨f0,e1,e2,e3,e4⟩:=this
   obtain ⟨st,sm,g,g1,g2,g3⟩:=h.wg q f0 hq e1
   rw [e2,e3,e4]
   refine ⟨st,sm,g,?_,fun i m k' a b=>?_,g3⟩
   · unfold WgAt;rw [zaa1 (fun e5=>zabs hc g1 e5.symm)];exact g1
   · obtain ⟨k0,b1,_,b3⟩:=getK b;rw [b3];exact g2 i m k0 a b1
theorem Wld.seen (h:Wld ty K F lk n w) {p k:Nat} {f:Fk} (hf:F p=some f) (x:Nat×List Value×Bool):Wld ty K (upd F p (some { f with kids:=f.kids.set k x })) lk n w:=by
 refine ⟨h.chan,fun q f' hq e=>?_⟩
 by_cases hq2:q=p
 · subst hq2;rw [upd_same] at e;cases e
   obtain ⟨st,sm,g,g1,g2,g3⟩:=h.wg q f hq hf
   exact ⟨st,sm,g,g1,g2,by simpa using g3⟩
 · rw [upd_ne F _ hq2] at e;exact h.wg q f' hq e
end
end Go.Co
namespace Go.Co
open Go Go.Conc
open Go.ConcN (sumTo upd upd_same upd_ne)
open Go.ConcR (KK wgBlock WgAt stA smA rd wr mk)
def kidSy (k:Option Kid) (b:Nat):Prop:=∃k',k=some k'/\(k'.wg=b\/k'.ch=b)
def fkSy (f:Option Fk) (b:Nat):Prop:=∃f',f=some f'/\(f'.wg=b\/∃x∈f'.kids,x.1=b)
def LG.sy (s:LG) (b:Nat):Prop:=kidSy s.kid b\/fkSy s.fk b
def LG.sg (s:LG) (b:Nat):Prop:=∃f,s.fk=some f/\f.wg=b
def hold (S:Nat->LG) (n:Nat):Hold where
 own i b:=i<n/\(S i).own b
 ro i b:=i<n/\(S i).ro b
 sy i b:=i<n/\(S i).sy b
 sg i b:=i<n/\(S i).sg b
structure Bnd (S:Nat->LG) (n B:Nat):Prop where
 own:∀i b,i<n->(S i).own b->b<B
 ro:∀i b,i<n->(S i).ro b->b<B
 sy:∀i b,i<n->(S i).sy b->b<B
theorem sg_sy {s:LG} {b:Nat} (h:s.sg b):s.sy b:=let ⟨f,h1,h2⟩:=h; .inr ⟨f,h1,.inl h2⟩
structure Turn (B B':Nat) (s s':LG):Prop where
 own:∀b,s'.own b->s.own b\/(B<=b/\b<B')
 ro:∀b,s'.ro b->s.ro b\/s.own b\/(B<=b/\b<B')
 apart:∀b,s'.own b->¬ s'.ro b
 sy:∀b,s'.sy b->s.sy b\/(s.own b/\¬ s'.own b/\¬ s'.ro b)
 sg:∀b,s'.sg b->s.sg b\/(s.own b/\¬ s'.own b/\¬ s'.ro b)
section
variable {S:Nat->LG} {n B B' i:Nat} {s':LG} {t:Trace}
theorem Turn.same (A:(hold S n).Ok) (hi:i<n) (B:Nat) (ho:s'.own=(S i).own) (hr:s'.ro=(S i).ro) (hs:∀b,s'.sy b->(S i).sy b) (hg:∀b,s'.sg b->(S i).sg b):Turn B B (S i) s':=
 ⟨fun b h=>.inl (by rwa [ho] at h),fun b h=>.inl (by rwa [hr] at h),fun b h1 h2=>A.ownRo i i b ⟨hi,by rwa [ho] at h1⟩ ⟨hi,by rwa [hr] at h2⟩,fun b h=>.inl (hs b h),fun b h=>.inl (hg b h)⟩
theorem zakv (T:Turn B B' (S i) s') (hb:Bnd S n B) (A:(hold S n).Ok) (hi:i<n):(hold (upd S i s') n).Ok:=by
 have O:∀{j b:Nat},(hold (upd S i s') n).own j b->j<n/\((j=i/\s'.own b)\/(j≠i/\(S j).own b)):=fun {j b} ⟨h1,h2⟩=>⟨h1,by
  by_cases e:j=i
  · subst e;rw [upd_same] at h2;exact .inl ⟨rfl,h2⟩
  · rw [upd_ne S _ e] at h2;exact .inr ⟨e,h2⟩⟩
 have R:∀{j b:Nat},(hold (upd S i s') n).ro j b->j<n/\((j=i/\s'.ro b)\/(j≠i/\(S j).ro b)):=fun {j b} ⟨h1,h2⟩=>⟨h1,by
  by_cases e:j=i
  · subst e;rw [upd_same] at h2;exact .inl ⟨rfl,h2⟩
  · rw [upd_ne S _ e] at h2;exact .inr ⟨e,h2⟩⟩
 have Y:∀{j b:Nat},(hold (upd S i s') n).sy j b->j<n/\((j=i/\s'.sy b)\/(j≠i/\(S j).sy b)):=fun {j b} ⟨h1,h2⟩=>⟨h1,by
  by_cases e:j=i
  · subst e;rw [upd_same] at h2;exact .inl ⟨rfl,h2⟩
  · rw [upd_ne S _ e] at h2;exact .inr ⟨e,h2⟩⟩
 have Z:∀{j b:Nat},(hold (upd S i s') n).sg j b->j<n/\((j=i/\s'.sg b)\/(j≠i/\(S j).sg b)):=fun {j b} ⟨h1,h2⟩=>⟨h1,by
  by_cases e:j=i
  · subst e;rw [upd_same] at h2;exact .inl ⟨rfl,h2⟩
  · rw [upd_ne S _ e] at h2;exact .inr ⟨e,h2⟩⟩
 refine ⟨fun j k b h1 h2=>?_,fun j k b h1 h2=>?_,fun j k b h1 h2=>?_,fun j k b h1 h2=>?_,fun j b ⟨h1,h2⟩=>⟨h1,sg_sy h2⟩,fun j k b h1 h2=>?_⟩
 · obtain ⟨l1,c1⟩:=O h1;obtain ⟨l2,c2⟩:=O h2
   rcases c1 with ⟨e1,c1⟩ | ⟨e1,c1⟩ <;> rcases c2 with ⟨e2,c2⟩ | ⟨e2,c2⟩
   · rw [e1,e2]
   · rcases T.own b c1 with h | h
     · rw [e1];exact A.own i k b ⟨hi,h⟩ ⟨l2,c2⟩
     · have:=hb.own k b l2 c2;omega
   · rcases T.own b c2 with h | h
     · rw [e2];exact A.own j i b ⟨l1,c1⟩ ⟨hi,h⟩
     · have:=hb.own j b l1 c1;omega
   · exact A.own j k b ⟨l1,c1⟩ ⟨l2,c2⟩
 · obtain ⟨l1,c1⟩:=O h1;obtain ⟨l2,c2⟩:=R h2
   rcases c1 with ⟨e1,c1⟩ | ⟨e1,c1⟩ <;> rcases c2 with ⟨e2,c2⟩ | ⟨e2,c2⟩
   · exact T.apart b c1 c2
   · rcases T.own b c1 with h | h
     · exact A.ownRo i k b ⟨hi,h⟩ ⟨l2,c2⟩
     · have:=hb.ro k b l2 c2;omega
   · rcases T.ro b c2 with h | h | h
     · exact A.ownRo j i b ⟨l1,c1⟩ ⟨hi,h⟩
     · exact e1 (A.own j i b ⟨l1,c1⟩ ⟨hi,h⟩)
     · have:=hb.own j b l1 c1;omega
   · exact A.ownRo j k b ⟨l1,c1⟩ ⟨l2,c2⟩
 · obtain ⟨l1,c1⟩:=O h1;obtain ⟨l2,c2⟩:=Y h2
   rcases c1 with ⟨e1,c1⟩ | ⟨e1,c1⟩ <;> rcases c2 with ⟨e2,c2⟩ | ⟨e2,c2⟩
   · rcases T.sy b c2 with h | ⟨_,h,_⟩
     · rcases T.own b c1 with h' | h'
       · exact A.ownSy i i b ⟨hi,h'⟩ ⟨hi,h⟩
       · have:=hb.sy i b hi h;omega
     · exact h c1
   · rcases T.own b c1 with h | h
     · exact A.ownSy i k b ⟨hi,h⟩ ⟨l2,c2⟩
     · have:=hb.sy k b l2 c2;omega
   · rcases T.sy b c2 with h | ⟨h,_⟩
     · exact A.ownSy j i b ⟨l1,c1⟩ ⟨hi,h⟩
     · exact e1 (A.own j i b ⟨l1,c1⟩ ⟨hi,h⟩)
   · exact A.ownSy j k b ⟨l1,c1⟩ ⟨l2,c2⟩
 · obtain ⟨l1,c1⟩:=R h1;obtain ⟨l2,c2⟩:=Y h2
   rcases c1 with ⟨e1,c1⟩ | ⟨e1,c1⟩ <;> rcases c2 with ⟨e2,c2⟩ | ⟨e2,c2⟩
   · rcases T.sy b c2 with h | ⟨_,_,h⟩
     · rcases T.ro b c1 with h' | h' | h'
       · exact A.roSy i i b ⟨hi,h'⟩ ⟨hi,h⟩
       · exact A.ownSy i i b ⟨hi,h'⟩ ⟨hi,h⟩
       · have:=hb.sy i b hi h;omega
     · exact h c1
   · rcases T.ro b c1 with h | h | h
     · exact A.roSy i k b ⟨hi,h⟩ ⟨l2,c2⟩
     · exact A.ownSy i k b ⟨hi,h⟩ ⟨l2,c2⟩
     · have:=hb.sy k b l2 c2;omega
   · rcases T.sy b c2 with h | ⟨h,_⟩
     · exact A.roSy j i b ⟨l1,c1⟩ ⟨hi,h⟩
     · exact A.ownRo i j b ⟨hi,h⟩ ⟨l1,c1⟩
   · exact A.roSy j k b ⟨l1,c1⟩ ⟨l2,c2⟩
 · obtain ⟨l1,c1⟩:=Z h1;obtain ⟨l2,c2⟩:=Z h2
   rcases c1 with ⟨e1,c1⟩ | ⟨e1,c1⟩ <;> rcases c2 with ⟨e2,c2⟩ | ⟨e2,c2⟩
   · rw [e1,e2]
   · rcases T.sg b c1 with h | ⟨h,_⟩
     · rw [e1];exact A.sg i k b ⟨hi,h⟩ ⟨l2,c2⟩
     · exact (A.ownSy i k b ⟨hi,h⟩ ⟨l2,sg_sy c2⟩).elim
   · rcases T.sg b c2 with h | ⟨h,_⟩
     · rw [e2];exact A.sg j i b ⟨l1,c1⟩ ⟨hi,h⟩
     · exact (A.ownSy i j b ⟨hi,h⟩ ⟨l1,sg_sy c1⟩).elim
   · exact A.sg j k b ⟨l1,c1⟩ ⟨l2,c2⟩
theorem zao5 (T:Turn B B' (S i) s') (hb:Bnd S n B) (hB:B<=B') (hi:i<n):Bnd (upd S i s') n B':=by
 refine ⟨fun j b hj h=>?_,fun j b hj h=>?_,fun j b hj h=>?_⟩
 · by_cases e:j=i
   · subst e;rw [upd_same] at h
     rcases T.own b h with h | h
     · have:=hb.own j b hj h;omega
     · exact h.2
   · rw [upd_ne S _ e] at h;have:=hb.own j b hj h;omega
 · by_cases e:j=i
   · subst e;rw [upd_same] at h
     rcases T.ro b h with h | h | h
     · have:=hb.ro j b hj h;omega
     · have:=hb.own j b hj h;omega
     · exact h.2
   · rw [upd_ne S _ e] at h;have:=hb.ro j b hj h;omega
 · by_cases e:j=i
   · subst e;rw [upd_same] at h
     rcases T.sy b h with h | ⟨h,_⟩
     · have:=hb.sy j b hj h;omega
     · have:=hb.own j b hj h;omega
   · rw [upd_ne S _ e] at h;have:=hb.sy j b hj h;omega
theorem ti_upd (h:TI (hold S n) n B t) (T:Turn B B' (S i) s') (hB:B<=B') (hi:i<n):TI (hold (upd S i s') n) n B' t:=by
 have V:∀{j:Nat},j≠i->upd S i s' j=S j:=fun e=>upd_ne S _ e
 refine h.turn hB (fun j b ⟨h1,h2⟩=>?_) (fun j b ⟨h1,h2⟩=>?_) (fun j b ⟨h1,h2⟩=>?_) (fun j b ⟨h1,h2⟩=>?_)
 · by_cases e:j=i
   · subst e;rw [upd_same] at h2;exact (T.own b h2).imp (fun x=>⟨h1,x⟩) (fun x=>x.1)
   · rw [V e] at h2;exact .inl ⟨h1,h2⟩
 · by_cases e:j=i
   · subst e;rw [upd_same] at h2;exact (T.ro b h2).imp (fun x=>⟨h1,x⟩) (fun x=>x.imp (fun x=>⟨h1,x⟩) (fun x=>x.1))
   · rw [V e] at h2;exact .inl ⟨h1,h2⟩
 · by_cases e:j=i
   · subst e;rw [upd_same] at h2;exact (T.sy b h2).imp (fun x=>⟨h1,x⟩) (fun x=>.inl ⟨h1,x.1⟩)
   · rw [V e] at h2;exact .inl ⟨h1,h2⟩
 · by_cases e:j=i
   · subst e;rw [upd_same] at h2;exact (T.sg b h2).imp (fun x=>⟨h1,x⟩) (fun x=>.inl ⟨h1,x.1⟩)
   · rw [V e] at h2;exact .inl ⟨h1,h2⟩
theorem zaov {p:Nat} {sc:LG} (A:(hold S n).Ok) (hp:p<n) (ho:∀b,¬ sc.own b) (hr:∀b,sc.ro b->(S p).ro b) (hs:∀b,sc.sy b->(S p).sy b) (hf:sc.fk=none):(hold (upd S n sc) (n+1)).Ok:=by
 have V:∀{j:Nat},j≠n->upd S n sc j=S j:=fun e=>upd_ne S _ e
 have O:∀{j b:Nat},(hold (upd S n sc) (n+1)).own j b->(hold S n).own j b:=fun {j b} ⟨h1,h2⟩=>by
  by_cases e:j=n
  · subst e;rw [upd_same] at h2;exact absurd h2 (ho b)
  · rw [V e] at h2;exact ⟨by omega,h2⟩
 have R:∀{j b:Nat},(hold (upd S n sc) (n+1)).ro j b->∃k,(hold S n).ro k b:=fun {j b} ⟨h1,h2⟩=>by
  by_cases e:j=n
  · subst e;rw [upd_same] at h2;exact ⟨p,hp,hr b h2⟩
  · rw [V e] at h2;exact ⟨j,by omega,h2⟩
 have Y:∀{j b:Nat},(hold (upd S n sc) (n+1)).sy j b->∃k,(hold S n).sy k b:=fun {j b} ⟨h1,h2⟩=>by
  by_cases e:j=n
  · subst e;rw [upd_same] at h2;exact ⟨p,hp,hs b h2⟩
  · rw [V e] at h2;exact ⟨j,by omega,h2⟩
 have Z:∀{j b:Nat},(hold (upd S n sc) (n+1)).sg j b->(hold S n).sg j b:=fun {j b} ⟨h1,h2⟩=>by
  by_cases e:j=n
  · subst e;rw [upd_same] at h2;obtain ⟨f,h3,_⟩:=h2;rw [hf] at h3;cases h3
  · rw [V e] at h2;exact ⟨by omega,h2⟩
 refine ⟨fun j k b h1 h2=>A.own j k b (O h1) (O h2),fun j k b h1 h2=>let ⟨m,h3⟩:=R h2;A.ownRo j m b (O h1) h3,fun j k b h1 h2=>let ⟨m,h3⟩:=Y h2;A.ownSy j m b (O h1) h3,
  fun j k b h1 h2=>let ⟨m,h3⟩:=R h1;let ⟨m',h4⟩:=Y h2;A.roSy m m' b h3 h4,fun j b ⟨h1,h2⟩=>⟨h1,sg_sy h2⟩,fun j k b h1 h2=>A.sg j k b (Z h1) (Z h2)⟩
theorem zaqi {p:Nat} {sc:LG} (hb:Bnd S n B) (hp:p<n) (ho:∀b,¬ sc.own b) (hr:∀b,sc.ro b->(S p).ro b) (hs:∀b,sc.sy b->(S p).sy b):Bnd (upd S n sc) (n+1) B:=by
 have V:∀{j:Nat},j≠n->upd S n sc j=S j:=fun e=>upd_ne S _ e
 refine ⟨fun j b hj h=>?_,fun j b hj h=>?_,fun j b hj h=>?_⟩ <;> by_cases e:j=n
 · subst e;rw [upd_same] at h;exact absurd h (ho b)
 · rw [V e] at h;exact hb.own j b (by omega) h
 · subst e;rw [upd_same] at h;exact hb.ro p b hp (hr b h)
 · rw [V e] at h;exact hb.ro j b (by omega) h
 · subst e;rw [upd_same] at h;exact hb.sy p b hp (hs b h)
 · rw [V e] at h;exact hb.sy j b (by omega) h
theorem zasp {p:Nat} {sc:LG} {x y:MemOp} (h:TI (hold S n) n B t) (hp:p<n) (ho:∀b,¬ sc.own b) (hr:∀b,sc.ro b->(S p).ro b) (hs:∀b,sc.sy b->(S p).sy b) (hf:sc.fk=none)
 (hx:x.g=p/\x.act = .go n) (hy:y.g=n/\y.act = .start) (h0:Deaf t p=0) (hk:Deaf t n=0):TI (hold (upd S n sc) (n+1)) (n+1) B (t ++ #[x,y]):=by
 have V:∀{j:Nat},j≠n->upd S n sc j=S j:=fun e=>upd_ne S _ e
 refine h.go hp hx hy h0 hk (fun j b ⟨h1,h2⟩=>?_) (fun j b ⟨h1,h2⟩=>?_) (fun j b ⟨h1,h2⟩=>?_) (fun j b ⟨h1,h2⟩=>?_)
 · by_cases e:j=n
   · subst e;rw [upd_same] at h2;exact absurd h2 (ho b)
   · rw [V e] at h2;exact ⟨e,by omega,h2⟩
 · by_cases e:j=n
   · subst e;rw [upd_same] at h2;rw [if_pos rfl];exact .inl ⟨hp,hr b h2⟩
   · rw [V e] at h2;rw [if_neg e];exact .inl ⟨by omega,h2⟩
 · by_cases e:j=n
   · subst e;rw [upd_same] at h2;rw [if_pos rfl];exact .inl ⟨hp,hs b h2⟩
   · rw [V e] at h2;rw [if_neg e];exact .inl ⟨by omega,h2⟩
 · by_cases e:j=n
   · subst e;rw [upd_same] at h2;obtain ⟨f,h3,_⟩:=h2;rw [hf] at h3;cases h3
   · rw [V e] at h2;exact ⟨e,.inl ⟨by omega,h2⟩⟩
end
end Go.Co
namespace Go.Co
open Go Go.Conc
open Go.ConcN (sumTo upd upd_same upd_ne)
open Go.ConcR (KK wgBlock WgAt stA smA rd wr mk)
structure Sys where
 S:Nat->LG
 o:Nat->Rk
 lk:LK
 rel:Nat->Option Nat
def kf (S:Nat->LG):KF:=fun j=>(S j).kid
def ff (S:Nat->LG):FF:=fun j=>(S j).fk
def stg (S:Nat->LG) (j:Nat):Nat:=match (S j).kid with | some k=>k.st | none=>0
def tagDeaf:Tag->Nat
 | .dis | .added | .w1 _ | .w2 _ | .w3 | .w4 | .ke=>1
 | _=>0
def dfn (s:LG):Nat:=(match s.kid with | some k=>if 3<=k.st then 1 else 0 | none=>0)+(match s.fk with | some f=>tagDeaf f.tag | none=>0)
theorem kf_upd (S:Nat->LG) (i:Nat) (s:LG):kf (upd S i s)=upd (kf S) i s.kid:=by funext j;unfold kf upd;split <;> rfl
theorem ff_upd (S:Nat->LG) (i:Nat) (s:LG):ff (upd S i s)=upd (ff S) i s.fk:=by funext j;unfold ff upd;split <;> rfl
theorem zabf {α:Type} (f:Nat->α) (i:Nat) {x:α} (h:x=f i):upd f i x=f:=by funext j;unfold upd;split <;> simp_all
theorem stg_of {S:Nat->LG} {j:Nat} {k:Kid} (h:(S j).kid=some k):stg S j=k.st:=by simp [stg,h]
def closing:Tag->Prop
 | .w1 _ | .w2 _ | .w3 | .w4 | .ke | .acq=>True
 | _=>False
def Alive (S:Nat->LG) (n:Nat) (j:Nat):Prop:=j<n/\stg S j<=1
section
variable (P:Program) (ty:TypeId) (Post:Value->World->Prop)
structure Inv (Y:Sys) (gs:Array Goroutine) (w:World) (t:Trace):Prop where
 pos:0<gs.size
 sit:∀i g,gs[i]?=some g->Sit P ty Post (i == 0) (Y.S i) (Y.o i) (Deaf t i) w g
 str:Str (kf Y.S) (ff Y.S) Y.lk gs.size
 wld:Wld ty (kf Y.S) (ff Y.S) Y.lk gs.size w
 ok:(hold Y.S gs.size).Ok
 bnd:Bnd Y.S gs.size w.heap.size
 out:∀j,gs.size<=j->(Y.S j).kid=none/\(Y.S j).fk=none
 ti:TI (hold Y.S gs.size) gs.size w.heap.size t
 held:Held (Alive Y.S gs.size) Y.rel t
 rel:∀j r,Y.rel j=some r->∃kd,(Y.S j).kid=some kd/\Y.lk j≠none/\RelAt kd.wg t j r
 rel':∀j kd,Y.lk j≠none->(Y.S j).kid=some kd->2<=kd.st->∃r,Y.rel j=some r
 deaf:∀i,i<gs.size->stg Y.S i≠7->Deaf t i=dfn (Y.S i)
 above:∀j,gs.size<=j->Deaf t j=0
 seen:∀p f,p<gs.size->(Y.S p).fk=some f->closing f.tag->∀x∈f.kids,x.2.2=true
 meet:∀(p:Nat) (g:Goroutine) (c:Nat),gs[p]?=some g->offersAt g c false≠[]->(∃sn rc,w.heap[c]?=some (.chan 0 #[] false sn rc false))/\∀(j:Nat) (h:Goroutine),gs[j]?=some h->offersAt h c true=[]
 semz:∀(p:Nat) (g:Goroutine) (f:Fk),gs[p]?=some g->g.status = .blocked->g.offers=none->(Y.S p).fk=some f->∃st,WgAt ty f.wg w st 0
end
def wakes (P:Program) (g g':Goroutine):Bool:=mayWake P g && g'.status != .blocked && g'.status != .waiting
theorem zahr (w:World) (y:Goroutine):y.again w=y\/y.again w={ y with status:=.running }:=by
 unfold Goroutine.again
 split
 · dsimp only;split
   · exact .inr rfl
   · exact .inl rfl
 · exact .inr rfl
 · exact .inr rfl
 · exact .inl rfl
theorem zapy (w:World) {y:Goroutine} (h:y.status = .blocked) (h2:y.offers=none):y.again w={ y with status:=.running }:=by
 obtain ⟨a,b,c,d,e⟩:=y
 simp only at h h2
 subst h h2
 rfl
theorem zagi {w:World} {y:Goroutine} {c:Nat} {b:Bool} (h:offersAt (y.again w) c b≠[]):y.again w=y:=by
 rcases zahr w y with e | e
 · exact e
 · rw [e] at h;exact absurd (offersAt_of_not_blocked (by simp) c b) h
theorem zak3 {P:Program} {g g' y:Goroutine} {w:World} {c:Nat} {b:Bool} (h:offersAt (woken P g g' w y) c b≠[]):woken P g g' w y=y/\(wakes P g g'=true->y.again w=y):=by
 unfold woken at h ⊢
 split at h
 · rename_i hw;rw [if_pos hw];exact ⟨zagi h,fun _=>zagi h⟩
 · rename_i hw;rw [if_neg hw];exact ⟨rfl,fun e=>absurd e hw⟩
theorem zajx {P:Program} {g g' y:Goroutine} {w:World} (hs:(woken P g g' w y).status = .blocked) (ho:(woken P g g' w y).offers=none):woken P g g' w y=y/\wakes P g g'≠true:=by
 unfold woken at hs ho ⊢
 split at hs
 · rename_i hw
   rw [if_pos hw] at ho
   exfalso
   rcases zahr w y with e | e
   · rw [e] at hs ho
     rw [zapy w hs ho] at e
     have:=congrArg Goroutine.status e
     rw [hs] at this;cases this
   · rw [e] at hs;cases hs
 · rename_i hw;rw [if_neg hw];exact ⟨rfl,hw⟩
theorem zafb {g:Goroutine} (h:g.offers=none) (c:Nat) (b:Bool):offersAt g c b=[]:=by
 unfold offersAt
 split
 · rename_i h2;rw [h] at h2;cases h2
 · rfl
section
variable {P:Program} {ty:TypeId} {Post:Value->World->Prop} {main:Bool} {s:LG} {o:Rk} {d:Nat} {w:World}
theorem Sit.recv_of {g:Goroutine} {c:Nat} (h:Sit P ty Post main s o d w g) (ho:offersAt g c false≠[]):∃g0 f i rem b z,g=parked g0 #[rcase c z] (.recv b)/\W P ty Post o main s g0 w/\s.fk=some f/\f.tag = .idle/\f.kids[i]?=some (c,rem,false) /\
 (∀v rest,rem=v::rest->∃o',Rk.lt o' o/\W P ty Post o' main { s with fk:=some { f with kids:=f.kids.set i (c,rest,false) } } (Conc.served g0 (recvd b v true)) w)/\(∀k,s.kid=some k->k.st≠7):=by
 cases h with
 | run _ h1=>exact absurd (offersAt_of_not_blocked (by rw [h1];simp) _ _) ho
 | send g k v z rest o'=>exact absurd (offersAt_parked_send' ..) ho
 | recv g f i c' rem b z h1 h2 h3 h4 h5 h6=>
  rw [offersAt_parked_recv] at ho
  by_cases e:c'=c
  · subst e;exact ⟨g,f,i,rem,b,z,rfl,h1,h2,h3,h4,h5,h6⟩
  · rw [if_neg e] at ho;exact absurd rfl ho
 | sem g f h1 h2 h3 h4=>exact absurd (zafb (g:={ g with status:=.blocked }) (zabv h1.core).2 _ _) ho
 | quit _ k q h1 h2 h3 h4 h5 h6=>exact absurd (offersAt_of_not_blocked (by rcases h6.status with e | e <;> rw [e] <;> simp) _ _) ho
theorem Sit.send_of {g:Goroutine} {c:Nat} (h:Sit P ty Post main s o d w g) (ho:offersAt g c true≠[]):∃g0 k v z rest o',g=parked g0 #[scase c v z] .send/\k.ch=c/\W P ty Post o main s g0 w/\s.kid=some k/\k.st=0/\k.out=v::rest/\s.fk=none/\Rk.lt o' o /\
 W P ty Post o' main { s with kid:=some { k with out:=rest } } (Conc.served g0 undef) w:=by
 cases h with
 | run _ h1=>exact absurd (offersAt_of_not_blocked (by rw [h1];simp) _ _) ho
 | send g k v z rest o' h1 h2 h3 h4 h5 h6 h7=>
  rw [offersAt_parked_send] at ho
  by_cases e:k.ch=c
  · subst e;exact ⟨g,k,v,z,rest,o',rfl,rfl,h1,h2,h3,h4,h5,h6,h7⟩
  · rw [if_neg e] at ho;exact absurd rfl ho
 | recv g f i c' rem b z=>exact absurd (offersAt_parked_recv' ..) ho
 | sem g f h1 h2 h3 h4=>exact absurd (zafb (g:={ g with status:=.blocked }) (zabv h1.core).2 _ _) ho
 | quit _ k q h1 h2 h3 h4 h5 h6=>exact absurd (offersAt_of_not_blocked (by rcases h6.status with e | e <;> rw [e] <;> simp) _ _) ho
end
section
variable {P:Program} {ty:TypeId} {Post:Value->World->Prop} {Y:Sys} {gs:Array Goroutine} {w w':World} {t:Trace} {i:Nat} {sl:Option (Nat×Nat)}
theorem Rely.of_frame {s:LG} (h1:w'.tape=w.tape) (h2:w'.os=w.os) (h3:w'.output=w.output) (h4:w.heap.size<=w'.heap.size) (h5:∀b,s.own b\/s.ro b\/s.sy b->w'.heap[b]?=w.heap[b]?):Rely ty s w w':=
 ⟨h1,h2,h3,h4,fun b hb=>h5 b (.inl hb),fun b hb=>h5 b (.inr (.inl hb)),
  fun k hk ⟨st,sm,h⟩=>⟨st,sm,(h5 _ (.inr (.inr (.inl ⟨k,hk,.inl rfl⟩)))).trans h⟩,fun f hf ⟨st,sm,h⟩=>⟨st,sm,(h5 _ (.inr (.inr (.inr ⟨f,hf,.inl rfl⟩)))).trans h⟩⟩
theorem Rely.of_own {S:Nat->LG} {n:Nat} {s':LG} {es:Array Event} (A:(hold S n).Ok) (hb:Bnd S n w.heap.size) (hi:i<n) (h:Own1 ty (S i) w s' w' es) {j:Nat} (hj:j<n) (hne:j≠i):Rely ty (S j) w w':=
 .of_frame h.tape h.os h.output h.size fun b hx=>by
  rcases hx with hx | hx | hx
  · exact h.frame b (hb.own j b hj hx) fun ho=>hne (A.own j i b ⟨hj,hx⟩ ⟨hi,ho⟩)
  · exact h.frame b (hb.ro j b hj hx) fun ho=>A.ownRo i j b ⟨hi,ho⟩ ⟨hj,hx⟩
  · exact h.frame b (hb.sy j b hj hx) fun ho=>A.ownSy i j b ⟨hi,ho⟩ ⟨hj,hx⟩
theorem Rely.of_wg {S:Nat->LG} {n wg:Nat} {st sm st' sm':Int} (A:(hold S n).Ok) (hi:i<n) (hw:(S i).sy wg) (h:WgAt ty wg w st sm) {j:Nat} (hj:j<n):Rely ty (S j) w (setWg ty w wg st' sm'):=by
 refine ⟨rfl,rfl,rfl,by rw [zacx];exact Nat.le_refl _,fun b hb=>zaa6 fun e=>?_,fun b hb=>zaa6 fun e=>?_,fun k hk hl=>?_,fun f hf hl=>?_⟩
 · subst e;exact A.ownSy j i b ⟨hj,hb⟩ ⟨hi,hw⟩
 · subst e;exact A.roSy j i b ⟨hj,hb⟩ ⟨hi,hw⟩
 · by_cases e:k.wg=wg
   · rw [e];exact ⟨_,_,zaf5 h⟩
   · obtain ⟨a,b,hl⟩:=hl;exact ⟨a,b,(zaa6 e).trans hl⟩
 · by_cases e:f.wg=wg
   · rw [e];exact ⟨_,_,zaf5 h⟩
   · obtain ⟨a,b,hl⟩:=hl;exact ⟨a,b,(zaa6 e).trans hl⟩
theorem Rely.of_chan {S:Nat->LG} {n c:Nat} (A:(hold S n).Ok) (hi:i<n) (hw:(S i).sy c) {sn rc:Nat} {cl0:Bool} (h:w.heap[c]?=some (.chan 0 #[] cl0 sn rc false)) (cl:Bool) (sn' rc':Nat) {j:Nat} (hj:j<n):Rely ty (S j) w (w.setChan c 0 #[] cl sn' rc' false):=by
 refine ⟨rfl,rfl,rfl,by rw [zacw];exact Nat.le_refl _,fun b hb=>zaa1 (fun e=>?_) _ _ _ _ _ _,fun b hb=>zaa1 (fun e=>?_) _ _ _ _ _ _,fun k hk ⟨a,b,hl⟩=>⟨a,b,?_⟩,fun f hf ⟨a,b,hl⟩=>⟨a,b,?_⟩⟩
 · subst e;exact A.ownSy j i b ⟨hj,hb⟩ ⟨hi,hw⟩
 · subst e;exact A.roSy j i b ⟨hj,hb⟩ ⟨hi,hw⟩
 · unfold WgAt;rw [zaa1 (fun e=>zabs h hl e.symm)];exact hl
 · unfold WgAt;rw [zaa1 (fun e=>zabs h hl e.symm)];exact hl
theorem Rely.at (s:LG) (w:World) (d:Nat):Rely ty s w (w.at d):=⟨rfl,rfl,rfl,Nat.le_refl _,fun _ _=>rfl,fun _ _=>rfl,fun _ _ h=>h,fun _ _ h=>h⟩
theorem g_of {g:Nat} {fn:FuncId} {pos:String} {es:Array Event}:∀op∈MemOp.ofEvents g fn pos es,op.g=g:=fun op hop=>by obtain ⟨e,_,rfl⟩:=Go.Conc.mem_ofEvents hop;rfl
theorem ti_own {S:Nat->LG} {n B:Nat} (h:TI (hold S n) n B t) (A:(hold S n).Ok) (hb:Bnd S n B) (hi:i<n) {fn:FuncId} {pos:String} {es:Array Event}
 (may:∀e∈es,∀fn pos,May (hold S n) i { g:=i,fn,pos,act:=.ofEvent e }):TI (hold S n) n B (t++MemOp.ofEvents i fn pos es):=by
 have hm:∀op∈MemOp.ofEvents i fn pos es,May (hold S n) i op:=fun op hop=>by obtain ⟨e,he,rfl⟩:=Go.Conc.mem_ofEvents hop;exact may e he fn pos
 refine h.app A hi hm fun op hop x b hx hbk=>?_
 rcases (hm op hop).2.2 x b hx hbk with h1 | ⟨h1,_⟩ | ⟨h1,_⟩ | ⟨h1,_⟩
 · exact hb.own i b h1.1 h1.2
 · exact hb.ro i b h1.1 h1.2
 · exact hb.sy i b h1.1 h1.2
 · exact hb.sy i b h1.1 (sg_sy h1.2)
theorem zarc {S:Nat->LG} {n:Nat} (hi:i<n) {e:Event} (h:EvG (S i) e) (fn:FuncId) (pos:String):May (hold S n) i { g:=i,fn,pos,act:=.ofEvent e }:=by
 obtain ⟨loc,wr,sy⟩:=e
 refine ⟨rfl,fun a=>?_,fun x b hx hb=>?_⟩
 · cases loc with
   | cell a'=>intro e;simp [MemAct.ofEvent] at e
   | obj r=>intro e;cases wr <;> cases sy <;> simp [MemAct.ofEvent] at e
   | output=>intro e;simp [MemAct.ofEvent] at e
   | goroutines=>intro e;simp [MemAct.ofEvent] at e
   | mark m=>
    simp only [MemAct.ofEvent,ne_eq,MemAct.mark.injEq]
    intro e;subst e
    have h:Neutral (.release a):=h
    unfold Neutral at h;cases h
 · cases loc with
   | cell a=>
    obtain ⟨rfl,h⟩:sy=false/\_:=h
    have hx:some (⟨.cell a,wr,.plain⟩:Touch)=some x:=hx
    cases hx
    have hb:some a.block=some b:=hb
    cases hb
    exact h.elim (fun h=>.inl ⟨hi,h⟩) (fun h=>.inr (.inl ⟨⟨hi,h.1⟩,h.2⟩))
   | obj r=>
    obtain ⟨rfl,h⟩:sy=false/\_:=h
    have hx:some (⟨.obj r,wr,.plain⟩:Touch)=some x:=by cases wr <;> exact hx
    cases hx
    have hb:some r=some b:=hb
    cases hb
    exact h.elim (fun h=>.inl ⟨hi,h⟩) (fun h=>.inr (.inl ⟨⟨hi,h.1⟩,h.2⟩))
   | output=>
    have hx:some (⟨.output,wr,if sy then .atomic else .plain⟩:Touch)=some x:=hx
    cases hx;cases hb
   | goroutines=>
    have hx:some (⟨.goroutines,wr,if sy then .atomic else .plain⟩:Touch)=some x:=hx
    cases hx;cases hb
   | mark m=>
    cases m with
    | read a=>
     obtain ⟨f,h1,h2⟩:∃f,(S i).fk=some f/\a.block=f.wg:=h
     have hx:some (⟨.cell a,false,.said⟩:Touch)=some x:=hx
     cases hx
     have hb:some a.block=some b:=hb
     cases hb
     exact .inr (.inr (.inr ⟨⟨hi,f,h1,h2.symm⟩,rfl⟩))
    | write a=>
     obtain ⟨f,h1,h2⟩:∃f,(S i).fk=some f/\a.block=f.wg:=h
     have hx:some (⟨.cell a,true,.said⟩:Touch)=some x:=hx
     cases hx
     have hb:some a.block=some b:=hb
     cases hb
     exact .inr (.inr (.inr ⟨⟨hi,f,h1,h2.symm⟩,rfl⟩))
    | acquire _ | release _ | releaseMerge _ | disable | enable | extern _ | noRoom=>cases hx
theorem zach {H:Hold} {e:Event} (h:(∃m,e=mk m/\(∀a,m≠.release a)/\(MemAct.mark m).touch?=none)\/(∃a wr,e=⟨.cell a,wr,true⟩/\H.sy i a.block)\/(∃r,e=⟨.obj r,false,true⟩/\H.sy i r)\/∃r,e=⟨.obj r,true,true⟩) (fn:FuncId) (pos:String) :
 May H i { g:=i,fn,pos,act:=.ofEvent e }:=by
 rcases h with ⟨m,rfl,h1,h2⟩ | ⟨a,wr,rfl,h⟩ | ⟨r,rfl,h⟩ | ⟨r,rfl⟩
 · exact ⟨rfl,fun a e=>h1 a (by injection e),fun x b hx _=>by have hx:(MemAct.mark m).touch?=some x:=hx;rw [h2] at hx;cases hx⟩
 · refine ⟨rfl,fun _ e=>(by simp [MemAct.ofEvent] at e),fun x b hx hb=>?_⟩
   have hx:some (⟨.cell a,wr,.atomic⟩:Touch)=some x:=hx
   cases hx
   have hb:some a.block=some b:=hb
   cases hb
   exact .inr (.inr (.inl ⟨h,rfl⟩))
 · refine ⟨rfl,fun _ e=>(by simp [MemAct.ofEvent] at e),fun x b hx hb=>?_⟩
   have hx:some (⟨.obj r,false,.atomic⟩:Touch)=some x:=hx
   cases hx
   have hb:some r=some b:=hb
   cases hb
   exact .inr (.inr (.inl ⟨h,rfl⟩))
 · exact ⟨rfl,fun _ e=>(by simp [MemAct.ofEvent] at e),fun x b hx hb=>(by simp [MemAct.ofEvent,MemAct.touch?] at hx)⟩
theorem ti_may {S:Nat->LG} {n B B':Nat} {s':LG} (h:TI (hold S n) n B t) (A:(hold S n).Ok) (hb:Bnd S n B) (hi:i<n) (T:Turn B B' (S i) s') (hB:B<=B') {fn:FuncId} {pos:String} {es:Array Event}
 (may:∀e∈es,∀fn pos,May (hold S n) i { g:=i,fn,pos,act:=.ofEvent e }):TI (hold (upd S i s') n) n B' (t++MemOp.ofEvents i fn pos es):=ti_upd (ti_own h A hb hi may) T hB hi
theorem zatg {S:Nat->LG} {n B B':Nat} {s':LG} (h:TI (hold S n) n B t) (A:(hold S n).Ok) (hb:Bnd S n B) (hi:i<n) (hB:B<=B') (own:∀b,s'.own b->(S i).own b\/(B<=b/\b<B')) (ro:∀b,s'.ro b->(S i).ro b\/(S i).own b\/(B<=b/\b<B')) (apart:∀b,s'.own b->¬ s'.ro b)
 (sy:∀b,s'.sy b->(S i).sy b\/((S i).own b/\¬ s'.own b/\¬ s'.ro b)) (sg:∀b,s'.sg b->(S i).sg b\/((S i).own b/\¬ s'.own b/\¬ s'.ro b)) {fn:FuncId} {pos:String} {es:Array Event}
 (ev:∀e∈es,EvG ((S i).plus B B') e):TI (hold (upd S i s') n) n B' (t++MemOp.ofEvents i fn pos es):=by
 have T1:Turn B B' (S i) ((S i).plus B B'):=⟨fun b h=>h,fun b h=>.inl h,fun b h1 h2=>h1.elim (fun h1=>A.ownRo i i b ⟨hi,h1⟩ ⟨hi,h2⟩) (fun h1=>by have:=hb.ro i b hi h2;omega),fun b h=>.inl h,fun b h=>.inl h⟩
 have A1:=zakv T1 hb A hi
 have b1:=zao5 T1 hb hB hi
 have t1:=ti_upd h T1 hB hi
 have e1:upd (upd S i ((S i).plus B B')) i s'=upd S i s':=by
  funext j
  by_cases e:j=i
  · subst e;rw [upd_same,upd_same]
  · rw [upd_ne _ _ e,upd_ne _ _ e,upd_ne _ _ e]
 have ei:upd S i ((S i).plus B B') i=(S i).plus B B':=upd_same ..
 rw [<- e1]
 refine ti_may t1 A1 b1 hi ?_ (Nat.le_refl _) (fun e he fn pos=>zarc hi (by rw [ei];exact ev e he) fn pos)
 rw [ei]
 exact ⟨fun b hb=>.inl (own b hb),fun b hb=>(ro b hb).elim .inl (fun h=>.inr (.inl h)),apart,fun b hb=>(sy b hb).imp id (fun h=>⟨.inl h.1,h.2⟩),fun b hb=>(sg b hb).imp id (fun h=>⟨.inl h.1,h.2⟩)⟩
theorem Inv.go (h:Inv P ty Post Y gs w t) {g g':Goroutine} {es:Array Event} {s':LG} {o1:Rk} {lk':LK} {rel':Nat->Option Nat} (hi:gs[i]?=some g) (hgo:stepG P (i == 0) g w = .go g' w' es)
 (hR:∀j,j<gs.size->j≠i->Rely ty (Y.S j) w w') (hsit:Sit P ty Post (i == 0) s' o1 (deafBehind (Deaf t i) es) w' g')
 (str':Str (upd (kf Y.S) i s'.kid) (upd (ff Y.S) i s'.fk) lk' gs.size) (wld':Wld ty (upd (kf Y.S) i s'.kid) (upd (ff Y.S) i s'.fk) lk' gs.size w')
 (T:Turn w.heap.size w'.heap.size (Y.S i) s') (hB:w.heap.size<=w'.heap.size)
 (ti':TI (hold (upd Y.S i s') gs.size) gs.size w'.heap.size (t++MemOp.ofEvents i g.frame.fn g.frame.place es))
 (held':Held (Alive (upd Y.S i s') gs.size) rel' (t++MemOp.ofEvents i g.frame.fn g.frame.place es))
 (hr:∀j r,rel' j=some r->∃kd,(upd Y.S i s' j).kid=some kd/\lk' j≠none/\RelAt kd.wg (t++MemOp.ofEvents i g.frame.fn g.frame.place es) j r)
 (hr':∀j kd,lk' j≠none->(upd Y.S i s' j).kid=some kd->2<=kd.st->∃r,rel' j=some r)
 (hd:stg (upd Y.S i s') i≠7->deafBehind (Deaf t i) es=dfn s') (hseen:∀f,s'.fk=some f->closing f.tag->∀x∈f.kids,x.2.2=true)
 (hch:∀p c sn rc,p≠i->p<gs.size->(Y.S p).sy c->w.heap[c]?=some (.chan 0 #[] false sn rc false)->(∃sn rc,w'.heap[c]?=some (.chan 0 #[] false sn rc false))\/((∃sn rc,w'.heap[c]?=some (.chan 0 #[] true sn rc false))/\wakes P g g'=true))
 (hwg:∀p f st,p≠i->p<gs.size->(Y.S p).fk=some f->WgAt ty f.wg w st 0->(∃st',WgAt ty f.wg w' st' 0)\/wakes P g g'=true)
 (hpark:g'.status = .running\/g'.status = .finished\/(g'.offers=none/\∃f st,s'.fk=some f/\WgAt ty f.wg w' st 0)) :
 runT P (crowd gs w sl) i=(.next (crowd ((gs.map (woken P g g' w')).setIfInBounds i g') w' sl),MemOp.ofEvents i g.frame.fn g.frame.place es) /\
  Inv P ty Post ⟨upd Y.S i s',upd Y.o i o1,lk',rel'⟩ ((gs.map (woken P g g' w')).setIfInBounds i g') w' (t++MemOp.ofEvents i g.frame.fn g.frame.place es):=by
 have hlt:i<gs.size:=(Array.getElem?_eq_some_iff.1 hi).1
 have hsz:((gs.map (woken P g g' w')).setIfInBounds i g').size=gs.size:=by simp
 refine ⟨runT_crowd_go hi hgo,?_⟩
 refine ⟨by rw [hsz];exact h.pos,fun j x hx=>?_,by rw [hsz];show Str (kf (upd Y.S i s')) (ff (upd Y.S i s')) _ _;rw [kf_upd,ff_upd];exact str',by rw [hsz];show Wld ty (kf (upd Y.S i s')) (ff (upd Y.S i s')) _ _ _;rw [kf_upd,ff_upd];exact wld',
  by rw [hsz];exact zakv T h.bnd h.ok hlt,by rw [hsz];exact zao5 T h.bnd hB hlt,fun j hj=>?_,by rw [hsz];exact ti',by rw [hsz];exact held',hr,hr',fun j hj h7=>?_,fun j hj=>?_,fun p f hp hf=>?_,fun p x c hx ho=>?_,fun p x f hx hs hn hf=>?_⟩
 · by_cases hji:j=i
   · subst hji
     rw [Array.getElem?_setIfInBounds_self_of_lt (by simpa using hlt)] at hx
     cases hx
     show Sit P ty Post _ (upd Y.S j s' j) (upd Y.o j o1 j) _ _ _
     rw [upd_same,upd_same,Deaf_own];exact hsit
   · rw [Array.getElem?_setIfInBounds_ne (Ne.symm hji),Array.getElem?_map] at hx
     obtain ⟨y,hy,rfl⟩:=Option.map_eq_some_iff.1 hx
     show Sit P ty Post _ (upd Y.S i s' j) (upd Y.o i o1 j) _ _ _
     rw [upd_ne Y.S _ hji,upd_ne Y.o _ hji,Deaf_other t (Ne.symm hji) _ g_of]
     exact ((h.sit j y hy).rely (hR j (Array.getElem?_eq_some_iff.1 hy).1 hji)).woken
 · rw [hsz] at hj
   show (upd Y.S i s' j).kid=none/\(upd Y.S i s' j).fk=none
   rw [upd_ne Y.S _ (by omega)];exact h.out j hj
 · rw [hsz] at hj
   show Deaf _ j=dfn (upd Y.S i s' j)
   by_cases hji:j=i
   · subst hji;rw [upd_same,Deaf_own];exact hd h7
   · rw [upd_ne Y.S _ hji,Deaf_other t (Ne.symm hji) _ g_of]
     refine h.deaf j hj ?_
     have h7:stg (upd Y.S i s') j≠7:=h7
     unfold stg at h7 ⊢;rwa [upd_ne Y.S _ hji] at h7
 · rw [hsz] at hj
   rw [Deaf_other t (by omega:i≠j) _ g_of];exact h.above j hj
 · have hf:(upd Y.S i s' p).fk=some f:=hf
   by_cases hpi:p=i
   · subst hpi;rw [upd_same] at hf;exact hseen f hf
   · rw [upd_ne Y.S _ hpi] at hf;exact h.seen p f (by rw [hsz] at hp;exact hp) hf
 · have no:∀b,offersAt g' c b=[]:=fun b=>by
    rcases hpark with e | e | ⟨e,_⟩
    · exact offersAt_of_not_blocked (by rw [e];simp) _ _
    · exact offersAt_of_not_blocked (by rw [e];simp) _ _
    · exact zafb e _ _
   have get:∀{j:Nat} {x:Goroutine} {b:Bool},((gs.map (woken P g g' w')).setIfInBounds i g')[j]?=some x->offersAt x c b≠[]->j≠i/\gs[j]?=some x/\(wakes P g g'=true->x.again w'=x):=fun {j x b} hx ho=>by
    by_cases hji:j=i
    · subst hji
      rw [Array.getElem?_setIfInBounds_self_of_lt (by simpa using hlt)] at hx
      cases hx
      exact absurd (no b) ho
    · rw [Array.getElem?_setIfInBounds_ne (Ne.symm hji),Array.getElem?_map] at hx
      obtain ⟨y,hy,rfl⟩:=Option.map_eq_some_iff.1 hx
      have h2:=zak3 ho
      rw [h2.1]
      exact ⟨hji,hy,h2.2⟩
   obtain ⟨hpi,hx1,hx2⟩:=get hx ho
   obtain ⟨⟨sn,rc,hc⟩,hm⟩:=h.meet p x c hx1 ho
   have hpl:=(Array.getElem?_eq_some_iff.1 hx1).1
   obtain ⟨g0,f,m,rem,b,z,rfl,_,hf,_,hk,_⟩:=(h.sit p x hx1).recv_of ho
   refine ⟨?_,fun j y hy=>Classical.byContradiction fun hne=>hne (hm j y (get hy hne).2.1)⟩
   rcases hch p c sn rc hpi hpl (.inr ⟨f,hf,.inr ⟨_,List.mem_of_getElem? hk,rfl⟩⟩) hc with h1 | ⟨⟨sn',rc',h1⟩,h2⟩
   · exact h1
   · have:=hx2 h2
     rw [again_recv_closed h1] at this
     have:=congrArg Goroutine.status this
     cases this
 · have hf:(upd Y.S i s' p).fk=some f:=hf
   by_cases hpi:p=i
   · subst hpi
     rw [Array.getElem?_setIfInBounds_self_of_lt (by simpa using hlt)] at hx
     cases hx
     rw [upd_same] at hf
     rcases hpark with e | e | ⟨_,f',st,e1,e2⟩
     · rw [e] at hs;cases hs
     · rw [e] at hs;cases hs
     · rw [hf] at e1;cases e1;exact ⟨st,e2⟩
   · rw [Array.getElem?_setIfInBounds_ne (Ne.symm hpi),Array.getElem?_map] at hx
     obtain ⟨y,hy,rfl⟩:=Option.map_eq_some_iff.1 hx
     obtain ⟨e1,e2⟩:=zajx hs hn
     rw [e1] at hs hn
     rw [upd_ne Y.S _ hpi] at hf
     obtain ⟨st,h1⟩:=h.semz p y f hy hs hn hf
     exact (hwg p f st hpi (Array.getElem?_eq_some_iff.1 hy).1 hf h1).resolve_right e2
end
end Go.Co
namespace Go.Co
open Go Go.Conc
open Go.ConcN (sumTo upd upd_same upd_ne)
open Go.ConcR (KK wgBlock WgAt stA smA rd wr mk)
def bag (o:Nat->Rk) (n:Nat):List Rk:=(List.range n).map o
open Classical in
noncomputable def busy (gs:Array Goroutine):Nat:=sumTo gs.size fun i=>if ∃g,gs[i]?=some g/\g.status = .running then 1 else 0
def Lower (a b:List Rk×Nat):Prop:=Relation.TransGen (Less Rk.lt) a.1 b.1\/(a.1=b.1/\a.2<b.2)
theorem zasw:WellFounded Lower:=
 Subrelation.wf (fun {a b} h=>by
  obtain ⟨a1,a2⟩:=a;obtain ⟨b1,b2⟩:=b
  rcases h with h | ⟨h1,h2⟩
  · exact Prod.Lex.left _ _ h
  · simp only at h1;subst h1;exact Prod.Lex.right _ h2) (Prod.lex ⟨_,(zatv Rk.wf).transGen⟩ Nat.lt_wfRel).wf
theorem zaly {o:Nat->Rk} {n i:Nat} (h:i<n):(bag o n)[i]?=some (o i):=by unfold bag;simp [h]
theorem zarg {o:Nat->Rk} {n i:Nat} (h:i<n) (x:Rk):bag (upd o i x) n=(bag o n).set i x:=by
 apply List.ext_getElem?
 intro k
 rw [List.getElem?_set]
 by_cases hk:k<n
 · rw [zaly hk,zaly hk]
   by_cases e:i=k
   · subst e;rw [upd_same,if_pos rfl,if_pos (by simpa [bag] using h)]
   · rw [upd_ne o x (Ne.symm e),if_neg e]
 · have:(bag o n)[k]?=none:=by simp [bag];omega
   have h2:(bag (upd o i x) n)[k]?=none:=by simp [bag];omega
   rw [this,h2,if_neg (by omega)]
theorem zadh {o:Nat->Rk} {n i:Nat} (h:i<n) {x:Rk} (hx:Rk.lt x (o i)):Less Rk.lt (bag (upd o i x) n) (bag o n):=by
 rw [zarg h];exact zass (zaly h) hx
theorem zasn {o:Nat->Rk} {n i:Nat} (h:i<n) {x y:Rk} (hx:Rk.lt x (o i)) (hy:Rk.lt y (o i)):Less Rk.lt (bag (upd (upd o i x) n y) (n+1)) (bag o n):=by
 have e:bag (upd (upd o i x) n y) (n+1)=(bag o n).set i x++[y]:=by
  rw [<- zarg h]
  unfold bag
  rw [List.range_succ,List.map_append,List.map_singleton,upd_same]
  congr 1
  apply List.map_congr_left
  intro k hk
  rw [List.mem_range] at hk
  rw [upd_ne _ y (by omega)]
 rw [e]
 exact zaqj (zaly h) hx hy
theorem zacy {es:Array Event} (h:∀e∈es,e.loc≠.mark .disable/\e.loc≠.mark .enable) (d:Nat):deafBehind d es=d:=by
 obtain ⟨l⟩:=es
 simp only [deafBehind,List.foldl_toArray']
 induction l generalizing d with
 | nil=>rfl
 | cons e l ih=>
  rw [List.foldl_cons]
  have h1:=h e (by simp)
  have h2:=ih d (fun e he=>h e (by simp at he ⊢;exact .inr he))
  split
  · rename_i e2;exact absurd e2 h1.1
  · rename_i e2;exact absurd e2 h1.2
  · exact h2
theorem zap4 {s:LG} {e:Event} (h:EvG s e):e.loc≠.mark .disable/\e.loc≠.mark .enable:=by
 refine ⟨fun he=>?_,fun he=>?_⟩ <;> (unfold EvG at h;rw [he] at h;simp only at h;unfold Neutral at h;cases h)
theorem Held.mono {al al':Nat->Prop} {rel:Nat->Option Nat} {t:Trace} (h:Held al rel t) (ha:∀j,al j->al' j):Held al' rel t:=fun k hc=>(h k hc).imp (fun ⟨j,h1,h2⟩=>⟨j,ha j h1,h2⟩) id
section
variable {P:Program} {ty:TypeId} {Post:Value->World->Prop} {Y:Sys} {gs:Array Goroutine} {w w':World} {t:Trace} {i:Nat} {sl:Option (Nat×Nat)} {g g':Goroutine} {es:Array Event} {o1:Rk} {s':LG}
variable (P ty Post) in
def CNext (Y:Sys) (gs:Array Goroutine) (w:World) (t:Trace) (sl:Option (Nat×Nat)) (i:Nat):Prop:=
 ∃Y' gs' w' ops,runT P (crowd gs w sl) i=(.next (crowd gs' w' sl),ops)/\Inv P ty Post Y' gs' w' (t++ops)/\Lower (bag Y'.o gs'.size,busy gs') (bag Y.o gs.size,busy gs)
theorem zai1 (hk:s'.kid=(Y.S i).kid) (j:Nat):(upd Y.S i s' j).kid=(Y.S j).kid:=by
 by_cases e:j=i
 · subst e;rw [upd_same,hk]
 · rw [upd_ne _ _ e]
theorem zald (hk:s'.kid=(Y.S i).kid) (j:Nat):stg (upd Y.S i s') j=stg Y.S j:=by unfold stg;rw [zai1 hk]
theorem zagt (hk:s'.kid=(Y.S i).kid) (n:Nat):Alive (upd Y.S i s') n=Alive Y.S n:=by funext j;unfold Alive;rw [zald hk]
theorem zah6 (h:Inv P ty Post Y gs w t) (u:Trace) (hk:s'.kid=(Y.S i).kid):(∀j r,Y.rel j=some r->∃kd,(upd Y.S i s' j).kid=some kd/\Y.lk j≠none/\RelAt kd.wg (t++u) j r) /\
 (∀j kd,Y.lk j≠none->(upd Y.S i s' j).kid=some kd->2<=kd.st->∃r,Y.rel j=some r):=
 ⟨fun j r e=>by obtain ⟨kd,h1,h2,h3⟩:=h.rel j r e;exact ⟨kd,by rw [zai1 hk];exact h1,h2,h3.app u⟩,fun j kd h1 h2=>h.rel' j kd h1 (by rw [zai1 hk] at h2;exact h2)⟩
theorem zapl (h:Inv P ty Post Y gs w t) {j:Nat} {kd:Kid} (h1:Y.lk j≠none) (h2:(Y.S j).kid=some kd):j<gs.size/\(Y.S j).sy kd.ch:=by
 cases e:Y.lk j with
 | none=>exact absurd e h1
 | some x=>exact ⟨(h.str.lnk j x.1 x.2 e).2.1,.inl ⟨kd,h2,.inr rfl⟩⟩
theorem sy_fk {s:LG} {f:Fk} (h:s.fk=some f):s.sy f.wg:=.inr ⟨f,h,.inl rfl⟩
theorem sy_kid {s:LG} {k:Kid} (h:s.kid=some k):s.sy k.wg:=.inl ⟨k,h,.inl rfl⟩
theorem zas4 (h:Inv P ty Post Y gs w t) (hi:gs[i]?=some g) (h7:∀k,(Y.S i).kid=some k->k.st≠7) (ho:Rk.lt o1 (Y.o i)) (hst:stepG P (i == 0) g w = .go g' w' es) (ow:Own1 ty (Y.S i) w s' w' es) (hW:W P ty Post o1 (i == 0) s' g' w') :
 CNext P ty Post Y gs w t sl i:=by
 have hlt:i<gs.size:=(Array.getElem?_eq_some_iff.1 hi).1
 have hrun:=zabv hW.core
 have fr:∀{j b:Nat},j<gs.size->(Y.S j).sy b->w'.heap[b]?=w.heap[b]?:=fun hj hb=>ow.frame _ (h.bnd.sy _ _ hj hb) fun ho=>h.ok.ownSy i _ _ ⟨hlt,ho⟩ ⟨hj,hb⟩
 have wld0:Wld ty (kf Y.S) (ff Y.S) Y.lk gs.size w':=h.wld.frame (fun j kd a b=>let x:=zapl h a b;fr x.1 x.2) (fun p f hp hf=>fr hp (sy_fk hf))
 have ekd:upd (kf Y.S) i s'.kid=kf Y.S:=zabf _ _ ow.kid
 have nosy:∀{wg:Nat},(Y.S i).own wg->∀p f,p<gs.size->ff Y.S p=some f->f.wg≠wg:=fun ho p f hp hf e=>by
  subst e;exact h.ok.ownSy i p _ ⟨hlt,ho⟩ ⟨hp,sy_fk hf⟩
 have sw:Str (upd (kf Y.S) i s'.kid) (upd (ff Y.S) i s'.fk) Y.lk gs.size/\Wld ty (upd (kf Y.S) i s'.kid) (upd (ff Y.S) i s'.fk) Y.lk gs.size w':=by
  rw [ekd]
  rcases ow.fk with e | ⟨e0,e1,wg,e2,e3,e4,e5,e6⟩
  · rw [zabf (ff Y.S) i (x:=s'.fk) e];exact ⟨h.str,wld0⟩
  · rw [e2];exact ⟨h.str.opened e0 wg (nosy e3) e1,wld0.opened h.str hlt e0 wg e6⟩
 have T:Turn w.heap.size w'.heap.size (Y.S i) s':=by
  refine ⟨ow.own,ow.ro,ow.apart (fun b h1 h2=>h.ok.ownRo i i b ⟨hlt,h1⟩ ⟨hlt,h2⟩) (fun b hb=>hb.elim (h.bnd.own i b hlt) (h.bnd.ro i b hlt)),fun b hb=>?_,fun b hb=>?_⟩
  · rcases hb with hb | hb
    · rw [ow.kid] at hb;exact .inl (.inl hb)
    · rcases ow.fk with e | ⟨e0,e1,wg,e2,e3,e4,e5,e6⟩
      · rw [e] at hb;exact .inl (.inr hb)
      · rw [e2] at hb
        obtain ⟨f,hf,hb⟩:=hb
        cases hf
        rcases hb with rfl | ⟨x,hx,_⟩
        · exact .inr ⟨e3,e4,e5⟩
        · cases hx
  · obtain ⟨f,hf,rfl⟩:=hb
    rcases ow.fk with e | ⟨e0,e1,wg,e2,e3,e4,e5,e6⟩
    · rw [e] at hf;exact .inl ⟨f,hf,rfl⟩
    · rw [e2] at hf;cases hf;exact .inr ⟨e3,e4,e5⟩
 have hrl:=zah6 h (MemOp.ofEvents i g.frame.fn g.frame.place es) ow.kid
 have hdf:dfn s'=dfn (Y.S i):=by
  unfold dfn
  rw [ow.kid]
  rcases ow.fk with e | ⟨e0,e1,wg,e2,_⟩
  · rw [e]
  · rw [e2,e0];rfl
 have held':Held (Alive (upd Y.S i s') gs.size) Y.rel (t++MemOp.ofEvents i g.frame.fn g.frame.place es):=by
  rw [zagt ow.kid]
  by_cases ha:stg Y.S i<=1
  · exact h.held.app g_of (.inl ⟨hlt,ha⟩)
  · cases hk:(Y.S i).kid with
    | none=>exact absurd (by simp [stg,hk]) ha
    | some k=>
     have:=ow.mute k hk (by rw [stg_of hk] at ha;omega)
     subst this
     have e:t++MemOp.ofEvents i g.frame.fn g.frame.place #[]=t:=by rw [ofEvents_eq];simp
     rw [e];exact h.held
 have g1:=h.go (sl:=sl) hi hst (fun j hj hne=>.of_own h.ok h.bnd hlt ow hj hne) (.run _ hrun.1 (by rw [hW.core];exact hW) (by rw [ow.kid];exact h7)) sw.1 sw.2 T ow.size (zatg h.ti h.ok h.bnd hlt ow.size T.own T.ro T.apart T.sy T.sg ow.ev) held' hrl.1 hrl.2
  (fun h8=>by rw [zacy (fun e he=>zap4 (ow.ev e he)),hdf];exact h.deaf i hlt (by rw [zald ow.kid] at h8;exact h8))
  (
   fun f hf hc=>by
   rcases ow.fk with e | ⟨e0,e1,wg,e2,_⟩
   · rw [e] at hf;exact h.seen i f hlt hf hc
   · rw [e2] at hf;cases hf;exact hc.elim)
  (fun p c sn rc hp hpl hs hc=>.inl ⟨sn,rc,by rw [fr hpl hs];exact hc⟩) (fun p f st hp hpl hf hat=>.inl ⟨st,by unfold WgAt;rw [fr hpl (sy_fk hf)];exact hat⟩) (.inl hrun.1)
 refine ⟨_,_,_,_,g1.1,g1.2,.inl (.single ?_)⟩
 simp only [Array.size_setIfInBounds,Array.size_map]
 exact zadh hlt ho
end
end Go.Co
namespace Go.Co
open Go Go.Conc
open Go.ConcN (sumTo upd upd_same upd_ne)
open Go.ConcR (KK wgBlock WgAt stA smA rd wr mk)
theorem zam8 {gs gs':Array Goroutine} {i:Nat} {g:Goroutine} (hs:gs'.size=gs.size) (hi:gs[i]?=some g) (hr:g.status = .running) (hn:∀x,gs'[i]?=some x->x.status≠.running) (ho:∀j,j≠i->gs'[j]?=gs[j]?):busy gs'<busy gs:=by
 have hlt:=(Array.getElem?_eq_some_iff.1 hi).1
 unfold busy
 rw [hs]
 have h1:=Go.ConcN.sumTo_upd (f:=fun i=>open Classical in if ∃g,gs[i]?=some g/\g.status = .running then 1 else 0) 0 id hlt
 simp only [id] at h1
 rw [if_pos ⟨g,hi,hr⟩] at h1
 have h2:(sumTo gs.size fun i=>open Classical in if ∃g,gs'[i]?=some g/\g.status = .running then 1 else 0)=sumTo gs.size fun a=>upd (fun i=>open Classical in if ∃g,gs[i]?=some g/\g.status = .running then 1 else 0) i 0 a:=by
  apply Go.ConcN.sumTo_congr
  intro j hj
  by_cases e:j=i
  · subst e
    rw [upd_same,if_neg]
    rintro ⟨x,hx,hs⟩
    exact hn x hx hs
  · rw [upd_ne _ _ e,ho j e]
 rw [h2]
 omega
theorem pt_may {H:Hold} {wg n i:Nat} {D:Prop} {tag tag':Tag} {st sm st' sm':Int} {es:Array Event} (hT:PT wg n D tag st sm tag' st' sm' es) (hw:H.sy i wg):∀e∈es,∀fn pos,May H i { g:=i,fn,pos,act:=.ofEvent e }:=by
 intro e he fn pos
 cases hT <;> simp [semEvents] at he <;> first
  | exact zach (.inl ⟨_,he,by simp,rfl⟩) fn pos
  | exact zach (.inr (.inl ⟨_,_,he,hw⟩)) fn pos
  | (rcases he with he | he <;> exact zach (.inr (.inl ⟨_,_,he,hw⟩)) fn pos)
  | (rcases he with he | he | he | he <;> first | exact zach (.inl ⟨_,he,by simp,rfl⟩) fn pos | exact zach (.inr (.inl ⟨_,_,he,hw⟩)) fn pos)
theorem zaud {wg n:Nat} {D:Prop} {tag tag':Tag} {st sm st' sm':Int} {es:Array Event} (hT:PT wg n D tag st sm tag' st' sm' es):deafBehind (tagDeaf tag) es=tagDeaf tag':=by
 cases hT <;> rfl
theorem zaox {wg n:Nat} {D:Prop} {tag tag':Tag} {st sm st' sm':Int} {es:Array Event} (hT:PT wg n D tag st sm tag' st' sm' es) (hc:closing tag'):D\/closing tag:=by
 cases hT <;> first | exact hc.elim | exact .inr trivial | exact .inl (by assumption)
section
variable {P:Program} {ty:TypeId} {Post:Value->World->Prop} {Y:Sys} {gs:Array Goroutine} {w w':World} {t:Trace} {i:Nat} {sl:Option (Nat×Nat)} {g g':Goroutine} {es:Array Event} {o1:Rk} {s':LG}
theorem work0 (h:Inv P ty Post Y gs w t) (hi:i<gs.size) {f:Fk} (hf:(Y.S i).fk=some f):stg Y.S i=0/\dfn (Y.S i)=tagDeaf f.tag:=by
 cases hk:(Y.S i).kid with
 | none=>exact ⟨by simp [stg,hk],by simp [dfn,hk,hf]⟩
 | some k=>
  have:=h.str.work i f k hi hf hk
  exact ⟨by rw [stg_of hk,this],by simp [dfn,hk,hf,this]⟩
theorem zaso (h:Inv P ty Post Y gs w t) (hi:gs[i]?=some g) (hrun:g.status = .running) (h7:∀k,(Y.S i).kid=some k->k.st≠7) (hW:W P ty Post (Y.o i) (i == 0) (Y.S i) (core g) w) {f:Fk} (hf:(Y.S i).fk=some f) (ht:f.tag = .w3)
 {st:Int} (hat:WgAt ty f.wg w st 0) (hst:stepG P (i == 0) g w = .go { core g with status:=.blocked } w #[]):CNext P ty Post Y gs w t sl i:=by
 have hlt:i<gs.size:=(Array.getElem?_eq_some_iff.1 hi).1
 have e0:t++MemOp.ofEvents i g.frame.fn g.frame.place #[]=t:=by rw [ofEvents_eq];simp
 have hrl:=zah6 h (MemOp.ofEvents i g.frame.fn g.frame.place #[]) (s':=Y.S i) (i:=i) rfl
 have g1:=h.go (sl:=sl) (s':=Y.S i) (o1:=Y.o i) (lk':=Y.lk) (rel':=Y.rel) hi hst (fun j _ _=>.refl _ _) (.sem (core g) f hW hf ht h7) (by rw [zabf (kf Y.S) i (x:=(Y.S i).kid) rfl,zabf (ff Y.S) i (x:=(Y.S i).fk) rfl];exact h.str) (by rw [zabf (kf Y.S) i (x:=(Y.S i).kid) rfl,zabf (ff Y.S) i (x:=(Y.S i).fk) rfl];exact h.wld)
  (Turn.same h.ok hlt _ rfl rfl (fun _ x=>x) (fun _ x=>x)) (Nat.le_refl _) (ti_may h.ti h.ok h.bnd hlt (Turn.same h.ok hlt _ rfl rfl (fun _ x=>x) (fun _ x=>x)) (Nat.le_refl _) (fun e he=>absurd he (by simp))) (by rw [e0,zagt rfl];exact h.held) hrl.1 hrl.2
  (fun h8=>by rw [deafBehind_nil];exact h.deaf i hlt (by rw [zald rfl] at h8;exact h8)) (fun f hf hc=>h.seen i f hlt hf hc)
  (fun p c sn rc hp hpl hs hc=>.inl ⟨sn,rc,hc⟩) (fun p f st hp hpl hf hat=>.inl ⟨st,hat⟩) (.inr (.inr ⟨rfl,f,st,hf,hat⟩))
 refine ⟨_,_,_,_,g1.1,g1.2,.inr ⟨?_,?_⟩⟩
 · simp only [Array.size_setIfInBounds,Array.size_map];rw [zabf _ _ rfl]
 · refine zam8 (by simp) hi hrun (fun x hx=>?_) (fun j hj=>?_)
   · rw [Array.getElem?_setIfInBounds_self_of_lt (by simpa using hlt)] at hx
     cases hx;simp
   · rw [Array.getElem?_setIfInBounds_ne (Ne.symm hj),Array.getElem?_map]
     cases gs[j]? with
     | none=>rfl
     | some y=>simp [woken]
theorem zaqm (h:Inv P ty Post Y gs w t) (hi:gs[i]?=some g) (h7:∀k,(Y.S i).kid=some k->k.st≠7) (ho:Rk.lt o1 (Y.o i)) {f:Fk} (hf:(Y.S i).fk=some f) {st sm st' sm':Int} (hat:WgAt ty f.wg w st sm) {tag':Tag}
 (hT:PT f.wg f.kids.length (∀x∈f.kids,x.2.2=true) f.tag st sm tag' st' sm' es) (hst:stepG P (i == 0) g w = .go g' (setWg ty w f.wg st' sm') es) (hW:W P ty Post o1 (i == 0) { Y.S i with fk:=some { f with tag:=tag' } } g' (setWg ty w f.wg st' sm')):CNext P ty Post Y gs w t sl i:=by
 have hlt:i<gs.size:=(Array.getElem?_eq_some_iff.1 hi).1
 have hrun:=zabv hW.core
 have hw:=work0 h hlt hf
 have hsy:(Y.S i).sy f.wg:=sy_fk hf
 have ekd:upd (kf Y.S) i (Y.S i).kid=kf Y.S:=zabf _ _ rfl
 have hrl:=zah6 h (MemOp.ofEvents i g.frame.fn g.frame.place es) (s':={ Y.S i with fk:=some { f with tag:=tag' } }) (i:=i) rfl
 have fks:∀b,fkSy (some { f with tag:=tag' }) b->fkSy (Y.S i).fk b:=fun b ⟨f',e,x⟩=>by cases e;exact ⟨f,hf,x⟩
 have T:Turn w.heap.size (setWg ty w f.wg st' sm').heap.size (Y.S i) { Y.S i with fk:=some { f with tag:=tag' } }:=by rw [zacx];exact Turn.same h.ok hlt _ rfl rfl (fun b x=>x.imp id (fks b)) (fun b ⟨f',e,x⟩=>by cases e;exact ⟨f,hf,x⟩)
 have g1:=h.go (sl:=sl) (s':={ Y.S i with fk:=some { f with tag:=tag' } }) (o1:=o1) (lk':=Y.lk) (rel':=Y.rel) hi hst (fun j hj hne=>.of_wg h.ok hlt hsy hat hj) (.run _ hrun.1 (by rw [hW.core];exact hW) h7)
  (by rw [ekd];exact h.str.tag hf tag') (by rw [ekd];exact h.wld.part h.str hlt hf hat hT)
  T (by rw [zacx];exact Nat.le_refl _) (ti_may h.ti h.ok h.bnd hlt T (by rw [zacx];exact Nat.le_refl _) (pt_may hT ⟨hlt,hsy⟩))
  (by rw [zagt (s':={ Y.S i with fk:=some { f with tag:=tag' } }) (i:=i) rfl];exact h.held.app g_of (.inl ⟨hlt,by omega⟩)) hrl.1 hrl.2
  (
   fun h8=>by
   have e1:Deaf t i=tagDeaf f.tag:=by rw [h.deaf i hlt (by omega)];exact hw.2
   rw [e1,zaud hT]
   cases hk:(Y.S i).kid with
   | none=>simp [dfn,hk]
   | some k=>have:=hw.1;rw [stg_of hk] at this;simp [dfn,hk,this])
  (
   fun f' hf' hc=>by
   cases hf'
   rcases zaox hT hc with h1 | h1
   · exact h1
   · exact h.seen i f hlt hf h1)
  (fun p c sn rc hp hpl hs hc=>.inl ⟨sn,rc,by rw [zaa6 (zabs hc hat)];exact hc⟩)
  (fun p f' st hp hpl hf' hat'=>.inl ⟨st,by unfold WgAt;rw [zaa6 (fun e=>hp (h.str.wg p i f' f hpl hlt hf' hf e))];exact hat'⟩) (.inl hrun.1)
 refine ⟨_,_,_,_,g1.1,g1.2,.inl (.single ?_)⟩
 simp only [Array.size_setIfInBounds,Array.size_map]
 exact zadh hlt ho
end
end Go.Co
namespace Go.Co
open Go Go.Conc
open Go.ConcN (sumTo upd upd_same upd_ne)
open Go.ConcR (KK wgBlock WgAt stA smA rd wr mk)
def cutRel (lk:LK) (rel:Nat->Option Nat) (i:Nat):Nat->Option Nat:=fun j=>match cutLk lk i j with | none=>none | some _=>rel j
theorem zami {lk:LK} {rel:Nat->Option Nat} {i j r:Nat} (h:cutRel lk rel i j=some r):rel j=some r/\cutLk lk i j≠none:=by
 unfold cutRel at h
 split at h
 · cases h
 · rename_i e;exact ⟨h,by rw [e];simp⟩
theorem zalw {lk:LK} {rel:Nat->Option Nat} {i j:Nat} (h:cutLk lk i j≠none):cutRel lk rel i j=rel j:=by
 unfold cutRel
 split
 · rename_i e;exact absurd e h
 · rfl
theorem zalt {t:Trace} {y:MemOp} (h:Deaf t y.g=0):(t ++ #[y]).heard t.size:=
 ⟨y.g,by simp [Trace.g?],by rw [deaf_old (Nat.le_refl _)];exact h⟩
theorem nocount {t:Trace} {i:Nat} {fn:FuncId} {pos:String} {es:Array Event}
 (hes:∀j e,es[j]?=some e->(MemAct.ofEvent e).touch?=none\/(∀x,(MemAct.ofEvent e).touch?=some x->x.kind = .atomic)/\0<deafBehind (Deaf t i) (es.extract 0 j)) :
 ∀k,t.size<=k->¬ (t++MemOp.ofEvents i fn pos es).counts k:=by
 rintro k hk ⟨x,hx,_,hc⟩
 obtain ⟨op,ho,hxt⟩:=touch_of hx
 have hj:(MemOp.ofEvents i fn pos es)[k - t.size]?=some op:=by rw [Array.getElem?_append_right hk] at ho;exact ho
 rw [ofEvents_eq,Array.getElem?_map] at hj
 obtain ⟨e,he,rfl⟩:=Option.map_eq_some_iff.1 hj
 have hjs:=(Array.getElem?_eq_some_iff.1 he).1
 rcases hes _ e he with h0 | ⟨h1,h2⟩
 · rw [h0] at hxt;cases hxt
 · rcases hc with hc | ⟨g,hg,hd⟩
   · exact hc (h1 x hxt)
   · have hg1:g=i:=by simp [Trace.g?,ho] at hg;exact hg.symm
     subst hg1
     have:=deaf_inside t g fn pos es (k - t.size) (Nat.le_of_lt hjs)
     rw [show t.size+(k - t.size)=k by omega,hd] at this
     omega
theorem zacs {a:Addr} {b:Bool}:∀x,(MemAct.ofEvent ⟨.cell a,b,true⟩).touch?=some x->x.kind = .atomic:=by
 intro x hx
 have hx:some (⟨.cell a,b,.atomic⟩:Touch)=some x:=hx
 cases hx;rfl
theorem kt_may {H:Hold} {wg i n n':Nat} {st sm st' sm':Int} {es:Array Event} (hT:KT wg n st sm n' st' sm' es) (hw:H.sy i wg):∀e∈es,∀fn pos,May H i { g:=i,fn,pos,act:=.ofEvent e }:=by
 intro e he fn pos
 cases hT <;> simp [semEvents] at he <;> first
  | exact zach (.inl ⟨_,he,by simp,rfl⟩) fn pos
  | exact zach (.inr (.inl ⟨_,_,he,hw⟩)) fn pos
  | (rcases he with he | he <;> exact zach (.inr (.inl ⟨_,_,he,hw⟩)) fn pos)
  | (rcases he with he | he | he | he <;> first | exact zach (.inl ⟨_,he,by simp,rfl⟩) fn pos | exact zach (.inr (.inl ⟨_,_,he,hw⟩)) fn pos)
theorem zarb {wg n n':Nat} {st sm st' sm':Int} {es:Array Event} (hT:KT wg n st sm n' st' sm' es):deafBehind (if 3<=n then 1 else 0) es=if 3<=n' then 1 else 0:=by
 cases hT <;> rfl
theorem kt_le {wg n n':Nat} {st sm st' sm':Int} {es:Array Event} (hT:KT wg n st sm n' st' sm' es):n<n'/\2<=n'/\n≠7:=by
 cases hT <;> omega
theorem kt_sm {wg n n':Nat} {st sm st' sm':Int} {es:Array Event} (hT:KT wg n st sm n' st' sm' es) (h:n≠6):sm'=sm:=by
 cases hT <;> first | rfl | exact absurd rfl h
theorem zaoq {wg n n':Nat} {st sm st' sm':Int} {es:Array Event} (hT:KT wg n st sm n' st' sm' es) {t:Trace} {i:Nat} (hd:Deaf t i=if 3<=n then 1 else 0) (fn:FuncId) (pos:String):∀k,t.size<=k->¬ (t++MemOp.ofEvents i fn pos es).counts k:=by
 refine nocount fun j e he=>?_
 rw [hd]
 cases hT with
 | rel=>rcases j with _ | j <;> simp at he;subst he;exact .inl rfl
 | dis=>rcases j with _ | j <;> simp at he;subst he;exact .inl rfl
 | addq h1 h2=>rcases j with _ | _ | j <;> simp at he <;> subst he <;> exact .inr ⟨zacs,by first | exact Nat.zero_lt_one | exact Nat.zero_lt_two⟩
 | addl=>rcases j with _ | _ | j <;> simp at he <;> subst he <;> exact .inr ⟨zacs,by first | exact Nat.zero_lt_one | exact Nat.zero_lt_two⟩
 | ld=>rcases j with _ | j <;> simp at he;subst he;exact .inr ⟨zacs,by first | exact Nat.zero_lt_one | exact Nat.zero_lt_two⟩
 | st=>rcases j with _ | j <;> simp at he;subst he;exact .inr ⟨zacs,by first | exact Nat.zero_lt_one | exact Nat.zero_lt_two⟩
 | sem=>
  rcases j with _ | _ | _ | _ | j <;> simp [semEvents] at he <;> subst he
  · exact .inl rfl
  · exact .inr ⟨zacs,by first | exact Nat.zero_lt_one | exact Nat.zero_lt_two⟩
  · exact .inr ⟨zacs,by first | exact Nat.zero_lt_one | exact Nat.zero_lt_two⟩
  · exact .inl rfl
section
variable {P:Program} {ty:TypeId} {Post:Value->World->Prop} {Y:Sys} {gs:Array Goroutine} {w w':World} {t:Trace} {i:Nat} {sl:Option (Nat×Nat)} {g g':Goroutine} {es:Array Event} {o1:Rk} {s':LG}
theorem zapw (h:Inv P ty Post Y gs w t) (hi:gs[i]?=some g) (h7:∀k,(Y.S i).kid=some k->k.st≠7) (ho:Rk.lt o1 (Y.o i)) {f:Fk} (hf:(Y.S i).fk=some f) (ht:f.tag = .acq)
 (hst:stepG P (i == 0) g w = .go g' w #[mk (.acquire (stA f.wg))]) (hW:W P ty Post o1 (i == 0) { Y.S i with fk:=none } g' w):CNext P ty Post Y gs w t sl i:=by
 have hlt:i<gs.size:=(Array.getElem?_eq_some_iff.1 hi).1
 have hrun:=zabv hW.core
 have hw:=work0 h hlt hf
 have hd0:Deaf t i=0:=by rw [h.deaf i hlt (by omega),hw.2,ht];rfl
 have ekd:upd (kf Y.S) i (Y.S i).kid=kf Y.S:=zabf _ _ rfl
 have kk:=zai1 (Y:=Y) (s':={ Y.S i with fk:=none }) (i:=i) rfl
 have eop:MemOp.ofEvents i g.frame.fn g.frame.place #[mk (.acquire (stA f.wg))] = #[{ g:=i,fn:=g.frame.fn,pos:=g.frame.place,act:=.mark (.acquire (stA f.wg)) }]:=by rw [ofEvents_eq];simp [mk,MemAct.ofEvent]
 have hq:(t ++ #[({ g:=i,fn:=g.frame.fn,pos:=g.frame.place,act:=.mark (.acquire (stA f.wg)) }:MemOp)])[t.size]?=some { g:=i,fn:=g.frame.fn,pos:=g.frame.place,act:=.mark (.acquire (stA f.wg)) }:=by simp
 have nl:∀j,cutLk Y.lk i j≠none->Y.lk j≠none:=fun j hh e=>hh (by unfold cutLk;rw [e])
 have held':Held (Alive (upd Y.S i { Y.S i with fk:=none }) gs.size) (cutRel Y.lk Y.rel i) (t++MemOp.ofEvents i g.frame.fn g.frame.place #[mk (.acquire (stA f.wg))]):=by
  rw [zagt (s':={ Y.S i with fk:=none }) (i:=i) rfl,eop]
  intro k hc
  have hk:k<t.size:=by
   rcases Nat.lt_or_ge k t.size with h1 | h1
   · exact h1
   · obtain ⟨x,hx,_⟩:=hc
     obtain ⟨op,ho,hx2⟩:=touch_of hx
     rw [Array.getElem?_append_right h1] at ho
     have:k - t.size=0:=by
      have:=(Array.getElem?_eq_some_iff.1 ho).1;simp at this;omega
     rw [this] at ho;simp at ho;subst ho;cases hx2
  rcases h.held k ((counts_old hk).1 hc) with ⟨j,h1,h2⟩ | ⟨j,r,h1,h2⟩
  · exact .inl ⟨j,h1,h2.app _⟩
  · by_cases hcut:cutLk Y.lk i j=none
    · left
      refine ⟨i,⟨hlt,by omega⟩,t.size,_,hq,rfl,?_⟩
      obtain ⟨kd,g1,g2,g3⟩:=h.rel j r h1
      obtain ⟨m,hm⟩:∃m,Y.lk j=some (i,m):=(zais hcut).resolve_left g2
      obtain ⟨_,_,f0,kd0,_,e1,e2,_,e4,_⟩:=h.str.lnk j i m hm
      have e1:(Y.S i).fk=some f0:=e1
      have e2:(Y.S j).kid=some kd0:=e2
      rw [hf] at e1;cases e1
      rw [g1] at e2;cases e2
      rw [e4] at g3
      have g4:=g3.app #[({ g:=i,fn:=g.frame.fn,pos:=g.frame.place,act:=.mark (.acquire (stA f.wg)) }:MemOp)]
      refine .inr ((h2.app _).hb (.single (.inr ⟨.marked (lt_of_act? g3.act) (.inr g4.act) (act?_of hq) (fun x _ hx hact=>?_),g4.heard,zalt hd0⟩)))
      rw [act?_old hx] at hact
      unfold Trace.act? at hact
      obtain ⟨op,hop,hoa⟩:=Option.map_eq_some_iff.1 hact
      exact h.ti.norel op (Array.mem_of_getElem? hop) _ hoa
    · exact .inr ⟨j,r,by rw [zalw hcut];exact h1,h2.app _⟩
 have T:Turn w.heap.size w.heap.size (Y.S i) { Y.S i with fk:=none }:=Turn.same h.ok hlt _ rfl rfl (fun b x=>x.imp id (fun ⟨f',e,_⟩=>by cases e)) (fun b ⟨f',e,_⟩=>by cases e)
 have g1:=h.go (sl:=sl) (s':={ Y.S i with fk:=none }) (o1:=o1) (lk':=cutLk Y.lk i) (rel':=cutRel Y.lk Y.rel i) hi hst (fun j _ _=>.refl _ _) (.run _ hrun.1 (by rw [hW.core];exact hW) h7)
  (by rw [ekd];exact h.str.joined (h.wld.all7 hlt hf ht h.str)) (by rw [ekd];exact h.wld.joined)
  T (Nat.le_refl _) (ti_may h.ti h.ok h.bnd hlt T (Nat.le_refl _) (fun e he fn pos=>zach (.inl ⟨_,by simpa using he,by simp,rfl⟩) fn pos)) held'
  (
   fun j r e=>by
   obtain ⟨e1,e2⟩:=zami e
   obtain ⟨kd,g1,g2,g3⟩:=h.rel j r e1
   exact ⟨kd,by rw [kk];exact g1,e2,g3.app _⟩)
  (
   fun j kd h1 h2 h3=>by
   obtain ⟨r,hr⟩:=h.rel' j kd (nl j h1) (by rw [kk] at h2;exact h2) h3
   exact ⟨r,by rw [zalw h1];exact hr⟩)
  (
   fun h8=>by
   rw [zacy (by intro e he;simp at he;subst he;exact ⟨by simp [mk],by simp [mk]⟩),hd0]
   cases hk:(Y.S i).kid with
   | none=>simp [dfn,hk]
   | some k=>have:=hw.1;rw [stg_of hk] at this;simp [dfn,hk,this])
  (fun f' hf'=>by cases hf')
  (fun p c sn rc hp hpl hs hc=>.inl ⟨sn,rc,hc⟩) (fun p f st hp hpl hf hat=>.inl ⟨st,hat⟩) (.inl hrun.1)
 refine ⟨_,_,_,_,g1.1,g1.2,.inl (.single ?_)⟩
 simp only [Array.size_setIfInBounds,Array.size_map]
 exact zadh hlt ho
theorem zalk (h:Inv P ty Post Y gs w t) (hi:gs[i]?=some g) (ho:Rk.lt o1 (Y.o i)) {kd:Kid} (hk:(Y.S i).kid=some kd) (hF:(Y.S i).fk=none) (h0:kd.st≠0) {st sm st' sm':Int} (hat:WgAt ty kd.wg w st sm) {n':Nat}
 (hT:KT kd.wg kd.st st sm n' st' sm' es) (hst:stepG P (i == 0) g w = .go g' (setWg ty w kd.wg st' sm') es) (hmw:kd.st=6->mayWake P g=true)
 (hfin:(n'=7/\∃q,o1 = .num q/\QuitsD P q 1 g')\/(n'≠7/\W P ty Post o1 (i == 0) { Y.S i with kid:=some { kd with st:=n' } } g' (setWg ty w kd.wg st' sm'))):CNext P ty Post Y gs w t sl i:=by
 have hlt:i<gs.size:=(Array.getElem?_eq_some_iff.1 hi).1
 have hkt:=kt_le hT
 have hi0:0<i:=by
  rcases Nat.eq_zero_or_pos i with e | e
  · subst e;have:=h.str.kid0;unfold kf at this;rw [hk] at this;cases this
  · exact e
 obtain ⟨p,m,hl⟩:=h.str.linked hlt hi0 hk hkt.2.2
 have hsy:(Y.S i).sy kd.wg:=sy_kid hk
 have hd0:Deaf t i=if 3<=kd.st then 1 else 0:=by rw [h.deaf i hlt (by rw [stg_of hk];exact hkt.2.2)];simp [dfn,hk,hF]
 have efk:upd (ff Y.S) i (Y.S i).fk=ff Y.S:=zabf _ _ rfl
 have hst':g'.status = .running\/g'.status = .finished:=by
  rcases hfin with ⟨_,q,_,hq⟩ | ⟨_,hW⟩
  · exact hq.status
  · exact .inl (zabv hW.core).1
 have nalive:¬ Alive (upd Y.S i { Y.S i with kid:=some { kd with st:=n' } }) gs.size i:=fun ⟨_,h2⟩=>by
  unfold stg at h2;rw [upd_same] at h2;simp only at h2;omega
 have alive_ne:∀j,j≠i->Alive Y.S gs.size j->Alive (upd Y.S i { Y.S i with kid:=some { kd with st:=n' } }) gs.size j:=fun j hj ⟨h1,h2⟩=>⟨h1,by unfold stg at h2 ⊢;rw [upd_ne _ _ hj];exact h2⟩
 have nc:=zaoq hT hd0 g.frame.fn g.frame.place
 have key:∃rel':Nat->Option Nat,Held (Alive (upd Y.S i { Y.S i with kid:=some { kd with st:=n' } }) gs.size) rel' (t++MemOp.ofEvents i g.frame.fn g.frame.place es)/\(∀j,j≠i->rel' j=Y.rel j) /\
  ∃r,rel' i=some r/\RelAt kd.wg (t++MemOp.ofEvents i g.frame.fn g.frame.place es) i r:=by
  by_cases h1:kd.st=1
  · obtain ⟨e1,e2⟩:n'=2/\es = #[mk (.releaseMerge (stA kd.wg))]:=by
     rw [h1] at hT;cases hT;exact ⟨rfl,rfl⟩
    have hd1:Deaf t i=0:=by rw [hd0,h1];rfl
    have eop:MemOp.ofEvents i g.frame.fn g.frame.place es = #[{ g:=i,fn:=g.frame.fn,pos:=g.frame.place,act:=.mark (.releaseMerge (stA kd.wg)) }]:=by rw [e2,ofEvents_eq];simp [mk,MemAct.ofEvent]
    have hq:(t ++ #[({ g:=i,fn:=g.frame.fn,pos:=g.frame.place,act:=.mark (.releaseMerge (stA kd.wg)) }:MemOp)])[t.size]?=some { g:=i,fn:=g.frame.fn,pos:=g.frame.place,act:=.mark (.releaseMerge (stA kd.wg)) }:=by simp
    refine ⟨upd Y.rel i (some t.size),?_,fun j hj=>upd_ne _ _ hj,t.size,upd_same _ _ _,?_⟩
    · intro k hc
      have hkl:k<t.size:=Nat.lt_of_not_le fun hle=>nc k hle hc
      have mine:Knows t i k->Before (t++MemOp.ofEvents i g.frame.fn g.frame.place es) k t.size:=fun hkn=>by
       rw [eop];exact .inr (hkn.hb_new (Nat.le_refl _) hq rfl)
      rcases h.held k ((counts_old hkl).1 hc) with ⟨j,g1,g2⟩ | ⟨j,r,g1,g2⟩
      · by_cases hj:j=i
        · subst hj;exact .inr ⟨j,t.size,upd_same _ _ _,mine g2⟩
        · exact .inl ⟨j,alive_ne j hj g1,g2.app _⟩
      · by_cases hj:j=i
        · subst hj
          obtain ⟨kd2,_,_,g3⟩:=h.rel j r g1
          have:=g3.g
          unfold Trace.g? at this
          obtain ⟨op,hop,hog⟩:=Option.map_eq_some_iff.1 this
          exact .inr ⟨j,t.size,upd_same _ _ _,mine ⟨r,op,hop,hog,g2⟩⟩
        · exact .inr ⟨j,r,by rw [upd_ne _ _ hj];exact g1,g2.app _⟩
    · rw [eop]
      exact ⟨act?_of hq,by simp [Trace.g?],zalt hd1⟩
  · obtain ⟨r,hr⟩:=h.rel' i kd (by rw [hl];simp) hk (by omega)
    obtain ⟨kd2,g1,_,g3⟩:=h.rel i r hr
    rw [hk] at g1;cases g1
    refine ⟨Y.rel,?_,fun _ _=>rfl,r,hr,g3.app _⟩
    refine (h.held.app (g:=i) g_of (.inr nc)).mono fun j ha=>alive_ne j (fun e=>?_) ha
    subst e
    have:=ha.2
    rw [stg_of hk] at this
    omega
 obtain ⟨rel',held',hre,r,hri,hra⟩:=key
 have T:Turn w.heap.size (setWg ty w kd.wg st' sm').heap.size (Y.S i) { Y.S i with kid:=some { kd with st:=n' } }:=by
  rw [zacx]
  exact Turn.same h.ok hlt _ rfl rfl (fun b x=>x.imp (fun ⟨k',e,x⟩=>by cases e;exact ⟨kd,hk,x⟩) id) (fun b x=>x)
 have g1:=h.go (sl:=sl) (s':={ Y.S i with kid:=some { kd with st:=n' } }) (o1:=o1) (lk':=Y.lk) (rel':=rel') hi hst (fun j hj hne=>.of_wg h.ok hlt hsy hat hj)
  (
   by
   rcases hfin with ⟨e,q,e1,hq⟩ | ⟨e,hW⟩
   · refine .quit _ { kd with st:=n' } q (by simp;omega) rfl e hF e1 ?_
     rw [hd0,zarb hT,e];exact hq
   · exact .run _ (zabv hW.core).1 (by rw [hW.core];exact hW) (fun k' e'=>by cases e';exact e))
  (by rw [efk];exact h.str.stage hi0 hk n' (Nat.le_of_lt hkt.1) (h.str.out i kd hlt hk (by omega)) hF hkt.2.2) (by rw [efk];exact h.wld.quit h.str hl hk (by omega) hat hT (by omega))
  T (by rw [zacx];exact Nat.le_refl _) (ti_may h.ti h.ok h.bnd hlt T (by rw [zacx];exact Nat.le_refl _) (kt_may hT ⟨hlt,hsy⟩)) held'
  (
   fun j r' e=>by
   by_cases hj:j=i
   · subst hj;rw [hri] at e;cases e
     exact ⟨{ kd with st:=n' },congrArg LG.kid (upd_same Y.S j _),by rw [hl];simp,hra⟩
   · rw [hre j hj] at e
     obtain ⟨kd2,g1,g2,g3⟩:=h.rel j r' e
     exact ⟨kd2,by rw [upd_ne _ _ hj];exact g1,g2,g3.app _⟩)
  (
   fun j kd2 h1 h2 h3=>by
   by_cases hj:j=i
   · subst hj;exact ⟨r,hri⟩
   · rw [upd_ne _ _ hj] at h2;rw [hre j hj];exact h.rel' j kd2 h1 h2 h3)
  (fun h8=>by rw [hd0,zarb hT];simp [dfn,hF])
  (fun f hf=>by rw [show ({ Y.S i with kid:=some { kd with st:=n' } }:LG).fk=(Y.S i).fk from rfl,hF] at hf;cases hf)
  (fun p c sn rc hp hpl hs hc=>.inl ⟨sn,rc,by rw [zaa6 (zabs hc hat)];exact hc⟩)
  (
   fun p' f' st2 hp hpl hf' hat'=>by
   by_cases e:f'.wg=kd.wg
   · by_cases h6:kd.st=6
     · right
       unfold wakes
       rw [hmw h6]
       rcases hst' with e | e <;> rw [e] <;> rfl
     · left
       rw [e] at hat' ⊢
       have:sm=0:=by
        unfold WgAt at hat hat';rw [hat] at hat'
        simp only [wgBlock,Option.some.injEq,Obj.cells.injEq,Array.mk.injEq,List.cons.injEq,Value.int.injEq,true_and,and_true] at hat'
        exact hat'.2
       exact ⟨st',by have:=kt_sm hT h6;rw [this,‹sm=0›];exact zaf5 hat⟩
   · exact .inl ⟨st2,by unfold WgAt;rw [zaa6 e];exact hat'⟩)
  (hst'.imp id .inl)
 refine ⟨_,_,_,_,g1.1,g1.2,.inl (.single ?_)⟩
 simp only [Array.size_setIfInBounds,Array.size_map]
 exact zadh hlt ho
theorem zam5 (h:Inv P ty Post Y gs w t) (hi:gs[i]?=some g) (ho:Rk.lt o1 (Y.o i)) {kd:Kid} (hk:(Y.S i).kid=some kd) (hF:(Y.S i).fk=none) (h0:kd.st=0) (hout:kd.out=[]) {sn rc:Nat} (hc:w.heap[kd.ch]?=some (.chan 0 #[] false sn rc false))
 (hmw:mayWake P g=true) (hst:stepG P (i == 0) g w = .go g' (w.setChan kd.ch 0 #[] true sn rc false) #[⟨.obj kd.ch,false,true⟩,⟨.obj kd.ch,true,true⟩])
 (hW:W P ty Post o1 (i == 0) { Y.S i with kid:=some { kd with st:=1 } } g' (w.setChan kd.ch 0 #[] true sn rc false)):CNext P ty Post Y gs w t sl i:=by
 have hlt:i<gs.size:=(Array.getElem?_eq_some_iff.1 hi).1
 have hrun:=zabv hW.core
 have hi0:0<i:=by
  rcases Nat.eq_zero_or_pos i with e | e
  · subst e;have:=h.str.kid0;unfold kf at this;rw [hk] at this;cases this
  · exact e
 obtain ⟨p,m,hl⟩:=h.str.linked hlt hi0 hk (by omega)
 have hsy:(Y.S i).sy kd.ch:=.inl ⟨kd,hk,.inr rfl⟩
 have efk:upd (ff Y.S) i (Y.S i).fk=ff Y.S:=zabf _ _ rfl
 have hd0:Deaf t i=0:=by rw [h.deaf i hlt (by rw [stg_of hk];omega)];simp [dfn,hk,hF,h0]
 have T:Turn w.heap.size (w.setChan kd.ch 0 #[] true sn rc false).heap.size (Y.S i) { Y.S i with kid:=some { kd with st:=1 } }:=by
  rw [zacw]
  exact Turn.same h.ok hlt _ rfl rfl (fun b x=>x.imp (fun ⟨k',e,x⟩=>by cases e;exact ⟨kd,hk,x⟩) id) (fun b x=>x)
 have g1:=h.go (sl:=sl) (s':={ Y.S i with kid:=some { kd with st:=1 } }) (o1:=o1) (lk':=Y.lk) (rel':=Y.rel) hi hst (fun j hj hne=>.of_chan h.ok hlt hsy hc true sn rc hj) (.run _ hrun.1 (by rw [hW.core];exact hW) (fun k e=>by cases e;simp))
  (by rw [efk];exact h.str.stage hi0 hk 1 (by omega) hout hF (by omega)) (by rw [efk];exact h.wld.closed h.str hl hk h0 hc)
  T (by rw [zacw];exact Nat.le_refl _)
  (
   ti_may h.ti h.ok h.bnd hlt T (by rw [zacw];exact Nat.le_refl _) fun e he fn pos=>by
   simp at he
   rcases he with he | he
   · exact zach (H:=hold Y.S gs.size) (.inr (.inr (.inl ⟨_,he,show (hold Y.S gs.size).sy i kd.ch from ⟨hlt,hsy⟩⟩))) fn pos
   · exact zach (.inr (.inr (.inr ⟨_,he⟩))) fn pos)
  (
   (
   h.held.app (g:=i) g_of (.inl ⟨hlt,by rw [stg_of hk];omega⟩)).mono fun j ⟨h1,h2⟩=>⟨h1,by
   by_cases hj:j=i
   · subst hj;unfold stg;rw [upd_same];exact Nat.le_refl _
   · unfold stg at h2 ⊢;rw [upd_ne _ _ hj];exact h2⟩)
  (
   fun j r' e=>by
   obtain ⟨kd2,g1,g2,g3⟩:=h.rel j r' e
   by_cases hj:j=i
   · subst hj
     rw [hk] at g1;cases g1
     exact ⟨{ kd with st:=1 },congrArg LG.kid (upd_same Y.S j _),g2,g3.app _⟩
   · exact ⟨kd2,by rw [upd_ne _ _ hj];exact g1,g2,g3.app _⟩)
  (
   fun j kd2 h1 h2 h3=>by
   by_cases hj:j=i
   · subst hj;rw [upd_same] at h2;cases h2;simp at h3
   · rw [upd_ne _ _ hj] at h2;exact h.rel' j kd2 h1 h2 h3)
  (
   fun h8=>by
   rw [zacy (by intro e he;simp at he;rcases he with rfl | rfl <;> exact ⟨by simp,by simp⟩),hd0]
   simp [dfn,hF])
  (fun f hf=>by rw [show ({ Y.S i with kid:=some { kd with st:=1 } }:LG).fk=(Y.S i).fk from rfl,hF] at hf;cases hf)
  (
   fun p c sn' rc' hp hpl hs hc'=>by
   by_cases e:c=kd.ch
   · right
     refine ⟨⟨sn,rc,by rw [e];exact zaes hc _ _ _ _ _ _⟩,?_⟩
     unfold wakes
     rw [hmw,hrun.1];rfl
   · exact .inl ⟨sn',rc',by rw [zaa1 e];exact hc'⟩)
  (fun p' f' st2 hp hpl hf' hat'=>.inl ⟨st2,by unfold WgAt;rw [zaa1 (fun e=>zabs hc hat' e.symm)];exact hat'⟩) (.inl hrun.1)
 refine ⟨_,_,_,_,g1.1,g1.2,.inl (.single ?_)⟩
 simp only [Array.size_setIfInBounds,Array.size_map]
 exact zadh hlt ho
theorem zaqt (h:Inv P ty Post Y gs w t) (hi:gs[i]?=some g) {kd:Kid} {q:Nat} (hm:(i == 0)=false) (hk:(Y.S i).kid=some kd) (h7:kd.st=7) (hF:(Y.S i).fk=none) (ho:Y.o i = .num (q+1))
 (hes:∀e∈es,Event.mute e=true) (hst:stepG P false g w = .go g' w es) (hq:QuitsD P q (deafBehind (Deaf t i) es) g'):CNext P ty Post Y gs w t sl i:=by
 have hlt:i<gs.size:=(Array.getElem?_eq_some_iff.1 hi).1
 have hrl:=zah6 h (MemOp.ofEvents i g.frame.fn g.frame.place es) (s':=Y.S i) (i:=i) rfl
 have T:Turn w.heap.size w.heap.size (Y.S i) (Y.S i):=Turn.same h.ok hlt _ rfl rfl (fun _ x=>x) (fun _ x=>x)
 have g1:=h.go (sl:=sl) (s':=Y.S i) (o1:=.num q) (lk':=Y.lk) (rel':=Y.rel) hi (by rw [hm];exact hst) (fun j _ _=>.refl _ _) (.quit _ kd q hm hk h7 hF rfl hq)
  (by rw [zabf (kf Y.S) i (x:=(Y.S i).kid) rfl,zabf (ff Y.S) i (x:=(Y.S i).fk) rfl];exact h.str) (by rw [zabf (kf Y.S) i (x:=(Y.S i).kid) rfl,zabf (ff Y.S) i (x:=(Y.S i).fk) rfl];exact h.wld)
  T (Nat.le_refl _)
  (
   ti_may h.ti h.ok h.bnd hlt T (Nat.le_refl _) fun e he fn pos=>⟨rfl,fun a ha=>by
   have h1:=hes e he
   obtain ⟨loc,wr,sy⟩:=e
   cases loc <;> simp [Event.mute] at h1
   rename_i m
   cases m <;> simp at h1 <;> simp [MemAct.ofEvent] at ha,fun x b hx _=>by rw [show (MemOp.act { g:=i,fn,pos,act:=MemAct.ofEvent e }).touch?=(MemAct.ofEvent e).touch? from rfl,touch_mute (hes e he)] at hx;cases hx⟩)
  (
   by
   rw [zagt (s':=Y.S i) (i:=i) rfl]
   exact h.held.app (g:=i) g_of (.inr (nocount fun j e he=>.inl (touch_mute (hes e (Array.mem_of_getElem? he)))))) hrl.1 hrl.2
  (fun h8=>absurd (by rw [zald rfl,stg_of hk];exact h7) h8) (fun f hf hc=>by rw [hF] at hf;cases hf)
  (fun p c sn rc hp hpl hs hc=>.inl ⟨sn,rc,hc⟩) (fun p f st hp hpl hf hat=>.inl ⟨st,hat⟩) (hq.status.imp id .inl)
 refine ⟨_,_,_,_,g1.1,g1.2,.inl (.single ?_)⟩
 simp only [Array.size_setIfInBounds,Array.size_map]
 exact zadh hlt (by rw [ho];exact Nat.lt_succ_self q)
end
end Go.Co
namespace Go.Co
open Go Go.Conc
open Go.ConcN (sumTo upd upd_same upd_ne)
open Go.ConcR (KK wgBlock WgAt stA smA rd wr mk)
def Still (n:Nat) (op:MemOp):Prop:=op.g<n/\op.act.touch?=none/\(∀m,op.act≠.mark m)
theorem zas1 {H:Hold} {n B:Nat} {t u:Trace} (h:TI H n B t) (A:H.Ok) (hu:∀op∈u,Still n op):TI H n B (t++u):=by
 obtain ⟨l⟩:=u
 induction l generalizing t with
 | nil=>simpa using h
 | cons x l ih=>
  have e:t++(x::l).toArray=(t ++ #[x])++l.toArray:=by apply Array.ext';simp
  rw [e]
  have hx:=hu x (by simp)
  refine ih (h.app A hx.1 (fun op hop=>?_) (fun op hop y b hy _=>?_)) (fun op hop=>hu op (by simp at hop ⊢;exact .inr hop))
  · simp at hop;subst hop
    exact ⟨rfl,fun a e=>hx.2.2 _ e,fun y b hy _=>by rw [hx.2.1] at hy;cases hy⟩
  · simp at hop;subst hop;rw [hx.2.1] at hy;cases hy
theorem zajq {al:Nat->Prop} {rel:Nat->Option Nat} {n:Nat} {t u:Trace} (h:Held al rel t) (hu:∀op∈u,Still n op):Held al rel (t++u):=by
 intro k hc
 rcases Nat.lt_or_ge k t.size with hk | hk
 · exact h.old hk hc
 · obtain ⟨x,hx,_⟩:=hc
   obtain ⟨op,ho,hx2⟩:=touch_of hx
   rcases getElem?_append_cases ho with ⟨h1,_⟩ | ⟨_,h1⟩
   · omega
   · rw [(hu op h1).2.1] at hx2;cases hx2
theorem zada {n g:Nat} {t u:Trace} (hu:∀op∈u,Still n op):Deaf (t++u) g=Deaf t g:=by
 obtain ⟨l⟩:=u
 rw [Deaf_append]
 generalize Deaf t g=d
 induction l generalizing d with
 | nil=>rfl
 | cons x l ih=>
  rw [List.foldl_cons]
  have hx:=hu x (by simp)
  have e:deafStep g d x=d:=by
   obtain ⟨a,b,c,act⟩:=x
   cases act with
   | mark m=>exact absurd rfl (hx.2.2 m)
   | _=>rfl
  rw [e]
  exact ih (fun op hop=>hu op (by simp at hop ⊢;exact .inr hop)) d
structure Same (s s':LG):Prop where
 own:s'.own=s.own
 ro:s'.ro=s.ro
 kid:(s.kid=none/\s'.kid=none)\/∃k k',s.kid=some k/\s'.kid=some k'/\k'.ch=k.ch/\k'.wg=k.wg/\k'.st=k.st
 fk:(s.fk=none/\s'.fk=none)\/∃f f',s.fk=some f/\s'.fk=some f'/\f'.wg=f.wg/\f'.tag=f.tag/\∀b,(∃x∈f'.kids,x.1=b)↔∃x∈f.kids,x.1=b
theorem Same.refl (s:LG):Same s s:=⟨rfl,rfl,by cases h:s.kid with
 | none=>exact .inl ⟨rfl,rfl⟩
 | some k=>exact .inr ⟨k,k,rfl,rfl,rfl,rfl,rfl⟩,by cases h:s.fk with
 | none=>exact .inl ⟨rfl,rfl⟩
 | some f=>exact .inr ⟨f,f,rfl,rfl,rfl,rfl,fun _=>Iff.rfl⟩⟩
theorem Same.sy {s s':LG} (h:Same s s') (b:Nat):s'.sy b↔s.sy b:=by
 have h1:kidSy s'.kid b↔kidSy s.kid b:=by
  rcases h.kid with ⟨e1,e2⟩ | ⟨k,k',e1,e2,e3,e4,_⟩
  · rw [e1,e2]
  · rw [e1,e2]
    constructor
    · rintro ⟨x,e,hx⟩;cases e;exact ⟨k,rfl,by rw [e3,e4] at hx;exact hx⟩
    · rintro ⟨x,e,hx⟩;cases e;exact ⟨k',rfl,by rw [e3,e4];exact hx⟩
 have h2:fkSy s'.fk b↔fkSy s.fk b:=by
  rcases h.fk with ⟨e1,e2⟩ | ⟨f,f',e1,e2,e3,_,e5⟩
  · rw [e1,e2]
  · rw [e1,e2]
    constructor
    · rintro ⟨x,e,hx⟩;cases e;exact ⟨f,rfl,hx.imp (fun e=>by rw [<- e3];exact e) (e5 b).1⟩
    · rintro ⟨x,e,hx⟩;cases e;exact ⟨f',rfl,hx.imp (fun e=>by rw [e3];exact e) (e5 b).2⟩
 exact or_congr h1 h2
theorem Same.sg {s s':LG} (h:Same s s') (b:Nat):s'.sg b↔s.sg b:=by
 unfold LG.sg
 rcases h.fk with ⟨e1,e2⟩ | ⟨f,f',e1,e2,e3,_,_⟩
 · rw [e1,e2]
 · rw [e1,e2]
   constructor
   · rintro ⟨x,e,hx⟩;cases e;exact ⟨f,rfl,by rw [<- e3];exact hx⟩
   · rintro ⟨x,e,hx⟩;cases e;exact ⟨f',rfl,by rw [e3];exact hx⟩
theorem Same.dfn {s s':LG} (h:Same s s'):dfn s'=dfn s:=by
 unfold Co.dfn
 rcases h.kid with ⟨e1,e2⟩ | ⟨k,k',e1,e2,_,_,e3⟩ <;> rcases h.fk with ⟨g1,g2⟩ | ⟨f,f',g1,g2,_,g3,_⟩ <;> rw [e1,e2,g1,g2] <;> simp only [*]
theorem Same.st {s s':LG} (h:Same s s') {k':Kid} (e:s'.kid=some k'):∃k,s.kid=some k/\k'.ch=k.ch/\k'.wg=k.wg/\k'.st=k.st:=by
 rcases h.kid with ⟨_,e2⟩ | ⟨k,k2,e1,e2,e3⟩
 · rw [e] at e2;cases e2
 · rw [e] at e2;cases e2;exact ⟨k,e1,e3⟩
theorem Same.st' {s s':LG} (h:Same s s') {k:Kid} (e:s.kid=some k):∃k',s'.kid=some k'/\k'.ch=k.ch/\k'.wg=k.wg/\k'.st=k.st:=by
 rcases h.kid with ⟨e2,_⟩ | ⟨k,k2,e1,e2,e3⟩
 · rw [e] at e2;cases e2
 · rw [e] at e1;cases e1;exact ⟨k2,e2,e3⟩
theorem zary {S S':Nat->LG} (h:∀j,Same (S j) (S' j)) (j:Nat):stg S' j=stg S j:=by
 unfold stg
 rcases (h j).kid with ⟨e1,e2⟩ | ⟨k,k',e1,e2,_,_,e3⟩ <;> rw [e1,e2]
 exact e3
theorem zaqq {S S':Nat->LG} (h:∀j,Same (S j) (S' j)) (n:Nat):hold S' n=hold S n:=by
 unfold hold
 congr 1
 · funext i b;rw [(h i).own]
 · funext i b;rw [(h i).ro]
 · funext i b;exact propext (and_congr_right fun _=>(h i).sy b)
 · funext i b;exact propext (and_congr_right fun _=>(h i).sg b)
section
variable {P:Program} {ty:TypeId} {Post:Value->World->Prop} {Y:Sys} {gs gs':Array Goroutine} {w w':World} {t u:Trace} {i:Nat} {sl:Option (Nat×Nat)} {g g':Goroutine} {es:Array Event} {o1:Rk} {s':LG} {S':Nat->LG} {o':Nat->Rk}
theorem Inv.comm (h:Inv P ty Post Y gs w t) (hs:gs'.size=gs.size) (hS:∀j,Same (Y.S j) (S' j)) (str':Str (kf S') (ff S') Y.lk gs.size) (wld':Wld ty (kf S') (ff S') Y.lk gs.size w') (hB:w'.heap.size=w.heap.size) (hu:∀op∈u,Still gs.size op)
 (sit':∀(j:Nat) (x:Goroutine),gs'[j]?=some x->Sit P ty Post (j == 0) (S' j) (o' j) (Deaf t j) w' x)
 (seen':∀p f,p<gs.size->(S' p).fk=some f->closing f.tag->∀x∈f.kids,x.2.2=true)
 (meet':∀(p:Nat) (g:Goroutine) (c:Nat),gs'[p]?=some g->offersAt g c false≠[]->(∃sn rc,w'.heap[c]?=some (.chan 0 #[] false sn rc false))/\∀(j:Nat) (h:Goroutine),gs'[j]?=some h->offersAt h c true=[])
 (semz':∀(p:Nat) (g:Goroutine) (f:Fk),gs'[p]?=some g->g.status = .blocked->g.offers=none->(S' p).fk=some f->∃st,WgAt ty f.wg w' st 0) :
 Inv P ty Post ⟨S',o',Y.lk,Y.rel⟩ gs' w' (t++u):=by
 have hh:=zaqq hS gs.size
 have hst:=zary hS
 refine ⟨by rw [hs];exact h.pos,fun j x hx=>by rw [zada hu];exact sit' j x hx,by rw [hs];exact str',by rw [hs];exact wld',by rw [hs,hh];exact h.ok,
  by rw [hs,hB];exact ⟨fun j b hj hb=>h.bnd.own j b hj (by rw [<- (hS j).own];exact hb),fun j b hj hb=>h.bnd.ro j b hj (by rw [<- (hS j).ro];exact hb),fun j b hj hb=>h.bnd.sy j b hj (((hS j).sy b).1 hb)⟩,
  fun j hj=>?_,by rw [hs,hB,hh];exact zas1 h.ti h.ok hu,by rw [hs];exact (zajq h.held hu).mono fun j ⟨h1,h2⟩=>⟨h1,by rw [hst];exact h2⟩,fun j r e=>?_,fun j kd h1 h2 h3=>?_,fun j hj h7=>?_,fun j hj=>?_,by rw [hs];exact seen',meet',semz'⟩
 · rw [hs] at hj
   obtain ⟨a,b⟩:=h.out j hj
   constructor
   · rcases (hS j).kid with ⟨_,e⟩ | ⟨k,k',e,_⟩
     · exact e
     · rw [a] at e;cases e
   · rcases (hS j).fk with ⟨_,e⟩ | ⟨k,k',e,_⟩
     · exact e
     · rw [b] at e;cases e
 · obtain ⟨kd,h1,h2,h3⟩:=h.rel j r e
   obtain ⟨k',e1,_,e2,_⟩:=(hS j).st' h1
   exact ⟨k',e1,h2,by rw [e2];exact h3.app u⟩
 · obtain ⟨k,e1,_,_,e2⟩:=(hS j).st h2
   exact h.rel' j k h1 e1 (by omega)
 · rw [hs] at hj
   rw [zada hu,h.deaf j hj (by rw [<- hst];exact h7),(hS j).dfn]
 · rw [hs] at hj;rw [zada hu];exact h.above j hj
theorem zahb (i:Nat) (fn:FuncId) (pos:String):MemOp.ofEvents i fn pos #[] = #[]:=by rw [ofEvents_eq];simp
theorem zacp {gs:Array Goroutine} {i j:Nat} {x y:Goroutine} (h:(gs.setIfInBounds i x)[j]?=some y):(j=i/\y=x)\/(j≠i/\gs[j]?=some y):=by
 by_cases e:i=j
 · subst e
   by_cases hlt:i<gs.size
   · rw [Array.getElem?_setIfInBounds_self_of_lt hlt] at h;cases h;exact .inl ⟨rfl,rfl⟩
   · rw [Array.getElem?_eq_none (by simpa using hlt)] at h;cases h
 · rw [Array.getElem?_setIfInBounds_ne e] at h;exact .inr ⟨fun x=>e x.symm,h⟩
theorem zarh {i c:Nat} {b:Bool} (hp:partners (gs.setIfInBounds i ph) c b=[]) {j:Nat} {x:Goroutine} (hj:j≠i) (hx:gs[j]?=some x):offersAt x c b=[]:=by
 apply List.eq_nil_iff_forall_not_mem.2
 intro k hk
 have:(j,k)∈partners (gs.setIfInBounds i ph) c b:=mem_partners.2 ⟨x,stand_get hj hx,hk⟩
 rw [hp] at this;cases this
theorem zaig (h:Inv P ty Post Y gs w t) (hi:gs[i]?=some g) (hrun:g.status = .running) (hW:W P ty Post (Y.o i) (i == 0) (Y.S i) (core g) w) {k:Kid} {v z:Value} {rest:List Value} (hst:stepG P (i == 0) g w = .comm (core g) #[scase k.ch v z] true .send w #[])
 (hk:(Y.S i).kid=some k) (h0:k.st=0) (hout:k.out=v::rest) (hF:(Y.S i).fk=none) (ho:Rk.lt o1 (Y.o i)) (hW':W P ty Post o1 (i == 0) { Y.S i with kid:=some { k with out:=rest } } (Conc.served (core g) undef) w)
 {sn rc:Nat} (hc:w.heap[k.ch]?=some (.chan 0 #[] false sn rc false)) (hp:partners (gs.setIfInBounds i ph) k.ch false=[]):CNext P ty Post Y gs w t sl i:=by
 have hlt:i<gs.size:=(Array.getElem?_eq_some_iff.1 hi).1
 have h1:=crowd_waits (sl:=sl) hi hst (fun cc hcc=>by simp at hcc;subst hcc;exact ways_send_none hc (by simp) hp)
 rw [zahb] at h1
 refine ⟨⟨Y.S,Y.o,Y.lk,Y.rel⟩,_,_,_,h1,h.comm (by simp) (fun j=>.refl _) h.str h.wld rfl (by simp) (fun j x hx=>?_) h.seen (fun p x c hx hne=>?_) (fun p x f hx hs hn hf=>?_),.inr ⟨by simp,?_⟩⟩
 · rcases zacp hx with ⟨rfl,rfl⟩ | ⟨_,hx⟩
   · exact .send (core g) k v z rest o1 hW hk h0 hout hF ho hW'
   · exact h.sit j x hx
 · rcases zacp hx with ⟨rfl,rfl⟩ | ⟨hpi,hx⟩ <;> clear h1
   · exact absurd (offersAt_parked_send' ..) hne
   · have hx2:=hx
     obtain ⟨m1,m2⟩:=h.meet p x c hx hne
     refine ⟨m1,fun j y hy=>?_⟩
     rcases zacp hy with ⟨rfl,rfl⟩ | ⟨hji,hy⟩
     · rw [offersAt_parked_send]
       by_cases e:k.ch=c
       · subst e;exact absurd (zarh hp hpi hx2) hne
       · rw [if_neg e]
     · exact m2 j y hy
 · rcases zacp hx with ⟨rfl,rfl⟩ | ⟨hpi,hx⟩
   · cases hn
   · exact h.semz p x f hx hs hn hf
 · refine zam8 (by simp) hi hrun (fun x hx=>?_) (fun j hj=>?_)
   · rcases zacp hx with ⟨_,rfl⟩ | ⟨e,_⟩
     · simp [parked]
     · exact absurd rfl e
   · rw [Array.getElem?_setIfInBounds_ne (Ne.symm hj)]
theorem zahy (h:Inv P ty Post Y gs w t) (hi:gs[i]?=some g) (hrun:g.status = .running) (h7:∀k,(Y.S i).kid=some k->k.st≠7) (hW:W P ty Post (Y.o i) (i == 0) (Y.S i) (core g) w) {f:Fk} {m c:Nat} {rem:List Value} {b:Bool} {z:Value}
 (hst:stepG P (i == 0) g w = .comm (core g) #[rcase c z] true (.recv b) w #[]) (hf:(Y.S i).fk=some f) (ht:f.tag = .idle) (hm:f.kids[m]?=some (c,rem,false))
 (hn:∀v rest,rem=v::rest->∃o',Rk.lt o' (Y.o i)/\W P ty Post o' (i == 0) { Y.S i with fk:=some { f with kids:=f.kids.set m (c,rest,false) } } (Conc.served (core g) (recvd b v true)) w)
 {sn rc:Nat} (hc:w.heap[c]?=some (.chan 0 #[] false sn rc false)) (hp:partners (gs.setIfInBounds i ph) c true=[]):CNext P ty Post Y gs w t sl i:=by
 have hlt:i<gs.size:=(Array.getElem?_eq_some_iff.1 hi).1
 have h1:=crowd_waits (sl:=sl) hi hst (fun cc hcc=>by simp at hcc;subst hcc;exact ways_recv_none hc hp)
 rw [zahb] at h1
 refine ⟨⟨Y.S,Y.o,Y.lk,Y.rel⟩,_,_,_,h1,h.comm (by simp) (fun j=>.refl _) h.str h.wld rfl (by simp) (fun j x hx=>?_) h.seen (fun p x c' hx hne=>?_) (fun p x f hx hs hn hf=>?_),.inr ⟨by simp,?_⟩⟩
 · rcases zacp hx with ⟨rfl,rfl⟩ | ⟨_,hx⟩
   · exact .recv (core g) f m c rem b z hW hf ht hm hn h7
   · exact h.sit j x hx
 · rcases zacp hx with ⟨rfl,rfl⟩ | ⟨hpi,hx⟩
   · rw [offersAt_parked_recv] at hne
     by_cases e:c=c'
     · subst e
       refine ⟨⟨sn,rc,hc⟩,fun j y hy=>?_⟩
       rcases zacp hy with ⟨rfl,rfl⟩ | ⟨hji,hy⟩
       · exact offersAt_parked_recv' ..
       · exact zarh hp hji hy
     · rw [if_neg e] at hne;exact absurd rfl hne
   · obtain ⟨m1,m2⟩:=h.meet p x c' hx hne
     refine ⟨m1,fun j y hy=>?_⟩
     rcases zacp hy with ⟨rfl,rfl⟩ | ⟨hji,hy⟩
     · exact offersAt_parked_recv' ..
     · exact m2 j y hy
 · rcases zacp hx with ⟨rfl,rfl⟩ | ⟨hpi,hx⟩
   · cases hn
   · exact h.semz p x f hx hs hn hf
 · refine zam8 (by simp) hi hrun (fun x hx=>?_) (fun j hj=>?_)
   · rcases zacp hx with ⟨_,rfl⟩ | ⟨e,_⟩
     · simp [parked]
     · exact absurd rfl e
   · rw [Array.getElem?_setIfInBounds_ne (Ne.symm hj)]
theorem zajh (h:Inv P ty Post Y gs w t) (hi:gs[i]?=some g) (h7:∀k,(Y.S i).kid=some k->k.st≠7) {f:Fk} {m c j:Nat} {b:Bool} {z:Value} {kd:Kid}
 (hst:stepG P (i == 0) g w = .comm (core g) #[rcase c z] true (.recv b) w #[]) (hf:(Y.S i).fk=some f) (ht:f.tag = .idle) (hl:Y.lk j=some (i,m)) (hk:(Y.S j).kid=some kd) (hch:kd.ch=c) (h1:1<=kd.st) (ho:Rk.lt o1 (Y.o i))
 (hW:W P ty Post o1 (i == 0) { Y.S i with fk:=some { f with kids:=f.kids.set m (c,[],true) } } (Conc.served (core g) (recvd b z false)) w):CNext P ty Post Y gs w t sl i:=by
 have hlt:i<gs.size:=(Array.getElem?_eq_some_iff.1 hi).1
 subst hch
 obtain ⟨sn,rc,hc⟩:=h.wld.chan j kd (by rw [hl];simp) hk
 rw [show decide (1<=kd.st)=true from decide_eq_true h1] at hc
 have hp:partners (gs.setIfInBounds i ph) kd.ch true=[]:=partners_nil fun q x hx=>by
  rcases getElem?_stand gs i q x hx with ⟨_,rfl⟩ | ⟨hq,hx⟩
  · exact offersAt_ph _ _
  · by_cases e:offersAt x kd.ch true=[]
    · exact e
    · obtain ⟨g0,k,v,z',rest,o',_,e1,_,e2,e3,_⟩:=(h.sit q x hx).send_of e
      have hql:=(Array.getElem?_eq_some_iff.1 hx).1
      have hq0:0<q:=by
       rcases Nat.eq_zero_or_pos q with e | e
       · subst e;have:=h.str.kid0;unfold kf at this;rw [e2] at this;cases this
       · exact e
      obtain ⟨p',m',hl'⟩:=h.str.linked hql hq0 (show kf Y.S q=some k from e2) (by omega)
      have:=h.str.ch q j k kd (by rw [hl'];simp) (by rw [hl];simp) e2 hk e1
      subst this
      rw [hk] at e2;cases e2
      omega
 have hr:=crowd_recv_closed (sl:=sl) hi hst hc hp
 rw [zahb,finishComm_recv] at hr
 have hrun:=zabv hW.core
 obtain ⟨_,_,f0,kd0,seen0,e1,e2,hks,_,_⟩:=h.str.lnk j i m hl
 have e1:(Y.S i).fk=some f0:=e1
 have e2:(Y.S j).kid=some kd0:=e2
 rw [hf] at e1;cases e1;rw [hk] at e2;cases e2
 have hkl:=(List.getElem?_eq_some_iff.1 hks).1
 have hS:∀q,Same (Y.S q) (upd Y.S i { Y.S i with fk:=some { f with kids:=f.kids.set m (kd.ch,[],true) } } q):=fun q=>by
  by_cases e:q=i
  · subst e
    rw [upd_same]
    refine ⟨rfl,rfl,(Same.refl _).kid,.inr ⟨f,_,hf,rfl,rfl,rfl,fun b=>?_⟩⟩
    constructor
    · rintro ⟨x,hx,rfl⟩
      rcases List.mem_or_eq_of_mem_set hx with hx | rfl
      · exact ⟨x,hx,rfl⟩
      · exact ⟨_,List.mem_of_getElem? hks,rfl⟩
    · rintro ⟨x,hx,rfl⟩
      obtain ⟨q,hq⟩:=List.getElem?_of_mem hx
      by_cases e:q=m
      · subst e;rw [hks] at hq;cases hq
        exact ⟨_,List.mem_set hkl _,rfl⟩
      · exact ⟨x,List.mem_of_getElem? (i:=q) (by rw [List.getElem?_set_ne (Ne.symm e)];exact hq),rfl⟩
  · rw [upd_ne _ _ e];exact .refl _
 refine ⟨⟨upd Y.S i { Y.S i with fk:=some { f with kids:=f.kids.set m (kd.ch,[],true) } },upd Y.o i o1,Y.lk,Y.rel⟩,_,_,_,hr,h.comm (by simp) hS ?_ ?_ rfl ?_ (fun q x hx=>?_) (fun p f' hp hf' hcl=>?_) (fun p x c' hx hne=>?_) (fun p x f' hx hs hn hf'=>?_),.inl (.single ?_)⟩
 · rw [kf_upd,ff_upd,zabf (kf Y.S) i (x:=(Y.S i).kid) rfl];exact h.str.seen hl hk h1 hf
 · rw [kf_upd,ff_upd,zabf (kf Y.S) i (x:=(Y.S i).kid) rfl];exact h.wld.seen hf _
 · intro op hop;simp at hop;subst hop;exact ⟨hlt,rfl,by simp⟩
 · show Sit P ty Post (q == 0) (upd Y.S i _ q) (upd Y.o i o1 q) _ _ _
   rcases zacp hx with ⟨rfl,rfl⟩ | ⟨hq,hx⟩
   · rw [upd_same,upd_same];exact .run _ hrun.1 (by rw [hW.core];exact hW) h7
   · rw [upd_ne _ _ hq,upd_ne _ _ hq];exact h.sit q x hx
 · by_cases e:p=i
   · subst e;rw [upd_same] at hf';cases hf';simp only [ht] at hcl;exact hcl.elim
   · rw [upd_ne _ _ e] at hf';exact h.seen p f' hp hf' hcl
 · rcases zacp hx with ⟨rfl,rfl⟩ | ⟨hpi,hx⟩
   · exact absurd (offersAt_of_not_blocked (by rw [hrun.1];simp) _ _) hne
   · obtain ⟨m1,m2⟩:=h.meet p x c' hx hne
     refine ⟨m1,fun j y hy=>?_⟩
     rcases zacp hy with ⟨rfl,rfl⟩ | ⟨hji,hy⟩
     · exact offersAt_of_not_blocked (by rw [hrun.1];simp) _ _
     · exact m2 j y hy
 · rcases zacp hx with ⟨rfl,rfl⟩ | ⟨hpi,hx⟩
   · rw [hrun.1] at hs;cases hs
   · rw [upd_ne _ _ hpi] at hf';exact h.semz p x f' hx hs hn hf'
 · simp only [Array.size_setIfInBounds]
   exact zadh hlt ho
end
end Go.Co
namespace Go.Co
open Go Go.Conc
open Go.ConcN (sumTo upd upd_same upd_ne)
open Go.ConcR (KK wgBlock WgAt stA smA rd wr mk)
section
variable {P:Program} {ty:TypeId} {Post:Value->World->Prop} {Y:Sys} {gs gs':Array Goroutine} {w w':World} {t u:Trace} {i:Nat} {sl:Option (Nat×Nat)} {g g':Goroutine} {es:Array Event} {o1:Rk} {s':LG} {S':Nat->LG} {o':Nat->Rk}
theorem zank (h:Inv P ty Post Y gs w t) {j p m:Nat} (hl:Y.lk j=some (p,m)) {k:Kid} (hk:(Y.S j).kid=some k) (h0:k.st=0) {f:Fk} (hf:(Y.S p).fk=some f) (ht:f.tag = .idle) {rest:List Value}
 {sn rc:Nat} (hc:w.heap[k.ch]?=some (.chan 0 #[] false sn rc false)) {oj op:Rk} {xj xp:Goroutine} (Wj:W P ty Post oj (j == 0) { Y.S j with kid:=some { k with out:=rest } } xj w)
 (Wp:W P ty Post op (p == 0) { Y.S p with fk:=some { f with kids:=f.kids.set m (k.ch,rest,false) } } xp w) (h7:∀k,(Y.S p).kid=some k->k.st≠7) (hs:gs'.size=gs.size) (hgj:gs'[j]?=some xj) (hgp:gs'[p]?=some xp) (hgo:∀q,q≠j->q≠p->gs'[q]?=gs[q]?)
 (d sn' rc':Nat) (hu:∀op∈u,Still gs.size op) :
 Inv P ty Post ⟨upd (upd Y.S j { Y.S j with kid:=some { k with out:=rest } }) p { Y.S p with fk:=some { f with kids:=f.kids.set m (k.ch,rest,false) } },upd (upd Y.o j oj) p op,Y.lk,Y.rel⟩ gs' ((w.at d).setChan k.ch 0 #[] false sn' rc' false) (t++u):=by
 obtain ⟨hpj,hjn,f0,kd0,seen0,e1,e2,hks,_,_⟩:=h.str.lnk j p m hl
 have e1:(Y.S p).fk=some f0:=e1
 have e2:(Y.S j).kid=some kd0:=e2
 rw [hf] at e1;cases e1;rw [hk] at e2;cases e2
 have hkl:=(List.getElem?_eq_some_iff.1 hks).1
 have hne:p≠j:=by omega
 have hpn:p<gs.size:=by omega
 have hrj:=zabv Wj.core
 have hrp:=zabv Wp.core
 have hsy:(Y.S j).sy k.ch:=.inl ⟨k,hk,.inr rfl⟩
 have hc':(w.at d).heap[k.ch]?=some (.chan 0 #[] false sn rc false):=hc
 have rl:∀q,q<gs.size->Rely ty (Y.S q) w ((w.at d).setChan k.ch 0 #[] false sn' rc' false):=fun q hq=>(Rely.at _ w d).trans (.of_chan h.ok hjn hsy hc' false sn' rc' hq)
 have hS:∀q,Same (Y.S q) (upd (upd Y.S j { Y.S j with kid:=some { k with out:=rest } }) p { Y.S p with fk:=some { f with kids:=f.kids.set m (k.ch,rest,false) } } q):=fun q=>by
  by_cases e:q=p
  · subst e
    rw [upd_same]
    refine ⟨rfl,rfl,(Same.refl _).kid,.inr ⟨f,_,hf,rfl,rfl,rfl,fun b=>?_⟩⟩
    constructor
    · rintro ⟨x,hx,rfl⟩
      rcases List.mem_or_eq_of_mem_set hx with hx | rfl
      · exact ⟨x,hx,rfl⟩
      · exact ⟨_,List.mem_of_getElem? hks,rfl⟩
    · rintro ⟨x,hx,rfl⟩
      obtain ⟨q,hq⟩:=List.getElem?_of_mem hx
      by_cases e:q=m
      · subst e;rw [hks] at hq;cases hq
        exact ⟨_,List.mem_set hkl _,rfl⟩
      · exact ⟨x,List.mem_of_getElem? (i:=q) (by rw [List.getElem?_set_ne (Ne.symm e)];exact hq),rfl⟩
  · rw [upd_ne _ _ e]
    by_cases e:q=j
    · subst e
      rw [upd_same]
      exact ⟨rfl,rfl,.inr ⟨k,_,hk,rfl,rfl,rfl,rfl⟩,(Same.refl _).fk⟩
    · rw [upd_ne _ _ e];exact .refl _
 have ekf:kf (upd (upd Y.S j { Y.S j with kid:=some { k with out:=rest } }) p { Y.S p with fk:=some { f with kids:=f.kids.set m (k.ch,rest,false) } })=upd (kf Y.S) j (some { k with out:=rest }):=by
  rw [kf_upd,kf_upd,zabf _ p]
  show (Y.S p).kid=upd (kf Y.S) j _ p
  rw [upd_ne _ _ hne];rfl
 have eff:ff (upd (upd Y.S j { Y.S j with kid:=some { k with out:=rest } }) p { Y.S p with fk:=some { f with kids:=f.kids.set m (k.ch,rest,false) } })=upd (ff Y.S) p (some { f with kids:=f.kids.set m (k.ch,rest,false) }):=by
  rw [ff_upd,ff_upd,zabf (ff Y.S) j (x:=(Y.S j).fk) rfl]
 have get:∀{q:Nat} {x:Goroutine},gs'[q]?=some x->x.status = .running\/(q≠j/\q≠p/\gs[q]?=some x):=fun {q x} hx=>by
  by_cases e:q=j
  · subst e;rw [hgj] at hx;cases hx;exact .inl hrj.1
  · by_cases e':q=p
    · subst e';rw [hgp] at hx;cases hx;exact .inl hrp.1
    · rw [hgo q e e'] at hx;exact .inr ⟨e,e',hx⟩
 have noff:∀{x:Goroutine} {c:Nat} {b:Bool},x.status = .running->offersAt x c b=[]:=fun hx=>offersAt_of_not_blocked (by rw [hx];simp) _ _
 refine h.comm hs hS ?_ ?_ (by rw [zacw];rfl) hu (fun q x hx=>?_) (fun q f' hq hf' hcl=>?_) (fun q x c hx ho=>?_) (fun q x f' hx hst hn hf'=>?_)
 · rw [ekf,eff];exact h.str.moved hl hk h0 hf rest
 · rw [ekf,eff];exact Wld.moved (w:=w.at d) ⟨h.wld.chan,h.wld.wg⟩ h.str hl hk h0 hf rest hc' sn' rc'
 · have hq:q<gs.size:=by rw [<- hs];exact (Array.getElem?_eq_some_iff.1 hx).1
   by_cases e':q=p
   · subst e'
     rw [hgp] at hx;cases hx
     rw [upd_same,upd_same]
     exact .run _ hrp.1 (by rw [Wp.core];exact Wp.rely ((rl q hq).fkKids hf _ f.tag)) h7
   · rw [upd_ne _ _ e',upd_ne _ _ e']
     by_cases e:q=j
     · subst e
       rw [hgj] at hx;cases hx
       rw [upd_same,upd_same]
       exact .run _ hrj.1 (by rw [Wj.core];exact Wj.rely ((rl q hq).kidOut hk rest k.st)) (fun k' e=>by cases e;simp [h0])
     · rw [hgo q e e'] at hx
       rw [upd_ne _ _ e,upd_ne _ _ e]
       exact (h.sit q x hx).rely (rl q hq)
 · by_cases e:q=p
   · subst e;rw [upd_same] at hf';cases hf';simp only [ht] at hcl;exact hcl.elim
   · rw [upd_ne _ _ e] at hf'
     by_cases e2:q=j
     · subst e2;rw [upd_same] at hf';exact h.seen q f' hq hf' hcl
     · rw [upd_ne _ _ e2] at hf';exact h.seen q f' hq hf' hcl
 · rcases get hx with hr | ⟨_,_,hx⟩
   · exact absurd (noff hr) ho
   · obtain ⟨⟨s1,r1,m1⟩,m2⟩:=h.meet q x c hx ho
     refine ⟨?_,fun a y hy=>?_⟩
     · by_cases e:c=k.ch
       · subst e;exact ⟨sn',rc',zaes hc' _ _ _ _ _ _⟩
       · exact ⟨s1,r1,by rw [zaa1 e];exact m1⟩
     · rcases get hy with hr | ⟨_,_,hy⟩
       · exact noff hr
       · exact m2 a y hy
 · rcases get hx with hr | ⟨e,e',hx⟩
   · rw [hr] at hst;cases hst
   · rw [upd_ne _ _ e',upd_ne _ _ e] at hf'
     obtain ⟨st,h2⟩:=h.semz q x f' hx hst hn hf'
     exact ⟨st,by unfold WgAt;rw [zaa1 (fun e5=>zabs hc h2 e5.symm)];exact h2⟩
theorem zajt {g g0:Goroutine} {a b:Array CommCase} {c d:CommShape} (h:parked g a c=parked g0 b d):a=b/\c=d/\∀v,Conc.served g v=Conc.served g0 v:=by
 obtain ⟨g1,g2,g3,g4,g5⟩:=g
 obtain ⟨h1,h2,h3,h4,h5⟩:=g0
 simp only [parked,Goroutine.mk.injEq,Option.some.injEq,Prod.mk.injEq,true_and] at h
 obtain ⟨rfl,rfl,rfl,rfl,rfl⟩:=h
 exact ⟨rfl,rfl,fun _=>rfl⟩
theorem zape {o:Nat->Rk} {n i j:Nat} (hi:i<n) (hj:j<n) (hne:j≠i) {x y:Rk} (hx:Rk.lt x (o i)) (hy:Rk.lt y (o j)):Relation.TransGen (Less Rk.lt) (bag (upd (upd o i x) j y) n) (bag o n):=
 .tail (.single (zadh hj (by rw [upd_ne _ _ hne];exact hy))) (zadh hi hx)
theorem zap6 (h:Inv P ty Post Y gs w t) (hi:gs[i]?=some g) (hrun:g.status = .running) (hW:W P ty Post (Y.o i) (i == 0) (Y.S i) (core g) w) {k:Kid} {v z:Value} {rest:List Value} (hst:stepG P (i == 0) g w = .comm (core g) #[scase k.ch v z] true .send w #[])
 (hk:(Y.S i).kid=some k) (h0:k.st=0) (hout:k.out=v::rest) (hF:(Y.S i).fk=none) (ho:Rk.lt o1 (Y.o i)) (hW':W P ty Post o1 (i == 0) { Y.S i with kid:=some { k with out:=rest } } (Conc.served (core g) undef) w):CNext P ty Post Y gs w t sl i:=by
 have hlt:i<gs.size:=(Array.getElem?_eq_some_iff.1 hi).1
 have hi0:0<i:=by
  rcases Nat.eq_zero_or_pos i with e | e
  · subst e;have:=h.str.kid0;unfold kf at this;rw [hk] at this;cases this
  · exact e
 obtain ⟨p,m,hl⟩:=h.str.linked hlt hi0 (show kf Y.S i=some k from hk) (by omega)
 obtain ⟨sn,rc,hc⟩:=h.wld.chan i k (by rw [hl];simp) hk
 rw [show decide (1<=k.st)=false from decide_eq_false (by omega)] at hc
 by_cases hp:partners (gs.setIfInBounds i ph) k.ch false=[]
 · exact zaig h hi hrun hW hst hk h0 hout hF ho hW' hc hp
 · have look:∀{j:Nat} {x:Goroutine},j≠i->gs[j]?=some x->offersAt x k.ch false≠[]->∃g0 f b z' o',x=parked g0 #[rcase k.ch z'] (.recv b)/\(Y.S j).fk=some f/\f.tag = .idle/\j=p/\Rk.lt o' (Y.o j) /\
    W P ty Post o' (j == 0) { Y.S j with fk:=some { f with kids:=f.kids.set m (k.ch,rest,false) } } (Conc.served g0 (recvd b v true)) w/\∀k,(Y.S j).kid=some k->k.st≠7:=fun {j x} hji hx hne=>by
    obtain ⟨g0,f,m',rem,b,z',e1,e2,e3,e4,e5,e6,e7⟩:=(h.sit j x hx).recv_of hne
    have hjl:=(Array.getElem?_eq_some_iff.1 hx).1
    obtain ⟨i',hl'⟩:=h.str.lnk' j f m' hjl e3 (List.getElem?_eq_some_iff.1 e5).1
    obtain ⟨_,_,f0,kd0,seen0,g1,g2,g3,_,_⟩:=h.str.lnk i' j m' hl'
    have g1:(Y.S j).fk=some f0:=g1
    have g2:(Y.S i').kid=some kd0:=g2
    rw [e3] at g1;cases g1
    rw [e5] at g3
    simp only [Option.some.injEq,Prod.mk.injEq] at g3
    have:=h.str.ch i' i kd0 k (by rw [hl'];simp) (by rw [hl];simp) g2 hk g3.1.symm
    subst this
    rw [hk] at g2;cases g2
    rw [hl] at hl';cases hl'
    rw [hout] at g3
    obtain ⟨o',e8,e9⟩:=e6 v rest g3.2.1
    exact ⟨g0,f,b,z',o',e1,e3,e4,rfl,e8,e9,e7⟩
   obtain ⟨j,gj,zj,shj,d,hji,hj,hr⟩:=crowd_send_meets_some (sl:=sl) hi hst hc hp (fun j q hq=>by
    obtain ⟨x,hx,hq⟩:=mem_partners.1 hq
    rcases getElem?_stand gs i j x hx with ⟨_,rfl⟩ | ⟨hji,hx⟩
    · rw [offersAt_ph] at hq;cases hq
    · obtain ⟨g0,f,b,z',o',rfl,_⟩:=look hji hx (fun e=>by rw [e] at hq;cases hq)
      rw [offersAt_parked_recv,if_pos rfl] at hq
      exact ⟨by simpa using hq,hji,g0,z',_,hx⟩)
   obtain ⟨g0,f,b,z',o',e1,e2,e3,rfl,e4,e5,e6⟩:=look hji hj (by rw [offersAt_parked_recv,if_pos rfl];simp)
   obtain ⟨q1,q2,q3⟩:=zajt e1
   subst q2
   rw [zahb,finishComm_recv,finishComm_send,q3] at hr
   have hjl:=(Array.getElem?_eq_some_iff.1 hj).1
   refine ⟨_,_,_,_,hr,zank h hl hk h0 e2 e3 hc hW' e5 e6 (by simp) ?_ ?_ ?_ d _ _ ?_,.inl ?_⟩
   · rw [Array.getElem?_setIfInBounds_self_of_lt (by simpa using hlt)]
   · rw [Array.getElem?_setIfInBounds_ne (Ne.symm hji),Array.getElem?_setIfInBounds_self_of_lt hjl]
   · intro q h1 h2;rw [Array.getElem?_setIfInBounds_ne (Ne.symm h1),Array.getElem?_setIfInBounds_ne (Ne.symm h2)]
   · intro op hop;simp at hop;rcases hop with rfl | rfl | rfl | rfl <;> exact ⟨by assumption,rfl,by simp⟩
   · simp only [Array.size_setIfInBounds]
     exact zape hlt hjl hji ho e4
theorem zaqf (h:Inv P ty Post Y gs w t) (hi:gs[i]?=some g) (hrun:g.status = .running) (h7:∀k,(Y.S i).kid=some k->k.st≠7) (hW:W P ty Post (Y.o i) (i == 0) (Y.S i) (core g) w) {f:Fk} {m c:Nat} {rem:List Value} {b:Bool} {z:Value}
 (hst:stepG P (i == 0) g w = .comm (core g) #[rcase c z] true (.recv b) w #[]) (hf:(Y.S i).fk=some f) (ht:f.tag = .idle) (hm:f.kids[m]?=some (c,rem,false)) (ho:Rk.lt o1 (Y.o i))
 (hn:∀v rest,rem=v::rest->W P ty Post o1 (i == 0) { Y.S i with fk:=some { f with kids:=f.kids.set m (c,rest,false) } } (Conc.served (core g) (recvd b v true)) w)
 (he:rem=[]->W P ty Post o1 (i == 0) { Y.S i with fk:=some { f with kids:=f.kids.set m (c,[],true) } } (Conc.served (core g) (recvd b z false)) w):CNext P ty Post Y gs w t sl i:=by
 have hlt:i<gs.size:=(Array.getElem?_eq_some_iff.1 hi).1
 obtain ⟨j,hl⟩:=h.str.lnk' i f m hlt hf (List.getElem?_eq_some_iff.1 hm).1
 obtain ⟨hij,hjl,f0,k,seen0,g1,g2,g3,_,_⟩:=h.str.lnk j i m hl
 have g1:(Y.S i).fk=some f0:=g1
 have hk:(Y.S j).kid=some k:=g2
 rw [hf] at g1;cases g1
 rw [hm] at g3
 simp only [Option.some.injEq,Prod.mk.injEq] at g3
 obtain ⟨rfl,rfl,_⟩:=g3
 by_cases h1:1<=k.st
 · exact zajh h hi h7 hst hf ht hl hk rfl h1 ho (he (h.str.out j k hjl hk h1))
 · have h0:k.st=0:=by omega
   obtain ⟨sn,rc,hc⟩:=h.wld.chan j k (by rw [hl];simp) hk
   rw [show decide (1<=k.st)=false from decide_eq_false h1] at hc
   by_cases hp:partners (gs.setIfInBounds i ph) k.ch true=[]
   · exact zahy h hi hrun h7 hW hst hf ht hm (fun v rest e=>⟨o1,ho,hn v rest e⟩) hc hp
   · have look:∀{q:Nat} {x:Goroutine},gs[q]?=some x->offersAt x k.ch true≠[]->∃g0 v z' rest o',x=parked g0 #[scase k.ch v z'] .send/\q=j/\k.out=v::rest/\Rk.lt o' (Y.o q) /\
      W P ty Post o' (q == 0) { Y.S q with kid:=some { k with out:=rest } } (Conc.served g0 undef) w:=fun {q x} hx hne=>by
      obtain ⟨g0,k',v,z',rest,o',e1,e2,_,e3,e4,e5,_,e6,e7⟩:=(h.sit q x hx).send_of hne
      have hql:=(Array.getElem?_eq_some_iff.1 hx).1
      have hq0:0<q:=by
       rcases Nat.eq_zero_or_pos q with e | e
       · subst e;have:=h.str.kid0;unfold kf at this;rw [e3] at this;cases this
       · exact e
      obtain ⟨p',m',hl'⟩:=h.str.linked hql hq0 (show kf Y.S q=some k' from e3) (by omega)
      have:=h.str.ch q j k' k (by rw [hl'];simp) (by rw [hl];simp) e3 hk e2
      subst this
      rw [hk] at e3;cases e3
      exact ⟨g0,v,z',rest,o',e1,rfl,e5,e6,e7⟩
     obtain ⟨q,gq,vq,zq,shq,d,hqi,hq,hr⟩:=crowd_recv_meets_some (sl:=sl) hi hst hc hp (fun q a ha=>by
      obtain ⟨x,hx,ha⟩:=mem_partners.1 ha
      rcases getElem?_stand gs i q x hx with ⟨_,rfl⟩ | ⟨hqi,hx⟩
      · rw [offersAt_ph] at ha;cases ha
      · obtain ⟨g0,v,z',rest,o',rfl,_⟩:=look hx (fun e=>by rw [e] at ha;cases ha)
        rw [offersAt_parked_send,if_pos rfl] at ha
        exact ⟨by simpa using ha,hqi,g0,v,z',_,hx⟩)
     obtain ⟨g0,v,z',rest,o',e1,rfl,e3,e4,e5⟩:=look hq (by rw [offersAt_parked_send,if_pos rfl];simp)
     obtain ⟨q1,q2,q3⟩:=zajt e1
     have qv:vq=v:=by
      have:=congrArg (fun a:Array CommCase=>(a[0]?).bind (·.send)) q1
      simpa [scase] using this
     subst q2 qv
     rw [zahb,finishComm_recv,finishComm_send,q3] at hr
     have hnv:=hn vq rest e3
     refine ⟨_,_,_,_,hr,zank h hl hk h0 hf ht hc e5 hnv h7 (by simp) ?_ ?_ ?_ d _ _ ?_,.inl ?_⟩
     · rw [Array.getElem?_setIfInBounds_ne (Ne.symm hqi),Array.getElem?_setIfInBounds_self_of_lt hjl]
     · rw [Array.getElem?_setIfInBounds_self_of_lt (by simpa using hlt)]
     · intro a h1 h2;rw [Array.getElem?_setIfInBounds_ne (Ne.symm h2),Array.getElem?_setIfInBounds_ne (Ne.symm h1)]
     · intro op hop;simp at hop;rcases hop with rfl | rfl | rfl | rfl <;> exact ⟨by assumption,rfl,by simp⟩
     · simp only [Array.size_setIfInBounds]
       exact zape hjl hlt (Ne.symm hqi) e4 ho
end
end Go.Co
namespace Go.Co
open Go Go.Conc
open Go.ConcN (sumTo upd upd_same upd_ne)
open Go.ConcR (KK wgBlock WgAt stA smA rd wr mk)
section
variable {P:Program} {ty:TypeId} {Post:Value->World->Prop} {Y:Sys} {gs gs':Array Goroutine} {w w':World} {t u:Trace} {i:Nat} {sl:Option (Nat×Nat)} {g g':Goroutine} {es:Array Event} {o1 o2:Rk} {s':LG} {S':Nat->LG} {o':Nat->Rk}
theorem zasi {gs:Array Goroutine} {j:Nat} {x y:Goroutine} (h:(gs.push x)[j]?=some y):(j=gs.size/\y=x)\/(j<gs.size/\gs[j]?=some y):=by
 rw [Array.getElem?_push] at h
 split at h
 · cases h;exact .inl ⟨by assumption,rfl⟩
 · exact .inr ⟨(Array.getElem?_eq_some_iff.1 h).1,h⟩
theorem zanx (h:Inv P ty Post Y gs w t) (hi:gs[i]?=some g) (h7:∀k,(Y.S i).kid=some k->k.st≠7) (ho:Rk.lt o1 (Y.o i)) (ho2:Rk.lt o2 (Y.o i)) {wg c:Nat} {kids:List (Nat×List Value×Bool)} {L:List Value} {s' sc:LG} {g' child:Goroutine}
 (hst:stepG P (i == 0) g w = .spawn g' child w #[]) (hf:(Y.S i).fk=some ⟨wg,kids,.pend⟩) (hlen:kids.length<1000000) (hoc:(Y.S i).own c) (hc:w.heap[c]?=some (.chan 0 #[] false 0 0 false)) (hkid:s'.kid=(Y.S i).kid) (hfk:s'.fk=some ⟨wg,kids++[(c,L,false)],.idle⟩)
 (own':∀b,s'.own b->(Y.S i).own b/\b≠c) (ro':∀b,s'.ro b->((Y.S i).ro b\/(Y.S i).own b)/\b≠c) (apart:(∀b,(Y.S i).own b->¬ (Y.S i).ro b)->∀b,s'.own b->¬ s'.ro b) (sco:∀b,¬ sc.own b) (scr:∀b,sc.ro b->s'.ro b) (sck:sc.kid=some ⟨c,wg,L,0⟩) (scf:sc.fk=none)
 (hW:W P ty Post o1 (i == 0) s' g' w) (hWc:W P ty Post o2 false sc child w):CNext P ty Post Y gs w t sl i:=by
 have hlt:i<gs.size:=(Array.getElem?_eq_some_iff.1 hi).1
 have hw:=work0 h hlt hf
 have hd0:Deaf t i=0:=by rw [h.deaf i hlt (by omega),hw.2];rfl
 have hrun:=zabv hW.core
 have hrc:=zabv hWc.core
 have hout:=h.out gs.size (Nat.le_refl _)
 have hln:Y.lk gs.size=none:=by
  cases e:Y.lk gs.size with
  | none=>rfl
  | some x=>have:=(h.str.lnk gs.size x.1 x.2 e).2.1;omega
 have hne:i≠gs.size:=by omega
 have T:Turn w.heap.size w.heap.size (Y.S i) s':=by
  refine ⟨fun b hb=>.inl (own' b hb).1,fun b hb=>(ro' b hb).1.imp id .inl,apart (fun b h1 h2=>h.ok.ownRo i i b ⟨hlt,h1⟩ ⟨hlt,h2⟩),fun b hb=>?_,fun b hb=>?_⟩
  · rcases hb with hb | ⟨f',e,hb⟩
    · rw [hkid] at hb;exact .inl (.inl hb)
    · rw [hfk] at e;cases e
      rcases hb with rfl | ⟨x,hx,rfl⟩
      · exact .inl (sy_fk (f:=⟨_,kids,.pend⟩) hf)
      · rcases List.mem_append.1 hx with hx | hx
        · exact .inl (.inr ⟨_,hf,.inr ⟨x,hx,rfl⟩⟩)
        · simp at hx;subst hx
          exact .inr ⟨hoc,fun e=>(own' c e).2 rfl,fun e=>(ro' c e).2 rfl⟩
  · obtain ⟨f',e,rfl⟩:=hb
    rw [hfk] at e;cases e
    exact .inl ⟨_,hf,rfl⟩
 have hr:=runT_crowd_spawn (sl:=sl) hi hst
 have eu:((MemOp.ofEvents i g.frame.fn g.frame.place #[]).push { g:=i,fn:=g.frame.fn,pos:=g.frame.place,act:=.go gs.size } |>.push { g:=gs.size,fn:=child.frame.fn,pos:=g.frame.place,act:=.start }) =
  #[({ g:=i,fn:=g.frame.fn,pos:=g.frame.place,act:=.go gs.size }:MemOp),{ g:=gs.size,fn:=child.frame.fn,pos:=g.frame.place,act:=.start }]:=by rw [zahb];rfl
 rw [eu] at hr
 have hu:∀op ∈ #[({ g:=i,fn:=g.frame.fn,pos:=g.frame.place,act:=.go gs.size }:MemOp),{ g:=gs.size,fn:=child.frame.fn,pos:=g.frame.place,act:=.start }],Still (gs.size+1) op:=by
  intro op hop
  simp at hop
  rcases hop with rfl | rfl
  · exact ⟨by show i<_;omega,rfl,by simp⟩
  · exact ⟨by show gs.size<_;omega,rfl,by simp⟩
 have hsz:((gs.setIfInBounds i g').push child).size=gs.size+1:=by simp
 have hsz1:(gs.setIfInBounds i g').size=gs.size:=by simp
 have Si:upd (upd Y.S i s') gs.size sc i=s':=by rw [upd_ne _ _ hne,upd_same]
 have Sn:upd (upd Y.S i s') gs.size sc gs.size=sc:=upd_same _ _ _
 have So:∀{j:Nat},j≠i->j≠gs.size->upd (upd Y.S i s') gs.size sc j=Y.S j:=fun h1 h2=>by rw [upd_ne _ _ h2,upd_ne _ _ h1]
 have Sk:∀{j:Nat},j≠gs.size->(upd (upd Y.S i s') gs.size sc j).kid=(Y.S j).kid:=fun {j} h2=>by rw [upd_ne _ _ h2,zai1 hkid]
 have scs:∀b,sc.sy b->(upd Y.S i s' i).sy b:=fun b hb=>by
  rw [upd_same]
  rcases hb with ⟨k,e,hb⟩ | ⟨f,e,_⟩
  · rw [sck] at e;cases e
    rcases hb with rfl | rfl
    · exact sy_fk (f:=⟨wg,_,_⟩) hfk
    · exact .inr ⟨_,hfk,.inr ⟨(c,L,false),by simp,rfl⟩⟩
  · rw [scf] at e;cases e
 have ekf:kf (upd (upd Y.S i s') gs.size sc)=upd (kf Y.S) gs.size (some ⟨c,wg,L,0⟩):=by
  rw [kf_upd,kf_upd,sck,zabf (kf Y.S) i (x:=s'.kid) hkid]
 have eff:ff (upd (upd Y.S i s') gs.size sc)=upd (ff Y.S) i (some ⟨wg,kids++[(c,L,false)],.idle⟩):=by
  rw [ff_upd,ff_upd,scf,hfk,zabf _ gs.size]
  rw [upd_ne _ _ (Ne.symm hne)];exact hout.2.symm
 have get:∀{j:Nat} {x:Goroutine},((gs.setIfInBounds i g').push child)[j]?=some x->(j=gs.size/\x=child)\/(j=i/\x=g')\/(j≠i/\j≠gs.size/\gs[j]?=some x):=fun {j x} hx=>by
  rcases zasi hx with ⟨h1,h2⟩ | ⟨h1,h2⟩
  · exact .inl ⟨by rw [h1];exact hsz1,h2⟩
  · rcases zacp h2 with h3 | ⟨h3,h4⟩
    · exact .inr (.inl h3)
    · exact .inr (.inr ⟨h3,by rw [hsz1] at h1;omega,h4⟩)
 have noff:∀{x:Goroutine} {c:Nat} {b:Bool},x.status = .running->offersAt x c b=[]:=fun hx=>offersAt_of_not_blocked (by rw [hx];simp) _ _
 have hd0':dfn s'=0:=by
  have h2:=hw.2
  unfold dfn at h2 ⊢
  rw [hkid,hfk];rw [hf] at h2;exact h2
 have rel1:=ti_upd h.ti T (Nat.le_refl _) hlt
 have ok1:=zakv T h.bnd h.ok hlt
 have bnd1:=zao5 T h.bnd (Nat.le_refl _) hlt
 have scr':∀b,sc.ro b->(upd Y.S i s' i).ro b:=fun b hb=>by rw [upd_same];exact scr b hb
 have hstr:Str (kf (upd (upd Y.S i s') gs.size sc)) (ff (upd (upd Y.S i s') gs.size sc)) (upd Y.lk gs.size (some (i,kids.length))) (gs.size+1):=by
  rw [ekf,eff]
  refine h.str.spawned hlt (f:=⟨wg,kids,.pend⟩) hf hlen c L (fun j k a b e=>?_) hout.1 hout.2 hln .idle
  have:=zapl h a b
  exact h.ok.ownSy i j c ⟨hlt,hoc⟩ ⟨this.1,e ▸ this.2⟩
 have hwld:Wld ty (kf (upd (upd Y.S i s') gs.size sc)) (ff (upd (upd Y.S i s') gs.size sc)) (upd Y.lk gs.size (some (i,kids.length))) (gs.size+1) w:=by
  rw [ekf,eff];exact h.wld.spawned h.str hlt (f:=⟨wg,kids,.pend⟩) hf rfl c L hc hout.2 hln
 have hheld:Held (Alive (upd (upd Y.S i s') gs.size sc) (gs.size+1)) Y.rel (t ++ #[({ g:=i,fn:=g.frame.fn,pos:=g.frame.place,act:=.go gs.size }:MemOp),{ g:=gs.size,fn:=child.frame.fn,pos:=g.frame.place,act:=.start }]):=
  (zajq h.held hu).mono fun j ⟨a,b⟩=>⟨by omega,by unfold stg at b ⊢;rw [Sk (by omega)];exact b⟩
 refine ⟨⟨upd (upd Y.S i s') gs.size sc,upd (upd Y.o i o1) gs.size o2,upd Y.lk gs.size (some (i,kids.length)),Y.rel⟩,_,_,_,hr,?_,.inl (.single ?_)⟩
 · refine ⟨by rw [hsz];omega,fun j x hx=>?_,by rw [hsz];exact hstr,
    by rw [hsz];exact hwld,
    by rw [hsz];exact zaov ok1 hlt sco scr' scs scf,by rw [hsz];exact zaqi bnd1 hlt sco scr' scs,fun j hj=>?_,by rw [hsz];exact zasp rel1 hlt sco scr' scs scf ⟨rfl,rfl⟩ ⟨rfl,rfl⟩ hd0 (h.above _ (Nat.le_refl _)),
    by rw [hsz];exact hheld,fun j r e=>?_,fun j kd a b e=>?_,fun j hj h8=>?_,fun j hj=>?_,fun p f hp hf' hcl=>?_,fun p x c' hx hof=>?_,fun p x f hx hs hn hf'=>?_⟩
   · rw [zada hu]
     show Sit P ty Post (j == 0) (upd (upd Y.S i s') gs.size sc j) (upd (upd Y.o i o1) gs.size o2 j) _ _ _
     rcases get hx with ⟨rfl,rfl⟩ | ⟨rfl,rfl⟩ | ⟨h1,h2,h3⟩
     · rw [Sn,upd_same,show (gs.size == 0)=false from beq_eq_false_iff_ne.2 (Nat.ne_of_gt h.pos)]
       exact .run _ hrc.1 (by rw [hWc.core];exact hWc) (fun k e=>by rw [sck] at e;cases e;simp)
     · rw [Si,upd_ne _ _ hne,upd_same]
       exact .run _ hrun.1 (by rw [hW.core];exact hW) (by rw [hkid];exact h7)
     · rw [So h1 h2,upd_ne _ _ h2,upd_ne _ _ h1];exact h.sit j x h3
   · rw [hsz] at hj
     show (upd (upd Y.S i s') gs.size sc j).kid=none/\(upd (upd Y.S i s') gs.size sc j).fk=none
     rw [So (by omega) (by omega)];exact h.out j (by omega)
   · obtain ⟨kd,h1,h2,h3⟩:=h.rel j r e
     have hj:j≠gs.size:=fun e=>by subst e;exact h2 hln
     exact ⟨kd,by show (upd (upd Y.S i s') gs.size sc j).kid=_;rw [Sk hj];exact h1,by show upd Y.lk _ _ j≠none;rw [upd_ne _ _ hj];exact h2,h3.app _⟩
   · have b:(upd (upd Y.S i s') gs.size sc j).kid=some kd:=b
     have a:upd Y.lk gs.size (some (i,kids.length)) j≠none:=a
     by_cases hj:j=gs.size
     · subst hj;rw [Sn,sck] at b;cases b;simp at e
     · rw [Sk hj] at b;rw [upd_ne _ _ hj] at a;exact h.rel' j kd a b e
   · rw [hsz] at hj
     rw [zada hu]
     show Deaf t j=dfn (upd (upd Y.S i s') gs.size sc j)
     have h8:stg (upd (upd Y.S i s') gs.size sc) j≠7:=h8
     by_cases h1:j=gs.size
     · subst h1;rw [Sn,h.above _ (Nat.le_refl _)];simp [dfn,sck,scf]
     · by_cases h2:j=i
       · subst h2;rw [Si,hd0',hd0]
       · rw [So h2 h1];exact h.deaf j (by omega) (by unfold stg at h8 ⊢;rw [Sk h1] at h8;exact h8)
   · rw [hsz] at hj;rw [zada hu];exact h.above j (by omega)
   · rw [hsz] at hp
     have hf':(upd (upd Y.S i s') gs.size sc p).fk=some f:=hf'
     by_cases h1:p=gs.size
     · subst h1;rw [Sn,scf] at hf';cases hf'
     · by_cases h2:p=i
       · subst h2;rw [Si,hfk] at hf';cases hf';exact hcl.elim
       · rw [So h2 h1] at hf';exact h.seen p f (by omega) hf' hcl
   · rcases get hx with ⟨rfl,rfl⟩ | ⟨rfl,rfl⟩ | ⟨h1,h2,h3⟩
     · exact absurd (noff hrc.1) hof
     · exact absurd (noff hrun.1) hof
     · obtain ⟨m1,m2⟩:=h.meet p x c' h3 hof
       refine ⟨m1,fun j y hy=>?_⟩
       rcases get hy with ⟨_,rfl⟩ | ⟨_,rfl⟩ | ⟨_,_,h3⟩
       · exact noff hrc.1
       · exact noff hrun.1
       · exact m2 j y h3
   · rcases get hx with ⟨rfl,rfl⟩ | ⟨rfl,rfl⟩ | ⟨h1,h2,h3⟩
     · rw [hrc.1] at hs;cases hs
     · rw [hrun.1] at hs;cases hs
     · have hf':(upd (upd Y.S i s') gs.size sc p).fk=some f:=hf'
       rw [So h1 h2] at hf';exact h.semz p x f h3 hs hn hf'
 · rw [hsz]
   exact zasn hlt ho ho2
theorem Inv.at (h:Inv P ty Post Y gs w t) (d:Nat):Inv P ty Post Y gs (w.at d) t:=
 { h with sit:=fun i g hg=>(h.sit i g hg).rely (.at _ w d),wld:=⟨h.wld.chan,h.wld.wg⟩ }
def Waits (Y:Sys) (gs:Array Goroutine) (p:Nat):Prop:=∃g f,gs[p]?=some g/\(Y.S p).fk=some f/\g.status = .blocked
theorem zasc (h:Inv P ty Post Y gs w t) (hn:∀(i:Nat) (g:Goroutine),gs[i]?=some g->g.status≠.running):∀m p,gs.size<=p+m->¬ Waits Y gs p:=by
 intro m
 induction m with
 | zero=>rintro p hp ⟨g,f,hg,_⟩;have:=(Array.getElem?_eq_some_iff.1 hg).1;omega
 | succ m ih=>
  rintro p hp ⟨g,f,hg,hf,hb⟩
  have hpl:=(Array.getElem?_eq_some_iff.1 hg).1
  have kid:∀{j:Nat} {y:Goroutine},p<j->gs[j]?=some y->(∃k v rest c,(Y.S j).kid=some k/\k.st=0/\k.out=v::rest/\k.ch=c/\offersAt y c true≠[])\/∃k,(Y.S j).kid=some k/\k.st=7:=fun {j y} hj hy=>by
   have nw:=ih j (by omega)
   cases h.sit j y hy with
   | run _ h1=>exact absurd h1 (hn j y hy)
   | send g k v z rest o' h1 h2 h3 h4 h5 h6 h7=>exact .inl ⟨k,v,rest,k.ch,h2,h3,h4,rfl,by rw [offersAt_parked_send,if_pos rfl];simp⟩
   | recv g f i c rem b z h1 h2 h3 h4 h5 h6=>exact absurd ⟨_,f,hy,h2,rfl⟩ nw
   | sem g f h1 h2 h3 h4=>exact absurd ⟨_,f,hy,h2,rfl⟩ nw
   | quit _ k q h1 h2 h3 h4 h5 h6=>exact .inr ⟨k,h2,h3⟩
  have hjs:∀{j:Nat},j<gs.size->∃y,gs[j]?=some y:=fun hj=>⟨_,Array.getElem?_eq_getElem hj⟩
  have hsit:=h.sit p g hg
  cases hsit with
  | run _ h1=>exact hn p g hg h1
  | send g k v z rest o' h1 h2 h3 h4 h5 h6 h7=>rw [hf] at h5;cases h5
  | recv g f' i c rem b z h1 h2 h3 h4 h5 h6=>
   rw [hf] at h2;cases h2
   obtain ⟨j,hl⟩:=h.str.lnk' p f i hpl hf (List.getElem?_eq_some_iff.1 h4).1
   obtain ⟨hpj,hjn,f0,k0,seen0,e1,e2,e3,_,_⟩:=h.str.lnk j p i hl
   have e1:(Y.S p).fk=some f0:=e1
   have e2:(Y.S j).kid=some k0:=e2
   rw [hf] at e1;cases e1
   rw [h4] at e3
   simp only [Option.some.injEq,Prod.mk.injEq] at e3
   obtain ⟨⟨sn,rc,hc⟩,hm⟩:=h.meet p _ c hg (by rw [offersAt_parked_recv,if_pos rfl];simp)
   obtain ⟨y,hy⟩:=hjs hjn
   rcases kid hpj hy with ⟨k,v,rest,c',a1,a2,a3,a4,a5⟩ | ⟨k,a1,a2⟩
   · rw [e2] at a1;cases a1
     rw [<- a4, <- e3.1] at a5
     exact a5 (hm j y hy)
   · rw [e2] at a1;cases a1
     obtain ⟨s1,r1,hc2⟩:=h.wld.chan j k0 (by rw [hl];simp) e2
     rw [<- e3.1,hc,a2] at hc2
     simp at hc2
  | sem g f' h1 h2 h3 h4=>
   rw [hf] at h2;cases h2
   have hg0:=zabv h1.core
   obtain ⟨st,hat⟩:=h.semz p _ f hg rfl hg0.2 hf
   obtain ⟨st',sm',gf,q1,q2,q3⟩:=h.wld.wg p f hpl hf
   have hsm:sm'=0:=by
    unfold WgAt at hat q1;rw [hat] at q1
    simp only [wgBlock,Option.some.injEq,Obj.cells.injEq,Array.mk.injEq,List.cons.injEq,Value.int.injEq,true_and,and_true] at q1
    exact q1.2.symm
   have ex:∃k,k<f.kids.length/\gf k≠7:=by
    rw [h3] at q3
    rcases q3.out with ⟨h0,_⟩ | ⟨_,_,hc,_⟩ | ⟨_,⟨L,hL,hL2,_⟩,_⟩ | ⟨_,_,_,e⟩ | ⟨h0,_⟩
    · exact h0.elim
    · refine Classical.byContradiction fun hno=>?_
      have:cnt f.kids.length gf=0:=zarz fun k hk=>by
       have:gf k=7:=Classical.byContradiction fun e=>hno ⟨k,hk,e⟩
       omega
      omega
    · exact ⟨L,hL,by omega⟩
    · omega
    · exact h0.elim
   obtain ⟨k,hk,hk7⟩:=ex
   obtain ⟨j,hl⟩:=h.str.lnk' p f k hpl hf hk
   obtain ⟨hpj,hjn,f0,k0,seen0,e1,e2,e3,_,e5⟩:=h.str.lnk j p k hl
   have e1:(Y.S p).fk=some f0:=e1
   have e2':(Y.S j).kid=some k0:=e2
   rw [hf] at e1;cases e1
   rw [q2 j k k0 hl e2] at hk7
   have hs:seen0=true:=h.seen p f hpl hf (by rw [h3];trivial) _ (List.mem_of_getElem? e3)
   have h1':=e5 hs
   obtain ⟨y,hy⟩:=hjs hjn
   rcases kid hpj hy with ⟨k,v,rest,c',a1,a2,_⟩ | ⟨k,a1,a2⟩
   · rw [e2'] at a1;cases a1;omega
   · rw [e2'] at a1;cases a1;exact hk7 a2
  | quit _ k q h1 h2 h3 h4 h5 h6=>rw [hf] at h4;cases h4
theorem Inv.runs (h:Inv P ty Post Y gs w t):∃(i:Nat) (g:Goroutine),gs[i]?=some g/\g.status = .running:=by
 refine Classical.byContradiction fun hno=>?_
 have hn:∀(i:Nat) (g:Goroutine),gs[i]?=some g->g.status≠.running:=fun i g hg hr=>hno ⟨i,g,hg,hr⟩
 have h0:=zasc h hn gs.size 0 (by omega)
 have hy:gs[0]?=some gs[0]!:=by have:=h.pos;simp [this]
 generalize gs[0]! = y at hy
 have hk0:(Y.S 0).kid=none:=h.str.kid0
 cases h.sit 0 y hy with
 | run _ h1=>exact hn 0 y hy h1
 | send g k v z rest o' h1 h2 h3 h4 h5 h6 h7=>rw [hk0] at h2;cases h2
 | recv g f i c rem b z h1 h2 h3 h4 h5 h6=>exact h0 ⟨_,f,hy,h2,rfl⟩
 | sem g f h1 h2 h3 h4=>exact h0 ⟨_,f,hy,h2,rfl⟩
 | quit _ k q h1 h2 h3 h4 h5 h6=>cases h1
theorem Inv.alone (h:Inv P ty Post Y gs w t) (hF:(Y.S 0).fk=none):∀j,0<j->j<gs.size->∃k,(Y.S j).kid=some k/\k.st=7:=by
 intro j
 induction j using Nat.strongRecOn with
 | ind j ih=>
  intro h0 hj
  obtain ⟨k,hk⟩:=h.str.kids j h0 hj
  have hk:(Y.S j).kid=some k:=hk
  refine ⟨k,hk,Classical.byContradiction fun h7=>?_⟩
  obtain ⟨p,m,hl⟩:=h.str.linked hj h0 (show kf Y.S j=some k from hk) h7
  obtain ⟨hpj,_,f,_,_,e1,_⟩:=h.str.lnk j p m hl
  have e1:(Y.S p).fk=some f:=e1
  rcases Nat.eq_zero_or_pos p with e | e
  · subst e;rw [hF] at e1;cases e1
  · obtain ⟨k',hk',h7'⟩:=ih p hpj e (by omega)
    have:=h.str.work p f k' (by omega) e1 hk'
    omega
theorem zapx {w0:World} (h:Inv P ty Post Y gs w t) (hi:gs[0]?=some g) (hF:(Y.S 0).fk=none) {v:Value} (hes:∀e∈es,EvG (Y.S 0) e) (hp:Post v w) :
 Good P Post (crowd gs w0 sl) (.done v) w (t++MemOp.ofEvents 0 g.frame.fn g.frame.place es):=by
 have hlt:0<gs.size:=h.pos
 have al:=h.alone hF
 have quits:∀(j:Nat) (x:Goroutine),0<j->gs[j]?=some x->∃q,QuitsD P q (Deaf t j) x:=fun j x h0 hx=>by
  obtain ⟨k,hk,h7⟩:=al j h0 (Array.getElem?_eq_some_iff.1 hx).1
  cases h.sit j x hx with
  | run _ _ _ h3=>exact absurd h7 (h3 k hk)
  | send g k' v z rest o' h1 h2 h3=>rw [hk] at h2;cases h2;omega
  | recv g f i c rem b z h1 h2 h3 h4 h5 h6=>exact absurd h7 (h6 k hk)
  | sem g f h1 h2 h3 h4=>exact absurd h7 (h4 k hk)
  | quit _ k q h1 h2 h3 h4 h5 h6=>exact ⟨q,h6⟩
 have ti1:=ti_own (fn:=g.frame.fn) (pos:=g.frame.place) h.ti h.ok h.bnd hlt (fun e he fn pos=>zarc hlt (hes e he) fn pos)
 have held1:Held (Alive Y.S gs.size) Y.rel (t++MemOp.ofEvents 0 g.frame.fn g.frame.place es):=h.held.app g_of (.inl ⟨hlt,by unfold stg;rw [show (Y.S 0).kid=none from h.str.kid0];exact Nat.zero_le _⟩)
 refine ⟨v,rfl,hp,ti1.nr,fun k g' hg hne hc=>?_,⟨fun x hx=>?_,rfl⟩,fun j x hx hj=>?_⟩
 · rcases held1 k hc with ⟨j,⟨hjn,hj1⟩,q,z,h1,h2,h3⟩ | ⟨j,r,h1,_⟩
   · obtain rfl:j=0:=by
      rcases Nat.eq_zero_or_pos j with e | e
      · exact e
      · obtain ⟨k,hk,h7⟩:=al j e hjn
        rw [stg_of hk] at hj1;omega
     refine ⟨q,by simp [Trace.g?,h1,h2],h3.resolve_left fun e=>?_⟩
     subst e
     apply hne
     have:(t++MemOp.ofEvents 0 g.frame.fn g.frame.place es).g? k=some 0:=by simp [Trace.g?,h1,h2]
     rw [this] at hg;cases hg;rfl
   · obtain ⟨kd,h2,h3,_⟩:=h.rel j r h1
     cases e:Y.lk j with
     | none=>exact absurd e h3
     | some x=>
      obtain ⟨hpj,hjn,f,_,_,e1,_⟩:=h.str.lnk j x.1 x.2 e
      have e1:(Y.S x.1).fk=some f:=e1
      rcases Nat.eq_zero_or_pos x.1 with e0 | e0
      · rw [e0,hF] at e1;cases e1
      · obtain ⟨k',hk',h7'⟩:=al x.1 e0 (by omega)
        have:=h.str.work x.1 f k' (by omega) e1 hk'
        omega
 · obtain ⟨j,hj⟩:=List.mem_iff_getElem?.1 hx
   rw [List.getElem?_drop] at hj
   obtain ⟨q,hq⟩:=quits (1+j) x (by omega) (by simpa [crowd] using hj)
   exact ⟨q,hq.leaves⟩
 · obtain ⟨q,hq⟩:=quits j x (by omega) hx
   refine ⟨q,?_⟩
   have e:(t++MemOp.ofEvents 0 g.frame.fn g.frame.place es).deaf j (t++MemOp.ofEvents 0 g.frame.fn g.frame.place es).size=Deaf t j:=Deaf_other t (g:=j) (g':=0) (by omega) _ g_of
   rw [e];exact hq.hears _
end
end Go.Co
namespace Go.Co
open Go Go.Conc
open Go.ConcN (sumTo upd upd_same upd_ne)
open Go.ConcR (KK wgBlock WgAt stA smA rd wr mk)
section
variable (P:Program) (ty:TypeId) (Post:Value->World->Prop)
def CInv (μ:List Rk×Nat) (m:Machine) (t:Trace):Prop:=
 ∃(Y:Sys) (gs:Array Goroutine) (w:World) (sl:Option (Nat×Nat)),m=crowd gs w sl/\Inv P ty Post Y gs w t/\μ=(bag Y.o gs.size,busy gs)
end
section
variable {P:Program} {ty:TypeId} {Post:Value->World->Prop}
theorem zacd {main:Bool} {g:Goroutine} (w:World):stepG P main g w=stepG P main (core g) w:=stepG_same rfl rfl rfl w
theorem zat8 (μ:List Rk×Nat) (m:Machine) (t:Trace) (h:CInv P ty Post μ m t) :
 (∃o w ops,stepT P m=(.ended o w,ops)/\Good P Post m o w (t++ops))\/(∃m' ops μ',stepT P m=(.next m',ops)/\Lower μ' μ/\CInv P ty Post μ' m' (t++ops)):=by
 obtain ⟨Y,gs,w,sl,rfl,h,rfl⟩:=h
 obtain ⟨i,g,d,sl',hi,hg,hst⟩:=crowd_pick (P:=P) (w:=w) (sl:=sl) (fun g hg=>by
  obtain ⟨i,hi,rfl⟩:=Array.mem_iff_getElem.1 hg
  exact (h.sit i _ (Array.getElem?_eq_getElem hi)).awake) h.runs
 have h:=h.at d
 have nx:CNext P ty Post Y gs (w.at d) t sl' i->(∃o w' ops,stepT P (crowd gs w sl)=(.ended o w',ops)/\Good P Post (crowd gs w sl) o w' (t++ops))\/(∃m' ops μ',stepT P (crowd gs w sl)=(.next m',ops)/\Lower μ' (bag Y.o gs.size,busy gs)/\CInv P ty Post μ' m' (t++ops)):=fun hn=>by
  obtain ⟨Y',gs',w',ops,h1,h2,h3⟩:=hn
  exact .inr ⟨_,ops,_,hst.trans h1,h3,Y',gs',w',sl',rfl,h2,rfl⟩
 have hlt:i<gs.size:=(Array.getElem?_eq_some_iff.1 hi).1
 cases h.sit i g hi with
 | send g k v z rest o'=>cases hg
 | recv g f i c rem b z=>cases hg
 | sem g f=>cases hg
 | quit _ k q hm h2 h3 h4 h5 h6=>
  cases q with
  | zero=>rw [h6.1] at hg;cases hg
  | succ q=>
   rcases h6 with ⟨e,_⟩ | ⟨_,g',es,h7,h8,h9⟩
   · rw [e] at hg;cases hg
   · exact nx (zaqt h hi hm h2 h3 h4 h5 h7 (h8 _) h9)
 | run _ h1 hW h7=>
  cases ho:Y.o i with
  | leaf=>rw [ho] at hW;exact hW.elim
  | num n=>rw [ho] at hW;exact hW.elim
  | node fo=>
   have hW0:=hW
   rw [ho] at hW
   have lt1:∀b,Rk.lt (fo (w.at d) b) (Y.o i):=fun b=>by rw [ho];exact Rk.lt_node fo _ b
   have kid0:∀{k:Kid},(Y.S i).kid=some k->0<i:=fun {k} hk=>by
    rcases Nat.eq_zero_or_pos i with e | e
    · subst e;have:=h.str.kid0;unfold kf at this;rw [hk] at this;cases this
    · exact e
   have hlive:LiveS ty (Y.S i) (w.at d):=by
    refine ⟨fun k hk=>?_,fun f hf=>?_⟩
    · obtain ⟨p,m,hl⟩:=h.str.linked hlt (kid0 hk) (show kf Y.S i=some k from hk) (h7 k hk)
      obtain ⟨st,sm,b1,_⟩:=h.wld.fitsK h.str hl (show kf Y.S i=some k from hk) (h7 k hk)
      exact ⟨st,sm,b1⟩
    · obtain ⟨st,sm,b1,_⟩:=h.wld.fits h.str hlt (show ff Y.S i=some f from hf)
      exact ⟨st,sm,b1⟩
   cases hW.2 (w.at d) (.refl _ _) hlive with
   | own s' g' w' es a1 a2 a3=>exact nx (zas4 h hi h7 (lt1 true) ((zacd _).trans a1) a2 a3)
   | spawn wg c kids L s' sc g' child a1 a2 a3 a4 a5 a6 a7 a8 a9 b1 b2 b3 b4 b5 b6 b7=>exact nx (zanx h hi h7 (lt1 true) (lt1 false) ((zacd _).trans a1) a2 a3 a4 a5 a6 a7 a8 a9 b1 b2 b3 b4 b5 b6 b7)
   | send k v z rest a1 a2 a3 a4 a5 a6=>exact nx (zap6 h hi hg hW0 ((zacd _).trans a1) a2 a3 a4 a5 (lt1 true) a6)
   | recv f m c rem b z a1 a2 a3 a4 a5 a6=>exact nx (zaqf h hi hg h7 hW0 ((zacd _).trans a1) a2 a3 a4 (lt1 true) a5 a6)
   | close k a1 a2 a3 a4 a5 a6=>
    obtain ⟨p,m,hl⟩:=h.str.linked hlt (kid0 a1) (show kf Y.S i=some k from a1) (by omega)
    obtain ⟨sn,rc,hc⟩:=h.wld.chan i k (by rw [hl];simp) a1
    rw [show decide (1<=k.st)=false from decide_eq_false (by omega)] at hc
    obtain ⟨g',b1,b2,b3⟩:=a6 sn rc hc
    exact nx (zam5 h hi (lt1 true) a1 a4 a2 a3 hc a5 ((zacd _).trans b1) b3)
   | part f a1 a2=>
    obtain ⟨st,sm,b1,b2⟩:=h.wld.fits h.str hlt (show ff Y.S i=some f from a1)
    rcases a2 st sm b1 b2 with ⟨c1,rfl,c3⟩ | ⟨tag',st',sm',es,g',c1,c2,c3⟩
    · exact nx (zaso h hi hg h7 hW0 a1 c1 b1 ((zacd _).trans c3))
    · exact nx (zaqm h hi h7 (lt1 true) a1 b1 c1 ((zacd _).trans c2) c3)
   | join f g' a1 a2 a3 a4=>exact nx (zapw h hi h7 (lt1 true) a1 a2 ((zacd _).trans a3) a4)
   | quit k a1 a2 a3 a4 a5=>
    have k7:=h7 k a1
    obtain ⟨p,m,hl⟩:=h.str.linked hlt (kid0 a1) (show kf Y.S i=some k from a1) k7
    obtain ⟨st,sm,b1,b2⟩:=h.wld.fitsK h.str hl (show kf Y.S i=some k from a1) k7
    obtain ⟨n',st',sm',es,g',c1,c2,c3,c4⟩:=a5 st sm b1 b2
    by_cases hn:n'=7
    · obtain ⟨q,hq⟩:=c3 hn
      exact nx (zalk h hi (o1:=.num q) (by rw [ho];trivial) a1 a2 a4 b1 c1 ((zacd _).trans c2) a3 (.inl ⟨hn,q,rfl,hq⟩))
    · exact nx (zalk h hi (lt1 true) a1 a2 a4 b1 c1 ((zacd _).trans c2) a3 (.inr ⟨hn,c4 hn⟩))
   | done v es a1 a2 a3 a4 a5 a6=>
    have hi0:i=0:=by simpa using a1
    subst hi0
    exact .inl ⟨_,_,_,hst.trans (runT_many_ended (sl:=sl') hi ((zacd _).trans a4)),zapx h hi a3 a5 a6⟩
theorem zaur {g:Goroutine} {w:World} {sl:Option (Nat×Nat)} {own ro:Nat->Prop} (hW:Walk P ty Post true ⟨own,ro,none,none⟩ g w) (ha:∀b,own b->¬ ro b) (hb:∀b,own b\/ro b->b<w.heap.size) :
 ∃N last o w' t',runNT P (N+1) (crowd #[g] w sl) #[]=(.ended o w',t')/\runN P N (crowd #[g] w sl) = .next last/\step P last = .ended o w'/\Good P Post last o w' t':=by
 obtain ⟨o,hW⟩:=hW
 have hc:=hW.core
 have S0:∀j,((fun _=>⟨own,ro,none,none⟩:Nat->LG) j).kid=none/\((fun _=>⟨own,ro,none,none⟩:Nat->LG) j).fk=none:=fun _=>⟨rfl,rfl⟩
 have one:∀{j:Nat},j<1->j=0:=fun h=>by omega
 have nog:∀{j:Nat} {x:Goroutine},(#[g]:Array Goroutine)[j]?=some x->j=0/\x=g:=fun {j x} hx=>by
  have:=(Array.getElem?_eq_some_iff.1 hx).1
  obtain rfl:j=0:=by simp at this;exact this
  simp at hx;exact ⟨rfl,hx.symm⟩
 have hrun:=zabv hc
 refine run_of_inv zasw (CInv P ty Post) (Good P Post) zat8 _ _ _ ⟨⟨fun _=>⟨own,ro,none,none⟩,fun _=>o,fun _=>none,fun _=>none⟩, #[g],w,sl,rfl,?_,rfl⟩
 refine ⟨by simp,fun j x hx=>?_,⟨rfl,fun j a b=>?_,fun j p k e=>?_,fun p f k hp e=>?_,fun j j' x e=>?_,fun j k a b c e=>?_,fun j j' k k' a=>?_,fun p p' f f' a b e=>?_,fun p f k a e=>?_,fun j k a e=>?_,fun p f a e=>?_⟩,⟨fun j kd a=>?_,fun p f a e=>?_⟩,
  ⟨fun i j b hi hj=>?_,fun i j b hi hj=>?_,fun i j b hi hj=>?_,fun i j b hi hj=>?_,fun i b hi=>?_,fun i j b hi hj=>?_⟩,⟨fun i b hi hx=>hb b (.inl hx),fun i b hi hx=>hb b (.inr hx),fun i b hi hx=>?_⟩,fun j _=>⟨rfl,rfl⟩,
  ⟨fun said hr=>?_,fun op hop=>?_,fun op hop=>?_,fun k x b hx=>?_,fun i b _ k x hx=>?_,fun i b _ k x hx=>?_,fun i b _ k x hx=>?_,fun i b _ k x hx=>?_⟩,fun k hc=>?_,fun j r e=>?_,fun j kd e=>?_,fun j hj _=>rfl,fun j _=>rfl,fun p f _ e=>?_,fun p x c hx hne=>?_,fun p x f hx hs hn e=>?_⟩
 · obtain ⟨rfl,rfl⟩:=nog hx
   exact .run _ hrun.1 (by rw [hc];exact hW) (fun k e=>by cases e)
 · simp at b;omega
 · cases e
 · cases e
 · cases e
 · cases e
 · exact absurd rfl a
 · cases e
 · cases e
 · cases e
 · cases e
 · exact absurd rfl a
 · cases e
 · have:=hi.1;have:=hj.1;simp at *;omega
 · exact ha b hi.2 hj.2
 · rcases hj.2 with ⟨k,e,_⟩ | ⟨f,e,_⟩ <;> cases e
 · rcases hj.2 with ⟨k,e,_⟩ | ⟨f,e,_⟩ <;> cases e
 · obtain ⟨_,f,e,_⟩:=hi;cases e
 · obtain ⟨_,f,e,_⟩:=hi;cases e
 · rcases hx with ⟨k,e,_⟩ | ⟨f,e,_⟩ <;> cases e
 · obtain ⟨i,j,_,⟨a,b,h1,_⟩,_⟩:=hr;simp [Trace.act?] at h1
 · simp at hop
 · simp at hop
 · simp [touchAt,Trace.act?] at hx
 · simp [touchAt,Trace.act?] at hx
 · simp [touchAt,Trace.act?] at hx
 · simp [touchAt,Trace.act?] at hx
 · simp [touchAt,Trace.act?] at hx
 · obtain ⟨x,hx,_⟩:=hc;simp [Trace.act?] at hx
 · cases e
 · exact absurd rfl e
 · cases e
 · obtain ⟨rfl,rfl⟩:=nog hx
   exact absurd (offersAt_of_not_blocked (by rw [hrun.1];simp) _ _) hne
 · cases e
end
end Go.Co
