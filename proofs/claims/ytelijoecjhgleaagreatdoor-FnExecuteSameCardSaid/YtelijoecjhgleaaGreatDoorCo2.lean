/- Goroutines in company, part 2. -/
import Derived.Test.YtelijoecjhgleaaGreatDoorCo1
import Derived.Conc.CompanyCalls
import Derived.Conc.AppendEvents3
import Derived.Test.YtelijoecjhgleaaGreatDoorAi2
import Derived.KernelRfl
set_option linter.unusedVariables false
set_option linter.unusedSimpArgs false
set_option maxRecDepth 100000
namespace Go.Co
open Go Go.Conc
open Go.ConcR (KK wgBlock WgAt stA smA rd wr mk)
theorem Own1.idle {ty:TypeId} (s:LG) (w:World):Own1 ty s w s w #[]:=
 ⟨rfl,rfl,rfl,Nat.le_refl _,fun _ _ _=>rfl,fun _ h=>.inl h,fun _ h=>.inl h,fun h _=>h,rfl,.inl rfl,fun e he=>absurd he (by simp),fun _ _ _=>rfl⟩
theorem zase {s:LG} {e:Event} (h:EvG s e) (B B':Nat):EvG (s.plus B B') e:=by
 unfold EvG at h ⊢
 split <;> simp_all only [LG.plus]
 · exact ⟨trivial,h.2.elim (fun h=>.inl (.inl h)) .inr⟩
 · exact ⟨trivial,h.2.elim (fun h=>.inl (.inl h)) .inr⟩
def Reads (s:LG) (es:Array Event):Prop:=(∀e∈es,EvG s e)/\∀k,s.kid=some k->2<=k.st->es = #[]
theorem Reads.nil (s:LG):Reads s #[]:=⟨fun e he=>absurd he (by simp),fun _ _ _=>rfl⟩
theorem Own1.reads {ty:TypeId} {s:LG} {es:Array Event} (h:Reads s es) (w:World):Own1 ty s w s w es:={ Own1.idle s w with ev:=fun e he=>zase (h.1 e he) _ _,mute:=h.2 }
theorem Reads.seen {s:LG} {es:Array Event} (h:Reads s es) (P:Program) (fn:FuncId):Reads s (seen P fn es):=
 ⟨fun e he=>h.1 e (mem_seen he),fun k h1 h2=>by rw [h.2 k h1 h2];exact seen_none P fn⟩
section
variable {P:Program} {ty:TypeId} {Post:Value->World->Prop} {main:Bool} {s:LG} {w:World}
theorem Walk.idle {g g':Goroutine} (hc:core g=g) (h:∀w₁,stepG P main g w₁ = .go g' w₁ #[]) (hW:Walk P ty Post main s g' w):Walk P ty Post main s g w:=
 .mk hc fun w₁ r=>.own s g' w₁ #[] (h w₁) (.idle s w₁) (hW.rely r)
variable (P ty Post main) in
def Behind (b:Frame) (k:List Item) (cs:List Frame):Exit->Act->LG->World->Prop
 | .normal,a,s,w=>Walk P ty Post main s (G (b.at a k) cs) w
 | .exit id,a,s,w=>∃k',exitTo id k=some k'/\Walk P ty Post main s (G (b.at a k') cs) w
 | .ret,a,s,w=>∀todo,Walk P ty Post main s (G { b.at a todo with mode:=.returning } cs) w
 | _,_,_,_=>False
theorem Behind.push {b:Frame} {x:Item} {k:List Item} {cs:List Frame} {e:Exit} {a:Act} (hx:x.plain=true) (he:e≠.normal) (h:Behind P ty Post main b k cs e a s w):Behind P ty Post main b (x::k) cs e a s w:=by
 cases e with
 | normal=>exact absurd rfl he
 | exit id=>obtain ⟨k',hk,hg⟩:=h;exact ⟨k',by cases x <;> simp_all [exitTo,Item.plain],hg⟩
 | ret=>exact h
 | goto l=>exact h
 | panic ch=>exact h
 | outgrown=>exact h
abbrev Out:=Exit->Act->LG->World->Prop
variable (P ty Post main) in
def CoC (fn:FuncId) (c:Code) (Q:Out) (a:Act) (s:LG) (w:World):Prop:=
 ∀(b:Frame) (k:List Item) (cs:List Frame),b.fn=fn->b.kind≠.early->(∀e a' s' w',Q e a' s' w'->Behind P ty Post main b k cs e a' s' w')->Walk P ty Post main s (G (b.at a (.code c::k)) cs) w
variable (P ty Post main) in
def CoO (fn:FuncId) (ops:Array Oper) (todo:List Nat) (Q:Out) (a:Act) (s:LG) (w:World):Prop:=
 ∀(b:Frame) (k:List Item) (cs:List Frame),b.fn=fn->b.kind≠.early->(∀e a' s' w',Q e a' s' w'->Behind P ty Post main b k cs e a' s' w')->Walk P ty Post main s (G (b.at a (.inRegion ops todo::k)) cs) w
variable (P ty Post main) in
def CoF (f:FuncId) (args:Array Value) (R:Value->LG->World->Prop) (s:LG) (w:World):Prop:=
 ∀(b:Frame) (cs:List Frame),(∀v s' w',R v s' w'->Walk P ty Post main s' (G (b.finish v) cs) w')->Walk P ty Post main s (G (Frame.enter P f args .normal) (b::cs)) w
variable {fn:FuncId} {Q:Out} {a:Act}
theorem CoC.mono {c:Code} {Q':Out} (h:CoC P ty Post main fn c Q a s w) (hq:∀e a s w,Q e a s w->Q' e a s w):CoC P ty Post main fn c Q' a s w:=
 fun b k cs hb hk hc=>h b k cs hb hk fun e a' s' w' q=>hc e a' s' w' (hq e a' s' w' q)
theorem CoC.rely {c:Code} {w₁:World} (h:CoC P ty Post main fn c Q a s w) (r:Rely ty s w w₁):CoC P ty Post main fn c Q a s w₁:=fun b k cs hb hk hc=>(h b k cs hb hk hc).rely r
theorem CoO.rely {ops:Array Oper} {todo:List Nat} {w₁:World} (h:CoO P ty Post main fn ops todo Q a s w) (r:Rely ty s w w₁):CoO P ty Post main fn ops todo Q a s w₁:=fun b k cs hb hk hc=>(h b k cs hb hk hc).rely r
theorem CoF.rely {f:FuncId} {args:Array Value} {R:Value->LG->World->Prop} {w₁:World} (h:CoF P ty Post main f args R s w) (r:Rely ty s w w₁):CoF P ty Post main f args R s w₁:=fun b cs hc=>(h b cs hc).rely r
theorem CoF.mono {f:FuncId} {args:Array Value} {R R':Value->LG->World->Prop} (h:CoF P ty Post main f args R s w) (hr:∀v s w,R v s w->R' v s w):CoF P ty Post main f args R' s w:=fun b cs hc=>h b cs fun v s' w' q=>hc v s' w' (hr v s' w' q)
theorem zaik (h:Q .normal a s w):CoC P ty Post main fn .skip Q a s w:=fun b k cs _ _ hc=>.idle rfl (fun _=>stepG_skip) (hc _ _ _ _ h)
theorem zart {l:Nat} (h:Q .normal a s w):CoC P ty Post main fn (.label l) Q a s w:=fun b k cs _ _ hc=>.idle rfl (fun _=>stepG_label) (hc _ _ _ _ h)
theorem co_ret (h:Q .ret a s w):CoC P ty Post main fn .ret Q a s w:=fun b k cs _ _ hc=>.idle rfl (fun _=>stepG_ret') (hc _ _ _ _ h _)
theorem zaip {id:Nat} (h:Q (.exit id) a s w):CoC P ty Post main fn (.exit id) Q a s w:=fun b k cs _ _ hc=>by
 obtain ⟨k',hk',hg⟩:=hc _ _ _ _ h
 exact .idle rfl (fun _=>stepG_exit hk') hg
def Out.seq (K:Act->LG->World->Prop) (Q:Out):Out:=fun e a s w=>match e with | .normal=>K a s w | e=>Q e a s w
theorem co_seq {x y:Code} (h:CoC P ty Post main fn x (Out.seq (fun a s w=>CoC P ty Post main fn y Q a s w) Q) a s w):CoC P ty Post main fn (.seq x y) Q a s w:=fun b k cs hb hk hc=>
 .idle rfl (fun _=>stepG_seq) <| h b (.code y::k) cs hb hk fun e a' s' w' q=>by
  cases e with
  | normal=>exact q b k cs hb hk hc
  | exit id=>exact (hc _ _ _ _ q).push rfl (by simp)
  | ret=>exact (hc _ _ _ _ q).push (x:=.code y) rfl (by simp)
  | goto l=>exact hc _ _ _ _ q
  | panic ch=>exact hc _ _ _ _ q
  | outgrown=>exact hc _ _ _ _ q
theorem zagc {c:Operand} {x y:Code} {t:Bool} (hc:a.eval c = .bool t) (h:CoC P ty Post main fn (if t then x else y) Q a s w):CoC P ty Post main fn (.cond c x y) Q a s w:=fun b k cs hb hk hq=>
 .idle rfl (fun _=>stepG_cond hc) (h b k cs hb hk hq)
def Out.block (id:Nat) (Q:Out):Out:=fun e a s w=>match e with | .exit i=>if i=id then Q .normal a s w else Q (.exit i) a s w | e=>Q e a s w
theorem zade {id:Nat} {c:Code} (h:CoC P ty Post main fn c (Out.block id Q) a s w):CoC P ty Post main fn (.block id c) Q a s w:=fun b k cs hb hk hc=>
 .idle rfl (fun _=>stepG_block) <| h b (.inBlock id::k) cs hb hk fun e a' s' w' q=>by
  cases e with
  | normal=>exact .idle rfl (fun _=>stepG_inBlock) (hc .normal _ _ _ q)
  | exit i=>
   by_cases hi:i=id
   · simp only [Out.block,hi,if_true] at q
     exact ⟨k,by simp [exitTo,hi],hc _ _ _ _ q⟩
   · simp only [Out.block,hi,if_false] at q
     obtain ⟨k',hk',hg⟩:=hc _ _ _ _ q
     have:(id == i)=false:=by simp;exact fun h=>hi h.symm
     exact ⟨k',by simp [exitTo,this,hk'],hg⟩
  | ret=>exact hc .ret _ _ _ q
  | goto l=>exact hc _ _ _ _ q
  | panic ch=>exact hc _ _ _ _ q
  | outgrown=>exact hc _ _ _ _ q
theorem zamx {b:Frame} {k:List Item} {cs:List Frame} {c:Code} {w:World}:stepG P main (G (b.at a (.code (.scope c)::k)) cs) w = .go (G (b.at a (.code c::.inScope c::k)) cs) w:=by simp [G,stepG,stepG.exec,Frame.at]
theorem zai0 {b:Frame} {k:List Item} {cs:List Frame} {c:Code} {w:World}:stepG P main (G (b.at a (.inScope c::k)) cs) w = .go (G (b.at a k) cs) w:=by simp [G,stepG,stepG.exec,Frame.at]
theorem zasy {c:Code} (h:CoC P ty Post main fn c Q a s w):CoC P ty Post main fn (.scope c) Q a s w:=fun b k cs hb hk hc=>
 .idle rfl (fun _=>zamx) <| h b (.inScope c::k) cs hb hk fun e a' s' w' q=>by
  have:=hc _ _ _ _ q
  cases e with
  | normal=>exact .idle rfl (fun _=>zai0) this
  | exit id=>obtain ⟨k',h1,h2⟩:=this;exact ⟨k',by simp [exitTo,h1],h2⟩
  | ret=>exact this
  | goto l=>exact this
  | panic ch=>exact this
  | outgrown=>exact this
theorem zai4 {c:Code} (I:Nat->Act->LG->World->Prop) (round:∀n a s w,I n a s w->CoC P ty Post main fn c (Out.seq (fun a s w=>∃m,m<n/\I m a s w) Q) a s w) {n:Nat} (h0:I n a s w):CoC P ty Post main fn (.loop c) Q a s w:=by
 intro b k cs hb hk hc
 refine .idle rfl (fun _=>stepG_loop) ?_
 induction n using Nat.strongRecOn generalizing a s w with
 | ind n ih=>
  refine round n a s w h0 b (.inLoop c::k) cs hb hk fun e a' s' w' q=>?_
  cases e with
  | normal=>obtain ⟨m,hm,hI⟩:=q;exact .idle rfl (fun _=>stepG_inLoop) (ih m hm hI)
  | exit id=>exact (hc _ _ _ _ q).push rfl (by simp)
  | ret=>exact (hc _ _ _ _ q).push (x:=.inLoop c) rfl (by simp)
  | goto l=>exact hc _ _ _ _ q
  | panic ch=>exact hc _ _ _ _ q
  | outgrown=>exact hc _ _ _ _ q
theorem zaav {id:Nat} {ops:Array Oper} (h:CoO P ty Post main fn ops (List.range ops.size) Q a s w):CoC P ty Post main fn (.region id ops false) Q a s w:=fun b k cs hb hk hc=>.idle rfl (fun _=>stepG_region) (h b k cs hb hk hc)
theorem co_nil {ops:Array Oper} (h:Q .normal a s w):CoO P ty Post main fn ops [] Q a s w:=fun b k cs _ _ hc=>.idle rfl (fun _=>stepG_region_end) (hc _ _ _ _ h)
theorem zac5 {ops:Array Oper} {i:Nat} {rest:List Nat} {o:Oper} (ho:ops[i]?=some o) (hw:Region.wanted o (yielded ops a.tmps)=false) (h:CoO P ty Post main fn ops rest Q (a.put o.dst undef) s w):CoO P ty Post main fn ops (i::rest) Q a s w:=
 fun b k cs hb hk hc=>.idle rfl (fun _=>stepG_unwanted ho hw) (h b k cs hb hk hc)
variable (P ty Post main) in
def Upon (fn:FuncId) (ops:Array Oper) (rest:List Nat) (Q:Out) (o:Oper) (a:Act) (s:LG) (w:World):Result Next->Prop
 | .ok (.value v) w'=>∃s',Own1 ty s w s' w' (listed P fn a o w)/\CoO P ty Post main fn ops rest Q (a.put o.dst v) s' w'
 | .ok .skip w'=>∃s',Own1 ty s w s' w' (listed P fn a o w)/\CoO P ty Post main fn ops rest Q (a.put o.dst undef) s' w'
 | .ok (.enter f args) w'=>∃s',Own1 ty s w s' w' (listed P fn a o w)/\CoF P ty Post main f args (fun v s w=>CoO P ty Post main fn ops rest Q (a.put o.dst v) s w) s' w'
 | _=>False
theorem co_op {ops:Array Oper} {i:Nat} {rest:List Nat} {o:Oper} (ho:ops[i]?=some o) (hw:Region.wanted o (yielded ops a.tmps)=true)
 (h:∀w₁,Rely ty s w w₁->Upon P ty Post main fn ops rest Q o a s w₁ ((execOp a.eval o).run P w₁)):CoO P ty Post main fn ops (i::rest) Q a s w:=by
 intro b k cs hb hk hc
 subst hb
 refine .mk rfl fun w₁ r=>?_
 have h1:=h w₁ r
 generalize hr:(execOp a.eval o).run P w₁=res at h1
 match res,h1 with
 | .ok (.value v) w',⟨s',h2,h3⟩=>exact .own s' _ w' _ (stepG_value ho hw hk hr) h2 (h3 b k cs rfl hk hc)
 | .ok .skip w',⟨s',h2,h3⟩=>exact .own s' _ w' _ (stepG_none ho hw hk hr) h2 (h3 b k cs rfl hk hc)
 | .ok (.enter f args) w',⟨s',h2,h3⟩=>
  refine .own s' _ w' _ (stepG_enter ho hw hk hr) h2 (h3 _ cs fun v s' w' q=>?_)
  have hfin:(b.at a (.inRegion ops (i::rest)::k)).finish v=b.at (a.put o.dst v) (.inRegion ops rest::k):=by rw [Frame.finish_at,ho];rfl
  rw [hfin];exact q b k cs rfl hk hc
def bodyOut (P:Program) (ty:TypeId) (fn:Func) (R:Value->LG->World->Prop):Out:=fun e a s w=>
 (e = .normal\/e = .ret)/\a.defers=[]/\∀w₁,Rely ty s w w₁->∃v,(results fn a.tmps).run P w₁ = .ok v w₁/\Reads s ((results fn a.tmps).events P w₁ #[])/\R v s w₁
theorem zahv {b c:Frame} {cs:List Frame} {fn:Func} {todo:List Item} {v:Value} (hn:b.kind = .normal) (hd:a.defers=[]) (hf:P.funcs[b.fn]?=some fn) (hr:(results fn a.tmps).run P w = .ok v w) :
 stepG P main (G { b.at a todo with mode:=.returning } (c::cs)) w = .go (G (c.finish v) cs) w (seen P b.fn ((results fn a.tmps).events P w #[])):=by
 simp [G,stepG,unwind,doReturn,Frame.at,hn,hd,hf,hr,GStep.after]
theorem co_fn {f:FuncId} {fn:Func} {c:Code} {args:Array Value} {R:Value->LG->World->Prop} (hf:P.funcs[f]?=some fn) (hb:fn.body=some c)
 (h:CoC P ty Post main f c (bodyOut P ty fn R) { tmps:=args++Array.replicate (fn.ntmps - args.size) undef,defers:=[] } s w):CoF P ty Post main f args R s w:=by
 intro b cs hc
 rw [enter_at _ hf hb]
 have leave:∀(a':Act) (s':LG) (w':World) (todo:List Item) (e:Exit),bodyOut P ty fn R e a' s' w'->Walk P ty Post main s' (G { (base f).at a' todo with mode:=.returning } (b::cs)) w':=fun a' s' w' todo e q=>by
  refine .mk rfl fun w₁ r=>?_
  obtain ⟨v,h1,h2,h3⟩:=q.2.2 w₁ r
  exact .own s' _ w₁ _ (zahv (b:=base f) rfl q.2.1 hf h1) (.reads (h2.seen P _) w₁) (hc v s' w₁ h3)
 refine h (base f) [] (b::cs) rfl (by simp [base]) fun e a' s' w' q=>?_
 rcases q.1 with rfl | rfl
 · exact .idle rfl (fun _=>stepG_end) (leave a' s' w' [] .normal q)
 · exact fun todo=>leave a' s' w' todo .ret q
end
end Go.Co
namespace Go.Co
open Go Go.Conc
def plainO:Obj->Bool
 | .cells .. | .map .. => true
 | _=>false
theorem zahm {o:Obj} (h:plainO o=true):(∃c e f,o = .cells c e f)\/∃ms c,o = .map ms c:=by
 cases o <;> first | exact .inl ⟨_,_,_,rfl⟩ | exact .inr ⟨_,_,rfl⟩ | cases h
abbrev NB:=Nat->Prop
def NB.add (A:NB) (r:Nat):NB:=fun b=>A b\/b=r
def conf (P:Program) {α:Type}:(A W:NB)->Sem α->(NB->NB->α->Prop)->Prop
 | A,W,.pure a,K=>K A W a
 | A,W,.load m a k,K=>(m == .atomic)=false/\A a.block/\∀v,conf P A W (k v) K
 | A,W,.store m a v k,K=>(m == .atomic)=false/\W a.block/\conf P A W k K
 | A,W,.new o k,K=>plainO o=true/\∀r,conf P (A.add r) (W.add r) (k r) K
 | A,W,.shape r k,K=>∀x,conf P A W (k x) K
 | A,W,.freeze a n k,K=>W a.block/\conf P A W k K
 | A,W,.frozen a k,K=>∀x,conf P A W (k x) K
 | A,W,.getObj r k,K=>A r/\∀ms c,conf P A W (k (.map ms c)) K
 | A,W,.setObj r o k,K=>W r/\plainO o=true/\conf P A W k K
 | A,W,.choose q k,K=>∀n,conf P A W (k n) K
 | _,_,.sys _ _,_=>False
 | A,W,.program k,K=>conf P A W (k P) K
 | A,W,.mark m k,K=>Neutral m/\conf P A W k K
 | _,_,.halt _,_=>True
section
variable {P:Program} {α β:Type}
theorem zafx {x:Sem α}:∀{A W:NB} {K K':NB->NB->α->Prop},conf P A W x K->(∀A W a,K A W a->K' A W a)->conf P A W x K':=by
 induction x with
 | pure a=>intro A W K K' h hk;exact hk _ _ _ h
 | load m a k ih=>intro A W K K' h hk;exact ⟨h.1,h.2.1,fun v=>ih v (h.2.2 v) hk⟩
 | store m a v k ih=>intro A W K K' h hk;exact ⟨h.1,h.2.1,ih h.2.2 hk⟩
 | new o k ih=>intro A W K K' h hk;exact ⟨h.1,fun r=>ih r (h.2 r) hk⟩
 | shape r k ih=>intro A W K K' h hk;exact fun x=>ih x (h x) hk
 | freeze a n k ih=>intro A W K K' h hk;exact ⟨h.1,ih h.2 hk⟩
 | frozen a k ih=>intro A W K K' h hk;exact fun x=>ih x (h x) hk
 | getObj r k ih=>intro A W K K' h hk;exact ⟨h.1,fun ms c=>ih _ (h.2 ms c) hk⟩
 | setObj r o k ih=>intro A W K K' h hk;exact ⟨h.1,h.2.1,ih h.2.2 hk⟩
 | choose q k ih=>intro A W K K' h hk;exact fun n=>ih n (h n) hk
 | sys c k ih=>intro A W K K' h hk;exact h.elim
 | program k ih=>intro A W K K' h hk;exact ih P h hk
 | mark m k ih=>intro A W K K' h hk;exact ⟨h.1,ih h.2 hk⟩
 | halt h=>intro A W K K' _ _;trivial
theorem zai5 {x:Sem α} {f:α->Sem β}:∀{A W:NB} {K:NB->NB->β->Prop},conf P A W (x.bind f) K↔conf P A W x (fun A W a=>conf P A W (f a) K):=by
 induction x with
 | pure a=>intro A W K;exact Iff.rfl
 | load m a k ih=>intro A W K;simp only [Sem.bind,conf,ih]
 | store m a v k ih=>intro A W K;simp only [Sem.bind,conf,ih]
 | new o k ih=>intro A W K;simp only [Sem.bind,conf,ih]
 | shape r k ih=>intro A W K;simp only [Sem.bind,conf,ih]
 | freeze a n k ih=>intro A W K;simp only [Sem.bind,conf,ih]
 | frozen a k ih=>intro A W K;simp only [Sem.bind,conf,ih]
 | getObj r k ih=>intro A W K;simp only [Sem.bind,conf,ih]
 | setObj r o k ih=>intro A W K;simp only [Sem.bind,conf,ih]
 | choose q k ih=>intro A W K;simp only [Sem.bind,conf,ih]
 | sys c k ih=>intro A W K;exact Iff.rfl
 | program k ih=>intro A W K;simp only [Sem.bind,conf,ih]
 | mark m k ih=>intro A W K;simp only [Sem.bind,conf,ih]
 | halt h=>intro A W K;exact Iff.rfl
theorem zaaa {x:Sem α} {f:α->Sem β} {A W:NB} {K:NB->NB->β->Prop}:conf P A W (x >>= f) K↔conf P A W x (fun A W a=>conf P A W (f a) K):=zai5
theorem zahu {x:Sem α} {f:α->β} {A W:NB} {K:NB->NB->β->Prop}:conf P A W (f <$> x) K↔conf P A W x (fun A W a=>K A W (f a)):=zai5 (f:=fun a=>Sem.pure (f a))
theorem zaac {a:α} {A W:NB} {K:NB->NB->α->Prop}:conf P A W (pure a:Sem α) K↔K A W a:=Iff.rfl
def okEv (A W:NB) (B B':Nat) (e:Event):Prop:=
 match e.loc with
 | .cell a=>e.sync=false/\(W a.block\/(B<=a.block/\a.block<B')\/(A a.block/\e.write=false))
 | .obj r=>e.sync=false/\(W r\/(B<=r/\r<B')\/(A r/\e.write=false))
 | .mark m=>Neutral m
 | _=>False
theorem okEv.new {A W:NB} {B B' r:Nat} {e:Event} (h:okEv (A.add r) (W.add r) (B+1) B' e) (hr:B=r) (hB:r<B'):okEv A W B B' e:=by
 subst hr
 unfold okEv at h ⊢
 split
 · rename_i a ha;rw [ha] at h;refine ⟨h.1,?_⟩
   rcases h.2 with (h2 | h2) | h2 | ⟨h2 | h2,h3⟩
   · exact .inl h2
   · exact .inr (.inl (by omega))
   · exact .inr (.inl (by omega))
   · exact .inr (.inr ⟨h2,h3⟩)
   · exact .inr (.inl (by omega))
 · rename_i a ha;rw [ha] at h;refine ⟨h.1,?_⟩
   rcases h.2 with (h2 | h2) | h2 | ⟨h2 | h2,h3⟩
   · exact .inl h2
   · exact .inr (.inl (by omega))
   · exact .inr (.inl (by omega))
   · exact .inr (.inr ⟨h2,h3⟩)
   · exact .inr (.inl (by omega))
 · rename_i m hm;rw [hm] at h;exact h
 · rename_i h1 h2 h3
   cases hl:e.loc with
   | cell a=>exact h1 a hl
   | obj r=>exact h2 r hl
   | mark m=>exact h3 m hl
   | output=>rw [hl] at h;exact h
   | goroutines=>rw [hl] at h;exact h
def Tame (A:NB) (w:World):Prop:=∀r,A r->r<w.heap.size/\∀o,w.heap[r]?=some o->plainO o=true
theorem Tame.set {A:NB} {w w':World} (h:Tame A w) (hs:w'.heap.size=w.heap.size) (hk:∀r o,A r->w'.heap[r]?=some o->plainO o=true\/w.heap[r]?=some o):Tame A w':=
 fun r hr=>⟨by rw [hs];exact (h r hr).1,fun o ho=>(hk r o hr ho).elim id fun h2=>(h r hr).2 o h2⟩
theorem zac9 {x:Sem α}:∀{A W:NB} {w w':World} {es es':Array Event} {K:NB->NB->α->Prop} {v:α},conf P A W x K->Tame A w->(∀r,W r->A r)->x.runT P w es=(.ok v w',es')->w.heap.size<=w'.heap.size/\∀e∈es',e∈es\/okEv A W w.heap.size w'.heap.size e:=by
 induction x with
 | pure a=>intro A W w w' es es' K v _ _ _ e;simp only [Sem.runT,Prod.mk.injEq,Result.ok.injEq] at e;obtain ⟨⟨_,rfl⟩,rfl⟩:=e;exact ⟨Nat.le_refl _,fun e he=>.inl he⟩
 | load m a k ih=>
  intro A W w w' es es' K v h ht hw e
  simp only [Sem.runT] at e
  cases hc:w.cell? a with
  | some u=>
   rw [hc] at e
   obtain ⟨h1,h2⟩:=ih u (h.2.2 u) ht hw e
   refine ⟨h1,fun x hx=>?_⟩
   rcases h2 x hx with h3 | h3
   · rcases Array.mem_push.1 h3 with h4 | rfl
     · exact .inl h4
     · exact .inr ⟨h.1,.inr (.inr ⟨h.2.1,rfl⟩)⟩
   · exact .inr h3
  | none=>
   rw [hc] at e
   have hf:∃er,w.farLoad P a (m == .atomic) = .error er:=by
    unfold World.farLoad
    cases ho:w.heap[a.block]? with
    | none=>exact ⟨_,rfl⟩
    | some o=>
     cases o with
     | view at_ t=>have:=(ht a.block h.2.1).2 _ ho;cases this
     | _=>exact ⟨_,rfl⟩
   obtain ⟨er,hf⟩:=hf
   simp only [hf] at e;cases e
 | store m a u k ih=>
  intro A W w w' es es' K v h ht hw e
  have key:∀w1,w1=w.setCell a u->(k.runT P w1 (es.push ⟨.cell a,true,m == .atomic⟩)=(.ok v w',es'))->w.heap.size<=w'.heap.size/\∀e∈es',e∈es\/okEv A W w.heap.size w'.heap.size e:=by
   rintro w1 rfl e
   have hsz:(w.setCell a u).heap.size=w.heap.size:=by unfold World.setCell;simp
   obtain ⟨h1,h2⟩:=ih h.2.2 (ht.set hsz fun r o hr ho=>by
    unfold World.setCell at ho
    simp only [Array.getElem?_modify] at ho
    by_cases hb:a.block=r
    · rw [if_pos hb] at ho
      obtain ⟨o',ho',rfl⟩:=Option.map_eq_some_iff.1 ho
      have:=(ht r hr).2 o' ho'
      left
      cases o' <;> first | exact this | rfl
    · rw [if_neg hb] at ho;exact .inr ho) hw e
   rw [hsz] at h1 h2
   refine ⟨h1,fun x hx=>?_⟩
   rcases h2 x hx with h3 | h3
   · rcases Array.mem_push.1 h3 with h4 | rfl
     · exact .inl h4
     · exact .inr ⟨h.1,.inl h.2.1⟩
   · exact .inr h3
  cases hc:w.cell? a with
  | some u'=>
   cases u <;> simp only [Sem.runT,hc] at e <;> first
    | (
     split at e
     · cases e
     · exact key _ rfl e)
    | cases e
  | none=>
   have hf:∃er,w.farStore P a u (m == .atomic) = .error er:=by
    unfold World.farStore
    cases ho:w.heap[a.block]? with
    | none=>exact ⟨_,rfl⟩
    | some o=>
     cases o with
     | view at_ t=>have:=(ht a.block (hw _ h.2.1)).2 _ ho;cases this
     | _=>exact ⟨_,rfl⟩
   obtain ⟨er,hf⟩:=hf
   cases u <;> simp only [Sem.runT,hc,hf] at e <;> cases e
 | new o k ih=>
  intro A W w w' es es' K v h ht hw e
  simp only [Sem.runT] at e
  have hsz:({ w with heap:=w.heap.push o }:World).heap.size=w.heap.size+1:=by simp
  obtain ⟨h1,h2⟩:=ih w.heap.size (h.2 w.heap.size) (fun r hr=>by
   rw [hsz]
   rcases hr with hr | rfl
   · have:=ht r hr
     refine ⟨by omega,fun o' ho=>?_⟩
     simp only [Array.getElem?_push] at ho
     rw [if_neg (by omega)] at ho
     exact this.2 o' ho
   · refine ⟨by omega,fun o' ho=>?_⟩
     simp only [Array.getElem?_push,if_true] at ho
     cases ho;exact h.1) (fun r hr=>hr.imp (hw r) id) e
  rw [hsz] at h1 h2
  refine ⟨by omega,fun x hx=>(h2 x hx).imp id fun h3=>h3.new rfl (by omega)⟩
 | shape r k ih=>intro A W w w' es es' K v h ht hw e;simp only [Sem.runT] at e;exact ih _ (h _) ht hw e
 | freeze a n k ih=>
  intro A W w w' es es' K v h ht hw e
  simp only [Sem.runT] at e
  have hsz:(w.freeze a n).heap.size=w.heap.size:=by unfold World.freeze;split <;> simp
  have:=ih h.2 (ht.set hsz fun r o hr ho=>by
   unfold World.freeze at ho
   split at ho
   · exact .inr ho
   · simp only [Array.getElem?_modify] at ho
     by_cases hb:a.block=r
     · rw [if_pos hb] at ho
       obtain ⟨o',ho',rfl⟩:=Option.map_eq_some_iff.1 ho
       have:=(ht r hr).2 o' ho'
       left
       cases o' <;> first | exact this | (split <;> first | exact this | rfl)
     · rw [if_neg hb] at ho;exact .inr ho) hw e
  rw [hsz] at this;exact this
 | frozen a k ih=>intro A W w w' es es' K v h ht hw e;simp only [Sem.runT] at e;exact ih _ (h _) ht hw e
 | getObj r k ih=>
  intro A W w w' es es' K v h ht hw e
  simp only [Sem.runT] at e
  cases ho:w.heap[r]? with
  | none=>simp only [ho] at e;cases e
  | some o=>
   rcases zahm ((ht r h.1).2 o ho) with ⟨c,t,f,rfl⟩ | ⟨ms,c,rfl⟩
   · simp only [ho] at e;cases e
   · simp only [ho] at e
     obtain ⟨h1,h2⟩:=ih _ (h.2 ms c) ht hw e
     refine ⟨h1,fun x hx=>?_⟩
     rcases h2 x hx with h3 | h3
     · rcases Array.mem_push.1 h3 with h4 | rfl
       · exact .inl h4
       · exact .inr ⟨rfl,.inr (.inr ⟨h.1,rfl⟩)⟩
     · exact .inr h3
 | setObj r o k ih=>
  intro A W w w' es es' K v h ht hw e
  simp only [Sem.runT] at e
  cases ho:w.heap[r]? with
  | none=>simp only [ho] at e;cases e
  | some o1=>
   have hsz:({ w with heap:=w.heap.setIfInBounds r o }:World).heap.size=w.heap.size:=by simp
   have key:k.runT P { w with heap:=w.heap.setIfInBounds r o } (es.push ⟨.obj r,true,o.isChan⟩)=(.ok v w',es')->w.heap.size<=w'.heap.size/\∀e∈es',e∈es\/okEv A W w.heap.size w'.heap.size e:=fun e=>by
    obtain ⟨h1,h2⟩:=ih h.2.2 (ht.set hsz fun q o' hr ho'=>by
     by_cases hq:r=q
     · subst hq
       have hl:=(ht r hr).1
       simp only [Array.getElem?_setIfInBounds_self_of_lt hl] at ho'
       cases ho';exact .inl h.2.1
     · simp only [Array.getElem?_setIfInBounds_ne hq] at ho';exact .inr ho') hw e
    rw [hsz] at h1 h2
    refine ⟨h1,fun x hx=>?_⟩
    rcases h2 x hx with h3 | h3
    · rcases Array.mem_push.1 h3 with h4 | rfl
      · exact .inl h4
      · exact .inr ⟨by rcases zahm h.2.1 with ⟨_,_,_,rfl⟩ | ⟨_,_,rfl⟩ <;> rfl,.inl h.1⟩
    · exact .inr h3
   cases o1 <;> simp only [ho] at e <;> first | exact key e | cases e
 | choose q k ih=>
  intro A W w w' es es' K v h ht hw e
  simp only [Sem.runT] at e
  split at e
  · exact ih _ (h _) ht hw e
  · exact ih _ (h _) (w:={ w with drawn:=w.drawn+1 }) ht hw e
 | sys c k ih=>intro A W w w' es es' K v h;exact h.elim
 | program k ih=>intro A W w w' es es' K v h ht hw e;simp only [Sem.runT] at e;exact ih P h ht hw e
 | mark m k ih=>
  intro A W w w' es es' K v h ht hw e
  simp only [Sem.runT] at e
  obtain ⟨h1,h2⟩:=ih h.2 ht hw e
  refine ⟨h1,fun x hx=>?_⟩
  rcases h2 x hx with h3 | h3
  · rcases Array.mem_push.1 h3 with h4 | rfl
    · exact .inl h4
    · exact .inr h.1
  · exact .inr h3
 | halt h=>intro A W w w' es es' K v _ _ _ e;simp only [Sem.runT,Prod.mk.injEq] at e;cases e.1
end
end Go.Co
namespace Go.Co
open Go Go.Conc
section
variable {P:Program} {α β:Type} {A W:NB}
theorem zaif {a:Addr} {m:Mode} {K:NB->NB->Value->Prop} (hm:(m == .atomic)=false) (ha:A a.block) (hk:∀v,K A W v):conf P A W (load a m) K:=⟨hm,ha,hk⟩
theorem zao6 {a:Addr} {v:Value} {m:Mode} {K:NB->NB->Unit->Prop} (hm:(m == .atomic)=false) (ha:W a.block) (hk:K A W ()):conf P A W (store a v m) K:=⟨hm,ha,hk⟩
theorem zaef {o:Obj} {K:NB->NB->Nat->Prop} (ho:plainO o=true) (hk:∀r,K (A.add r) (W.add r) r):conf P A W (newObj o) K:=⟨ho,hk⟩
theorem zaio {r:Nat} {K:NB->NB->Option (TypeId×Nat)->Prop} (hk:∀x,K A W x):conf P A W (shape r) K:=hk
theorem zaho {a:Addr} {K:NB->NB->Bool->Prop} (hk:∀x,K A W x):conf P A W (frozen a) K:=hk
theorem zadb {r:Nat} {K:NB->NB->Obj->Prop} (hr:A r) (hk:∀ms c,K A W (.map ms c)):conf P A W (getObj r) K:=⟨hr,hk⟩
theorem zae9 {r:Nat} {o:Obj} {K:NB->NB->Unit->Prop} (hr:W r) (ho:plainO o=true) (hk:K A W ()):conf P A W (setObj r o) K:=⟨hr,ho,hk⟩
theorem zaca {q:Question} {K:NB->NB->Nat->Prop} (hk:∀x,K A W x):conf P A W (choose q) K:=hk
theorem zabz {K:NB->NB->Program->Prop} (hk:K A W P):conf P A W program K:=hk
theorem zauh {h:Halt} {K:NB->NB->α->Prop}:conf P A W (.halt h:Sem α) K:=trivial
theorem zaaj {s:String} {K:NB->NB->α->Prop}:conf P A W (stuck s:Sem α) K:=trivial
theorem zabk {u:Unsupported} {K:NB->NB->α->Prop}:conf P A W (unsupported u:Sem α) K:=trivial
theorem zakk {v:Value} {K:NB->NB->α->Prop}:conf P A W (goPanic v:Sem α) K:=trivial
theorem zacj {n:Nat} {K:NB->NB->Unit->Prop} (hk:K A W ()):conf P A W (askRoom n) K:=by
 unfold askRoom;split
 · exact ⟨rfl,hk⟩
 · exact hk
def Bare (P:Program) (x:Sem α):Prop:=∀{A W:NB} {K:NB->NB->α->Prop},(∀v,K A W v)->conf P A W x K
theorem Bare.bind {x:Sem α} {f:α->Sem β} (h:Bare P x) (hf:∀a,Bare P (f a)):Bare P (x >>= f):=fun hk=>zaaa.2 (h fun v=>hf v hk)
theorem Bare.map {x:Sem α} {f:α->β} (h:Bare P x):Bare P (f <$> x):=fun hk=>zahu.2 (h fun v=>hk _)
theorem Bare.pure (a:α):Bare P (Pure.pure a:Sem α):=fun hk=>hk a
theorem Bare.halt (h:Halt):Bare P (.halt h:Sem α):=fun _=>trivial
theorem Bare.stuck (s:String):Bare P (stuck s:Sem α):=fun _=>trivial
theorem Bare.unsupported (s:Unsupported):Bare P (unsupported s:Sem α):=fun _=>trivial
theorem Bare.goPanic (v:Value):Bare P (goPanic v:Sem α):=fun _=>trivial
theorem Bare.program:Bare P program:=fun hk=>hk _
theorem Bare.shape (r:Nat):Bare P (shape r):=fun hk=>hk
theorem Bare.frozen (r:Addr):Bare P (frozen r):=fun hk=>hk
theorem Bare.choose (q:Question):Bare P (choose q):=fun hk=>hk
theorem zaan (t:TypeId):Bare P (typeInfo t):=by unfold typeInfo;(repeat' first | (with_reducible first | exact Bare.pure _ | exact Bare.halt _ | exact Bare.stuck _ | exact Bare.unsupported _ | exact Bare.goPanic _ | exact Bare.program | exact Bare.shape _ | exact Bare.frozen _ | exact Bare.choose _) | assumption | (with_reducible first | refine Bare.bind ?_ (fun _=>?_) | refine Bare.map ?_) | split | dsimp only)
theorem zaaf (t:TypeId):Bare P (underlying t):=by unfold underlying;have:=zaan (P:=P);(repeat' first | (with_reducible first | exact Bare.pure _ | exact Bare.halt _ | exact Bare.stuck _ | exact Bare.unsupported _ | exact Bare.goPanic _ | exact Bare.program | exact Bare.shape _ | exact Bare.frozen _ | exact Bare.choose _) | assumption | (with_reducible first | refine Bare.bind ?_ (fun _=>?_) | refine Bare.map ?_) | split | dsimp only) <;> exact this _
theorem zaar (t:TypeId):Bare P (zeroValue t):=by unfold zeroValue;have:=zaan (P:=P);(repeat' first | (with_reducible first | exact Bare.pure _ | exact Bare.halt _ | exact Bare.stuck _ | exact Bare.unsupported _ | exact Bare.goPanic _ | exact Bare.program | exact Bare.shape _ | exact Bare.frozen _ | exact Bare.choose _) | assumption | (with_reducible first | refine Bare.bind ?_ (fun _=>?_) | refine Bare.map ?_) | split | dsimp only) <;> exact this _
theorem zaax (t:TypeId):Bare P (sizeOf t):=by unfold sizeOf;have:=zaan (P:=P);(repeat' first | (with_reducible first | exact Bare.pure _ | exact Bare.halt _ | exact Bare.stuck _ | exact Bare.unsupported _ | exact Bare.goPanic _ | exact Bare.program | exact Bare.shape _ | exact Bare.frozen _ | exact Bare.choose _) | assumption | (with_reducible first | refine Bare.bind ?_ (fun _=>?_) | refine Bare.map ?_) | split | dsimp only) <;> exact this _
theorem zad9 (t:TypeId):Bare P (isAgg t):=by unfold isAgg;have:=zaaf (P:=P);(repeat' first | (with_reducible first | exact Bare.pure _ | exact Bare.halt _ | exact Bare.stuck _ | exact Bare.unsupported _ | exact Bare.goPanic _ | exact Bare.program | exact Bare.shape _ | exact Bare.frozen _ | exact Bare.choose _) | assumption | (with_reducible first | refine Bare.bind ?_ (fun _=>?_) | refine Bare.map ?_) | split | dsimp only) <;> exact this _
theorem zamm (t:TypeId):Bare P (elemOf t):=by unfold elemOf;have:=zaaf (P:=P);(repeat' first | (with_reducible first | exact Bare.pure _ | exact Bare.halt _ | exact Bare.stuck _ | exact Bare.unsupported _ | exact Bare.goPanic _ | exact Bare.program | exact Bare.shape _ | exact Bare.frozen _ | exact Bare.choose _) | assumption | (with_reducible first | refine Bare.bind ?_ (fun _=>?_) | refine Bare.map ?_) | split | dsimp only) <;> exact this _
theorem zall (t:TypeId) (cs:Array Value) (off:Nat):Bare P (part t cs off):=by unfold part;have:=zad9 (P:=P);have h2:=zaax (P:=P);(repeat' first | (with_reducible first | exact Bare.pure _ | exact Bare.halt _ | exact Bare.stuck _ | exact Bare.unsupported _ | exact Bare.goPanic _ | exact Bare.program | exact Bare.shape _ | exact Bare.frozen _ | exact Bare.choose _) | assumption | (with_reducible first | refine Bare.bind ?_ (fun _=>?_) | refine Bare.map ?_) | split | dsimp only) <;> first | exact this _ | exact h2 _
theorem zab3 (v:Value):Bare P (asIntOf v):=by unfold asIntOf;(repeat' first | (with_reducible first | exact Bare.pure _ | exact Bare.halt _ | exact Bare.stuck _ | exact Bare.unsupported _ | exact Bare.goPanic _ | exact Bare.program | exact Bare.shape _ | exact Bare.frozen _ | exact Bare.choose _) | assumption | (with_reducible first | refine Bare.bind ?_ (fun _=>?_) | refine Bare.map ?_) | split | dsimp only)
theorem zajb (v:Value):Bare P (asInt v):=by unfold asInt;have:=zab3 (P:=P);(repeat' first | (with_reducible first | exact Bare.pure _ | exact Bare.halt _ | exact Bare.stuck _ | exact Bare.unsupported _ | exact Bare.goPanic _ | exact Bare.program | exact Bare.shape _ | exact Bare.frozen _ | exact Bare.choose _) | assumption | (with_reducible first | refine Bare.bind ?_ (fun _=>?_) | refine Bare.map ?_) | split | dsimp only) <;> exact this _
theorem zae8 (v:Value):Bare P (asBool v):=by unfold asBool;(repeat' first | (with_reducible first | exact Bare.pure _ | exact Bare.halt _ | exact Bare.stuck _ | exact Bare.unsupported _ | exact Bare.goPanic _ | exact Bare.program | exact Bare.shape _ | exact Bare.frozen _ | exact Bare.choose _) | assumption | (with_reducible first | refine Bare.bind ?_ (fun _=>?_) | refine Bare.map ?_) | split | dsimp only)
theorem zaq8 (v:Value):Bare P (asString v):=by unfold asString;(repeat' first | (with_reducible first | exact Bare.pure _ | exact Bare.halt _ | exact Bare.stuck _ | exact Bare.unsupported _ | exact Bare.goPanic _ | exact Bare.program | exact Bare.shape _ | exact Bare.frozen _ | exact Bare.choose _) | assumption | (with_reducible first | refine Bare.bind ?_ (fun _=>?_) | refine Bare.map ?_) | split | dsimp only)
theorem zan1 (v:Value):Bare P (asAgg v):=by unfold asAgg;(repeat' first | (with_reducible first | exact Bare.pure _ | exact Bare.halt _ | exact Bare.stuck _ | exact Bare.unsupported _ | exact Bare.goPanic _ | exact Bare.program | exact Bare.shape _ | exact Bare.frozen _ | exact Bare.choose _) | assumption | (with_reducible first | refine Bare.bind ?_ (fun _=>?_) | refine Bare.map ?_) | split | dsimp only)
theorem zafu (v:Value):Bare P (Instr.sureAddr v):=by unfold Instr.sureAddr;(repeat' first | (with_reducible first | exact Bare.pure _ | exact Bare.halt _ | exact Bare.stuck _ | exact Bare.unsupported _ | exact Bare.goPanic _ | exact Bare.program | exact Bare.shape _ | exact Bare.frozen _ | exact Bare.choose _) | assumption | (with_reducible first | refine Bare.bind ?_ (fun _=>?_) | refine Bare.map ?_) | split | dsimp only)
def Doomed (P:Program) (x:Sem α):Prop:=∀{A W:NB} {K:NB->NB->α->Prop},conf P A W x K
theorem zaas (e:RuntimeError):Doomed P (runtimePanic e:Sem α):=by
 intro A W K
 unfold runtimePanic
 refine zaaa.2 (zabz ?_)
 cases e <;> first
  | exact zakk
  | (
   dsimp only
   refine zaaa.2 (zamm _ fun t=>?_)
   refine zaaa.2 ?_
   unfold newVar newRow
   refine zaaa.2 (zaef rfl fun r=>?_)
   trivial)
theorem zaa3 (e:RuntimeError):Bare P (runtimePanic e:Sem α):=fun _=>zaas e
theorem zabq (k:IntKind) (x y:Int) (c:BoundsCode):Bare P (boundsPanic k x y c:Sem α):=by
 unfold boundsPanic
 have h:=zaa3 (P:=P) (α:=α)
 (repeat' first | (with_reducible first | exact Bare.pure _ | exact Bare.halt _ | exact Bare.stuck _ | exact Bare.unsupported _ | exact Bare.goPanic _ | exact Bare.program | exact Bare.shape _ | exact Bare.frozen _ | exact Bare.choose _) | assumption | (with_reducible first | refine Bare.bind ?_ (fun _=>?_) | refine Bare.map ?_) | split | dsimp only) <;> exact h _
theorem zamr (v:Value):Bare P (asAddr v):=by
 unfold asAddr
 (repeat' first | (with_reducible first | exact Bare.pure _ | exact Bare.halt _ | exact Bare.stuck _ | exact Bare.unsupported _ | exact Bare.goPanic _ | exact Bare.program | exact Bare.shape _ | exact Bare.frozen _ | exact Bare.choose _) | assumption | (with_reducible first | refine Bare.bind ?_ (fun _=>?_) | refine Bare.map ?_) | split | dsimp only) <;> exact zaa3 _
theorem zag4 (x:Value) (y:Nat) (c:BoundsCode):Bare P (Instr.sliceBound x y c):=by
 unfold Instr.sliceBound
 have h1:=zabq (P:=P) (α:=Nat)
 have h5:=zab3 (P:=P)
 (repeat' first | (with_reducible first | exact Bare.pure _ | exact Bare.halt _ | exact Bare.stuck _ | exact Bare.unsupported _ | exact Bare.goPanic _ | exact Bare.program | exact Bare.shape _ | exact Bare.frozen _ | exact Bare.choose _) | assumption | (with_reducible first | refine Bare.bind ?_ (fun _=>?_) | refine Bare.map ?_) | split | dsimp only) <;> first | exact h1 _ _ _ _ | exact h5 _
theorem zad2 (b:Bool) (n m:Nat) (x y z:Option Value):Bare P (Instr.sliceBounds b n m x y z):=by
 unfold Instr.sliceBounds
 have h1:=zag4 (P:=P)
 (repeat' first | (with_reducible first | exact Bare.pure _ | exact Bare.halt _ | exact Bare.stuck _ | exact Bare.unsupported _ | exact Bare.goPanic _ | exact Bare.program | exact Bare.shape _ | exact Bare.frozen _ | exact Bare.choose _) | assumption | (with_reducible first | refine Bare.bind ?_ (fun _=>?_) | refine Bare.map ?_) | split | dsimp only) <;> exact h1 _ _ _
theorem zanq (t:TypeId) (x:Value) (l h m:Option Value):Bare P (Instr.slice t x l h m):=by
 unfold Instr.slice
 have h1:=zad2 (P:=P)
 have h2:=zaaf (P:=P)
 have h3:=zaax (P:=P)
 have h4:=zamr (P:=P)
 (repeat' first | (with_reducible first | exact Bare.pure _ | exact Bare.halt _ | exact Bare.stuck _ | exact Bare.unsupported _ | exact Bare.goPanic _ | exact Bare.program | exact Bare.shape _ | exact Bare.frozen _ | exact Bare.choose _) | assumption | (with_reducible first | refine Bare.bind ?_ (fun _=>?_) | refine Bare.map ?_) | split | dsimp only) <;> first | exact h1 _ _ _ _ _ _ | exact h2 _ | exact h3 _ | exact h4 _
theorem zak5 (t:TypeId) (x:Value) (l h m:Option Value):Bare P (Instr.sliceAt t x l h m):=by
 unfold Instr.sliceAt
 have h1:=zad2 (P:=P)
 have h2:=zaaf (P:=P)
 have h3:=zaax (P:=P)
 have h4:=zafu (P:=P)
 have h5:=zanq (P:=P)
 (repeat' first | (with_reducible first | exact Bare.pure _ | exact Bare.halt _ | exact Bare.stuck _ | exact Bare.unsupported _ | exact Bare.goPanic _ | exact Bare.program | exact Bare.shape _ | exact Bare.frozen _ | exact Bare.choose _) | assumption | (with_reducible first | refine Bare.bind ?_ (fun _=>?_) | refine Bare.map ?_) | split | dsimp only) <;> first | exact h1 _ _ _ _ _ _ | exact h2 _ | exact h3 _ | exact h4 _ | exact h5 _ _ _ _ _
theorem zakt (t:TypeId) (x i:Value):Bare P (Instr.indexAt t x i):=by
 unfold Instr.indexAt
 have h1:=zabq (P:=P) (α:=Value)
 have h2:=zaaf (P:=P)
 have h3:=zaax (P:=P)
 have h4:=zafu (P:=P)
 have h5:=zab3 (P:=P)
 (repeat' first | (with_reducible first | exact Bare.pure _ | exact Bare.halt _ | exact Bare.stuck _ | exact Bare.unsupported _ | exact Bare.goPanic _ | exact Bare.program | exact Bare.shape _ | exact Bare.frozen _ | exact Bare.choose _) | assumption | (with_reducible first | refine Bare.bind ?_ (fun _=>?_) | refine Bare.map ?_) | split | dsimp only) <;> first | exact h1 _ _ _ _ | exact h2 _ | exact h3 _ | exact h4 _ | exact h5 _
theorem zaon (t:TypeId) (x i:Value):Bare P (Instr.index t x i):=by
 unfold Instr.index
 have h1:=zabq (P:=P) (α:=Value)
 have h2:=zaaf (P:=P)
 have h3:=zaax (P:=P)
 have h4:=zall (P:=P)
 have h5:=zab3 (P:=P)
 (repeat' first | (with_reducible first | exact Bare.pure _ | exact Bare.halt _ | exact Bare.stuck _ | exact Bare.unsupported _ | exact Bare.goPanic _ | exact Bare.program | exact Bare.shape _ | exact Bare.frozen _ | exact Bare.choose _) | assumption | (with_reducible first | refine Bare.bind ?_ (fun _=>?_) | refine Bare.map ?_) | split | dsimp only) <;> first | exact h1 _ _ _ _ | exact h2 _ | exact h3 _ | exact h4 _ _ _ | exact h5 _
theorem zaop (t:TypeId) (x:Value) (f:Nat):Bare P (Instr.field t x f):=by
 unfold Instr.field
 have h2:=zaaf (P:=P)
 have h4:=zall (P:=P)
 have h5:=zan1 (P:=P)
 (repeat' first | (with_reducible first | exact Bare.pure _ | exact Bare.halt _ | exact Bare.stuck _ | exact Bare.unsupported _ | exact Bare.goPanic _ | exact Bare.program | exact Bare.shape _ | exact Bare.frozen _ | exact Bare.choose _) | assumption | (with_reducible first | refine Bare.bind ?_ (fun _=>?_) | refine Bare.map ?_) | split | dsimp only) <;> first | exact h2 _ | exact h4 _ _ _ | exact h5 _
theorem zafe (t:TypeId) (x:Value):Bare P (Instr.makeInterface t x):=by
 unfold Instr.makeInterface
 have h2:=zaaf (P:=P)
 (repeat' first | (with_reducible first | exact Bare.pure _ | exact Bare.halt _ | exact Bare.stuck _ | exact Bare.unsupported _ | exact Bare.goPanic _ | exact Bare.program | exact Bare.shape _ | exact Bare.frozen _ | exact Bare.choose _) | assumption | (with_reducible first | refine Bare.bind ?_ (fun _=>?_) | refine Bare.map ?_) | split | dsimp only) <;> exact h2 _
theorem zaj8 (x:Value) (i:Nat):Bare P (Instr.extract x i):=by unfold Instr.extract;(repeat' first | (with_reducible first | exact Bare.pure _ | exact Bare.halt _ | exact Bare.stuck _ | exact Bare.unsupported _ | exact Bare.goPanic _ | exact Bare.program | exact Bare.shape _ | exact Bare.frozen _ | exact Bare.choose _) | assumption | (with_reducible first | refine Bare.bind ?_ (fun _=>?_) | refine Bare.map ?_) | split | dsimp only)
theorem zag1 (x:Value) (s t:TypeId) (ok:Bool):Bare P (Instr.typeAssert x s t ok):=by
 unfold Instr.typeAssert
 have h1:=zaa3 (P:=P) (α:=Value)
 have h2:=zaaf (P:=P)
 have h3:=zaan (P:=P)
 have h4:=zaar (P:=P)
 (repeat' first | (with_reducible first | exact Bare.pure _ | exact Bare.halt _ | exact Bare.stuck _ | exact Bare.unsupported _ | exact Bare.goPanic _ | exact Bare.program | exact Bare.shape _ | exact Bare.frozen _ | exact Bare.choose _) | assumption | (with_reducible first | refine Bare.bind ?_ (fun _=>?_) | refine Bare.map ?_) | split | dsimp only) <;> first | exact h1 _ | exact h2 _ | exact h3 _ | exact h4 _
theorem zac6 (a:Addr) (ha:A a.block):∀(n i:Nat) (acc:Array Value) {K:NB->NB->Array Value->Prop},(∀v,K A W v)->conf P A W (loadCellsFrom a i n acc) K
 | 0,i,acc,K,hk=>hk _
 | n+1,i,acc,K,hk=>by
  unfold loadCellsFrom
  exact zaaa.2 (zaif rfl (by rw [addBlock];exact ha) fun v=>zac6 a ha n (i+1) _ hk)
theorem zadm {a:Addr} (ha:A a.block) {n:Nat} {K:NB->NB->Array Value->Prop} (hk:∀v,K A W v):conf P A W (loadCells a n) K:=zac6 a ha _ _ _ hk
theorem zaa4 {a:Addr} (ha:W a.block):∀(l:List Value) (i:Nat) {K:NB->NB->Unit->Prop},K A W ()->conf P A W (storeCells a l i) K
 | [],i,K,hk=>hk
 | v::l,i,K,hk=>by
  unfold storeCells
  exact zaaa.2 (zao6 rfl (by rw [addBlock];exact ha) (zaa4 ha l (i+1) hk))
theorem zafi {t:TypeId} {x:Value} (hx:∀a,x = .pointer (some a)->A a.block) {K:NB->NB->Value->Prop} (hk:∀v,K A W v):conf P A W (Instr.loadAt t x) K:=by
 unfold Instr.loadAt Instr.sureAddr
 refine zaaa.2 ?_
 split
 · rename_i a
   have ha:=hx a rfl
   refine zaac.2 ?_
   unfold loadVar
   refine zaaa.2 (zad9 _ fun b=>?_)
   split
   · exact zaaa.2 (zaax _ fun n=>zaaa.2 (zadm ha fun v=>zaac.2 (hk _)))
   · exact zaif rfl ha hk
 · exact zaaj
theorem zajl {t:TypeId} {a:Addr} {v:Value} (ha:W a.block) {K:NB->NB->Unit->Prop} (hk:K A W ()):conf P A W (storeVar t a v) K:=by
 unfold storeVar
 refine zaaa.2 (zaax _ fun n=>?_)
 split
 · exact zaaa.2 zaaj
 · exact zaa4 ha _ _ hk
theorem zagn {t:TypeId} {x v:Value} (hx:∀a,x = .pointer (some a)->W a.block) {K:NB->NB->Unit->Prop} (hk:K A W ()):conf P A W (Instr.storeAt t x v) K:=by
 unfold Instr.storeAt Instr.sureAddr
 refine zaaa.2 ?_
 split
 · rename_i a;exact zaac.2 (zajl (hx a rfl) hk)
 · exact zaaj
theorem zahn {t:TypeId} {v:Value} {K:NB->NB->Addr->Prop} (hk:∀A W v,K A W v):conf P A W (newVar t v) K:=by
 unfold newVar newRow
 exact zaaa.2 (zaef rfl fun r=>zaac.2 (hk _ _ _))
theorem zans {t:TypeId} {K:NB->NB->Value->Prop} (hk:∀A W v,K A W v):conf P A W (Instr.alloc t true (.tuple #[])) K:=by
 unfold Instr.alloc
 refine zaaa.2 (zaar _ fun z=>?_)
 exact zaaa.2 (zahn fun A W v=>zaac.2 (hk _ _ _))
theorem zasf {t:TypeId} {x:Value} {K:NB->NB->Value->Prop} (hk:∀A W v,K A W v):conf P A W (Instr.box t x) K:=by
 unfold Instr.box
 exact zaaa.2 (zahn fun A W v=>zaac.2 (hk _ _ _))
theorem zaky {t:TypeId} {K:NB->NB->Value->Prop} (hk:∀A W v,K A W v):conf P A W (Instr.makeMap t none) K:=by
 unfold Instr.makeMap
 exact zaaa.2 (zaef rfl fun r=>zaac.2 (hk _ _ _))
end
end Go.Co
namespace Go.Co
open Go Go.Conc
section
variable {P:Program} {α β:Type} {A W:NB}
theorem zagw (n:Nat):Bare P (askRoom n):=fun hk=>zacj (hk _)
theorem zae2 {x:α->Sem β} (h:∀a,Bare P (x a)):∀l:List α,Bare P (l.mapM x)
 | []=>by rw [List.mapM_nil];exact Bare.pure _
 | a::l=>by rw [List.mapM_cons];exact Bare.bind (h a) fun b=>Bare.bind (zae2 h l) fun bs=>Bare.pure _
theorem zapp {x:α->Sem β} (h:∀a,Bare P (x a)) (l:Array α):Bare P (l.mapM x):=by
 rw [Array.mapM_eq_mapM_toList];exact Bare.map (zae2 h _)
theorem zao9 (t:TypeId) (ps:Array (Nat×Value)):Bare P (Instr.build t ps):=by
 unfold Instr.build
 have h2:=zaaf (P:=P)
 have h3:=zaax (P:=P)
 have h4:=zaar (P:=P)
 (repeat' first | (with_reducible first | exact Bare.pure _ | exact Bare.halt _ | exact Bare.stuck _ | exact Bare.unsupported _ | exact Bare.goPanic _ | exact Bare.program | exact Bare.shape _ | exact Bare.frozen _ | exact Bare.choose _) | assumption | (with_reducible first | refine Bare.bind ?_ (fun _=>?_) | refine Bare.map ?_) | split | dsimp only) <;> first | exact h2 _ | exact h3 _ | exact h4 _ | exact zapp (fun f=>Bare.bind (zaax _) fun _=>Bare.pure _) _
def Makes (P:Program) (x:Sem α):Prop:=∀{A W:NB} {K:NB->NB->α->Prop},(∀A W v,K A W v)->conf P A W x K
theorem Bare.makes {x:Sem α} (h:Bare P x):Makes P x:=fun hk=>h fun v=>hk _ _ v
theorem Makes.bind {x:Sem α} {f:α->Sem β} (h:Makes P x) (hf:∀a,Makes P (f a)):Makes P (x >>= f):=fun hk=>zaaa.2 (h fun A W v=>hf v hk)
theorem Makes.map {x:Sem α} {f:α->β} (h:Makes P x):Makes P (f <$> x):=fun hk=>zahu.2 (h fun A W v=>hk _ _ _)
theorem Makes.ite {c:Prop} [Decidable c] {x y:Sem α} (h1:Makes P x) (h2:Makes P y):Makes P (if c then x else y):=fun hk=>by split;exact h1 hk;exact h2 hk
theorem zacv (t:TypeId) (c:Array Value):Makes P (newRow t c):=fun hk=>by
 unfold newRow
 exact zaaa.2 (zaef rfl fun r=>zaac.2 (hk _ _ _))
theorem zago (t:TypeId) (v:Value):Makes P (newVar t v):=zacv t _
theorem zadw (t:TypeId) (n:Nat) (ps:Array (Nat×Value)):Makes P (Instr.buildSlice t n ps):=by unfold Instr.buildSlice;(repeat' first | (with_reducible first | exact Bare.makes (Bare.pure _) | exact Bare.makes (Bare.halt _) | exact Bare.makes (Bare.stuck _) | exact Bare.makes (Bare.unsupported _) | exact Bare.makes (Bare.goPanic _) | exact Bare.makes Bare.program | exact Bare.makes (Bare.shape _) | exact Bare.makes (Bare.choose _) | exact zacv _ _ | exact zago _ _ | exact Bare.makes (zaaf _) | exact Bare.makes (zaan _) | exact Bare.makes (zaax _) | exact Bare.makes (zaar _) | exact Bare.makes (zad9 _) | exact Bare.makes (zajb _) | exact Bare.makes (zab3 _) | exact Bare.makes (zagw _) | exact Bare.makes (zaa3 _) | exact Bare.makes (zabq _ _ _ _) | refine Makes.ite ?_ ?_ | refine Makes.bind ?_ (fun _=>?_) | refine Makes.map ?_) | split | dsimp only)
theorem zaix (t:TypeId):Makes P (Instr.makeMap t none):=fun hk=>zaky hk
theorem zamt (t:TypeId):Makes P (Instr.alloc t true (.tuple #[])):=fun hk=>zans hk
theorem zaq0 (t:TypeId) (x:Value):Makes P (Instr.box t x):=fun hk=>zasf hk
theorem zafr (op:BinOp) (k:IntKind) (x y:Int):Bare P (Op.intArith op k x y):=by unfold Op.intArith;(repeat' first | (with_reducible first | exact Bare.pure _ | exact Bare.halt _ | exact Bare.stuck _ | exact Bare.unsupported _ | exact Bare.goPanic _ | exact Bare.program | exact Bare.shape _ | exact Bare.frozen _ | exact Bare.choose _) | assumption | (with_reducible first | refine Bare.bind ?_ (fun _=>?_) | refine Bare.map ?_) | split | dsimp only)
theorem zaf3 (op:BinOp) (k:IntKind) (x y:Int):Bare P (Op.intBits op k x y):=by
 unfold Op.intBits
 cases op <;> first | exact Bare.pure _ | exact Bare.stuck _
theorem zamy (op:BinOp) (x y:Int):Bare P (Op.intCmp op x y):=by unfold Op.intCmp;(repeat' first | (with_reducible first | exact Bare.pure _ | exact Bare.halt _ | exact Bare.stuck _ | exact Bare.unsupported _ | exact Bare.goPanic _ | exact Bare.program | exact Bare.shape _ | exact Bare.frozen _ | exact Bare.choose _) | assumption | (with_reducible first | refine Bare.bind ?_ (fun _=>?_) | refine Bare.map ?_) | split | dsimp only)
theorem zamo (op:BinOp) (k:IntKind) (x y:Int):Bare P (Op.intDiv op k x y):=by unfold Op.intDiv;(repeat' first | (with_reducible first | exact Bare.pure _ | exact Bare.halt _ | exact Bare.stuck _ | exact Bare.unsupported _ | exact Bare.goPanic _ | exact Bare.program | exact Bare.shape _ | exact Bare.frozen _ | exact Bare.choose _) | assumption | (with_reducible first | refine Bare.bind ?_ (fun _=>?_) | refine Bare.map ?_) | split | dsimp only) <;> exact zaa3 _
theorem zanm (op:BinOp) (k:IntKind) (x:Int) (yk:IntKind) (y:Int):Bare P (Op.shift op k x yk y):=by unfold Op.shift;(repeat' first | (with_reducible first | exact Bare.pure _ | exact Bare.halt _ | exact Bare.stuck _ | exact Bare.unsupported _ | exact Bare.goPanic _ | exact Bare.program | exact Bare.shape _ | exact Bare.frozen _ | exact Bare.choose _) | assumption | (with_reducible first | refine Bare.bind ?_ (fun _=>?_) | refine Bare.map ?_) | split | dsimp only) <;> exact zaa3 _
theorem zad3 (op:BinOp) (a b:ByteArray):Bare P (Op.stringOp op a b):=by unfold Op.stringOp;(repeat' first | (with_reducible first | exact Bare.pure _ | exact Bare.halt _ | exact Bare.stuck _ | exact Bare.unsupported _ | exact Bare.goPanic _ | exact Bare.program | exact Bare.shape _ | exact Bare.frozen _ | exact Bare.choose _) | assumption | (with_reducible first | refine Bare.bind ?_ (fun _=>?_) | refine Bare.map ?_) | split | dsimp only)
theorem zam9 (op:UnOp) (x:Value):Bare P (Op.unary op x):=by
 unfold Op.unary
 split <;> first | exact Bare.pure _ | exact Bare.stuck _ | exact Bare.unsupported _ | exact zafr _ _ _ _ | exact zaf3 _ _ _ _
theorem zaqd (x y:Value):Bare P (Builtin.max2 x y):=by
 unfold Builtin.max2
 have h1:=zad3 (P:=P)
 have h2:=zae8 (P:=P)
 (repeat' first | (with_reducible first | exact Bare.pure _ | exact Bare.halt _ | exact Bare.stuck _ | exact Bare.unsupported _ | exact Bare.goPanic _ | exact Bare.program | exact Bare.shape _ | exact Bare.frozen _ | exact Bare.choose _) | assumption | (with_reducible first | refine Bare.bind ?_ (fun _=>?_) | refine Bare.map ?_) | split | dsimp only) <;> first | exact h1 _ _ _ | exact h2 _
theorem zaqc (x y:Value):Bare P (Builtin.min2 x y):=by
 unfold Builtin.min2
 have h1:=zad3 (P:=P)
 have h2:=zae8 (P:=P)
 (repeat' first | (with_reducible first | exact Bare.pure _ | exact Bare.halt _ | exact Bare.stuck _ | exact Bare.unsupported _ | exact Bare.goPanic _ | exact Bare.program | exact Bare.shape _ | exact Bare.frozen _ | exact Bare.choose _) | assumption | (with_reducible first | refine Bare.bind ?_ (fun _=>?_) | refine Bare.map ?_) | split | dsimp only) <;> first | exact h1 _ _ _ | exact h2 _
theorem zafl {a:Addr} (ha:A a.block) {K:NB->NB->Unit->Prop} (hk:K A W ()):conf P A W (noView a) K:=by
 unfold noView viewAt
 refine zaaa.2 (zaaa.2 (zaio fun x=>?_))
 split
 · refine zaac.2 ?_
   exact zaac.2 hk
 · refine zaaa.2 (zadb ha fun ms c=>?_)
   exact zaac.2 (zaac.2 hk)
theorem zahs {a:Addr} (ha:A a.block) {K:NB->NB->Nat->Prop} (hk:∀v,K A W v):conf P A W (byteOf a) K:=by
 unfold byteOf
 split
 · exact zaac.2 (hk _)
 · refine zaaa.2 (zabz (zaaa.2 (zafl ha (zaaa.2 (zaio fun x=>?_)))))
   split
   · dsimp only
     split
     · exact zaac.2 (hk _)
     · split
       · exact zaac.2 (hk _)
       · exact zaaj
   · exact zaaj
theorem zal5 {a:Addr} (ha:A a.block) {n m:Nat} {K:NB->NB->Addr->Prop} (hk:∀v,K A W v):conf P A W (partAt a n m) K:=by
 unfold partAt
 refine zaaa.2 (zahs ha fun b=>?_)
 exact zaaa.2 (zahs (by exact ha) fun b=>zaac.2 (hk _))
theorem zar3 {t:TypeId} {x:Value} {f:Nat} (hx:∀a,x = .pointer (some a)->A a.block) {K:NB->NB->Value->Prop} (hk:∀v,K A W v):conf P A W (Instr.fieldAt t x f) K:=by
 unfold Instr.fieldAt
 refine zaaa.2 (zaaf _ fun D=>?_)
 split
 · split
   · unfold Instr.sureAddr
     refine zaaa.2 ?_
     split
     · rename_i a
       have ha:=hx a rfl
       refine zaac.2 (zaaa.2 ?_)
       unfold fieldPlace
       refine zaaa.2 (zaax _ fun n=>?_)
       split
       · exact zal5 ha fun v=>zaac.2 (hk _)
       · exact zaac.2 (zaac.2 (hk _))
     · exact zaaj
   · exact zaaj
 · exact zaaj
theorem zaej {a:Addr} {n:Nat} (ha:n=0\/A a.block) {K:NB->NB->Array Value->Prop} (hk:∀v,K A W v):conf P A W (loadCells a n) K:=by
 rcases ha with rfl | ha
 · exact zaac.2 (hk _)
 · exact zadm ha hk
theorem zaat {size n:Nat} {x:Value} (hx:∀a k c,x = .slice (some a) k c->n=0\/A a.block) {K:NB->NB->Array Value->Prop} (hk:∀v,K A W v):conf P A W (Builtin.firstCells size n x) K:=by
 unfold Builtin.firstCells
 split
 · rename_i a k c;exact zaej ((hx _ _ _ rfl).imp (fun h=>by rw [h];simp) id) hk
 · exact zaac.2 (hk _)
 · exact zaac.2 (hk _)
 · exact zaaj
theorem zat0 (x:Value):Bare P (Builtin.lenOf x):=by unfold Builtin.lenOf;(repeat' first | (with_reducible first | exact Bare.pure _ | exact Bare.halt _ | exact Bare.stuck _ | exact Bare.unsupported _ | exact Bare.goPanic _ | exact Bare.program | exact Bare.shape _ | exact Bare.frozen _ | exact Bare.choose _) | assumption | (with_reducible first | refine Bare.bind ?_ (fun _=>?_) | refine Bare.map ?_) | split | dsimp only)
theorem zapd {x:Value} {K:NB->NB->Nat->Prop} (hk:∀m,(∀b k c,x = .slice b k c->m=k)->K A W m):conf P A W (Builtin.lenOf x) K:=by
 unfold Builtin.lenOf
 split
 · exact zaac.2 (hk _ fun b k c e=>by cases e;rfl)
 · exact zaac.2 (hk _ fun b k c e=>by cases e)
 · exact zaaj
theorem zak9 {ats:Array TypeId} {ty:TypeId} {x y:Value} (hx:∀a k c,x = .slice (some a) k c->W a.block) (hy:∀a k c,y = .slice (some a) k c->k=0\/A a.block) {K:NB->NB->Value->Prop} (hk:∀v,K A W v):conf P A W (Builtin.copy_ ats ty #[x,y]) K:=by
 unfold Builtin.copy_
 split
 · rename_i q t d src h
   simp only [List.getElem?_toArray,List.getElem?_cons_zero,List.getElem?_cons_succ,Option.some.injEq,Prod.mk.injEq] at h
   obtain ⟨_,rfl,rfl⟩:=h
   refine zaaa.2 (zaaf _ fun D=>?_)
   split
   · split
     · rename_i base n c
       refine zaaa.2 (zapd fun m hm=>?_)
       refine zaaa.2 (zaax _ fun sz=>?_)
       refine zaaa.2 (zaat (fun a k c e=>(hy a k c e).imp (fun h=>by have:=hm _ _ _ e;rw [this,h];simp) id) fun cs=>?_)
       split
       · rename_i a;exact zaaa.2 (zaa4 (hx _ _ _ rfl) _ _ (zaac.2 (hk _)))
       · exact zaac.2 (hk _)
     · exact zaaj
   · exact zaaj
 · exact zaaj
theorem zaek {ats:Array TypeId} {ty:TypeId} {x:Value} (hx:∀a k c,x = .slice (some a) k c->W a.block) (hm:∀r,x≠.map (some r)) {K:NB->NB->Value->Prop} (hk:∀v,K A W v):conf P A W (Builtin.clear_ ats ty #[x]) K:=by
 unfold Builtin.clear_
 split
 · rename_i q t d h
   simp only [List.getElem?_toArray,List.getElem?_cons_zero,Option.some.injEq,Prod.mk.injEq] at h
   obtain ⟨_,rfl⟩:=h
   refine zaaa.2 (zaaf _ fun D=>?_)
   split
   · exact zaaa.2 (zaac.2 (zaac.2 (hk _)))
   · exact zaaa.2 (zaac.2 (zaac.2 (hk _)))
   · exact zaaa.2 (zaac.2 (zaac.2 (hk _)))
   · rename_i r;exact absurd rfl (hm r)
   · refine zaaa.2 (zaar _ fun z=>?_)
     exact zaaa.2 (zaa4 (hx _ _ _ rfl) _ _ (zaac.2 (hk _)))
   · exact zaaa.2 zaaj
 · exact zaaj
theorem zah9 (l:List Value) (s:ByteArray):Bare P (forIn (m:=Sem) l s fun c r=>do
 let .int .u8 n:=c | stuck "bytesToString: byte expected"
 pure (ForInStep.yield (r.push (UInt8.ofNat n.toNat)))):=by
 induction l generalizing s with
 | nil=>exact Bare.pure _
 | cons c l ih=>
  rw [List.forIn_cons]
  refine Bare.bind ?_ fun st=>?_
  · split
    · exact Bare.pure _
    · exact Bare.stuck _
  · cases st
    · exact Bare.pure _
    · exact ih _
theorem zae7 {x:Value} (hx:∀a k c,x = .slice (some a) k c->k=0\/A a.block) {K:NB->NB->Value->Prop} (hk:∀v,K A W v):conf P A W (Conv.bytesToString x) K:=by
 unfold Conv.bytesToString
 split
 · exact zaac.2 (hk _)
 · rename_i a n c
   refine zaaa.2 (zaej (hx _ _ _ rfl) fun cs=>?_)
   dsimp only
   rw [<- Array.forIn_toList]
   exact zaaa.2 (zah9 _ _ fun s=>zaac.2 (hk _))
 · exact zaaj
theorem zaf9 {ats:Array TypeId} {ty:TypeId} {x:Value} (hm:∀r,x≠.map (some r)) (hc:∀r,x≠.chan (some r)):Bare P (Builtin.len_ ats ty #[x]):=by
 intro A W K hk
 unfold Builtin.len_
 split
 · rename_i q t d h
   simp only [List.getElem?_toArray,List.getElem?_cons_zero,Option.some.injEq,Prod.mk.injEq] at h
   obtain ⟨_,rfl⟩:=h
   refine zaaa.2 (zaaf _ fun D=>?_)
   split
   · exact zaac.2 (hk _)
   · exact zaac.2 (hk _)
   · refine zaaa.2 (zaaf _ fun D=>?_)
     split
     · exact zaac.2 (hk _)
     · exact zaaj
   · exact zaac.2 (hk _)
   · exact zaac.2 (hk _)
   · exact zaac.2 (hk _)
   · exact absurd rfl (hm _)
   · exact absurd rfl (hc _)
   · exact zaaj
 · exact zaaj
end
end Go.Co
namespace Go.Co
open Go Go.Conc
section
variable {P:Program} {α β:Type} {A W:NB}
theorem zaam {t:TypeId} {K:NB->NB->TypeDesc->Prop} (hk:∀D,P.underlying t=some D->K A W D):conf P A W (underlying t) K:=by
 unfold underlying
 refine zaaa.2 (zabz ?_)
 split
 · rename_i D h;exact zaac.2 (hk D h)
 · exact zaaj
theorem zag5 (a:Addr) (n:Nat):Bare P (Builtin.holdsCells a n):=by unfold Builtin.holdsCells;(repeat' first | (with_reducible first | exact Bare.pure _ | exact Bare.halt _ | exact Bare.stuck _ | exact Bare.unsupported _ | exact Bare.goPanic _ | exact Bare.program | exact Bare.shape _ | exact Bare.frozen _ | exact Bare.choose _) | assumption | (with_reducible first | refine Bare.bind ?_ (fun _=>?_) | refine Bare.map ?_) | split | dsimp only)
theorem zac1 (size sLen n:Nat) (base:Option Addr) (x:Value):Bare P (Builtin.mayShare size sLen n base x):=by
 unfold Builtin.mayShare
 (repeat' first | (with_reducible first | exact Bare.pure _ | exact Bare.halt _ | exact Bare.stuck _ | exact Bare.unsupported _ | exact Bare.goPanic _ | exact Bare.program | exact Bare.shape _ | exact Bare.frozen _ | exact Bare.choose _) | assumption | (with_reducible first | refine Bare.bind ?_ (fun _=>?_) | refine Bare.map ?_) | split | dsimp only) <;> exact zag5 _ _
set_option maxHeartbeats 2000000 in
theorem zaea {ats:Array TypeId} {ty:TypeId} {base:Option Addr} {n c:Nat} {y:Value} (hx:∀a,base=some a->n=0\/A a.block) (hw:∀a m,base=some a->((∃b k,y = .slice b m k)\/∃s,y = .string s/\s.size=m)->n+m<=c->W a.block)
 (hy:∀a k c,y = .slice (some a) k c->A a.block) (hz:∀t,ats[1]?=some t->∀k,P.underlying t≠some (.int k)) {K:NB->NB->Value->Prop} (hk:∀A W v,K A W v):conf P A W (Builtin.append_ ats ty #[.slice base n c,y]) K:=by
 unfold Builtin.append_
 split
 · rename_i q t s x h
   simp only [List.getElem?_toArray,List.getElem?_cons_zero,List.getElem?_cons_succ,Option.some.injEq,Prod.mk.injEq] at h
   obtain ⟨_,rfl,rfl⟩:=h
   refine zaaa.2 (zaaf _ fun D=>?_)
   split
   · dsimp only
     refine zaaa.2 (zaax _ fun sz=>?_)
     have fin:∀{A' W':NB} {t:TypeId} {cs:Array Value} {f:Addr->Value},conf P A' W' (newRow t cs >>= fun r=>pure (f r)) K:=fun {A' W' t cs f}=>zaaa.2 (zacv t cs fun A W v=>zaac.2 (hk _ _ _))
     split
     · rename_i t2 ht2
       refine zaaa.2 (zaam fun D hD=>?_)
       refine zaaa.2 (zaac.2 ?_)
       cases D
       case int k=>exact absurd hD (hz _ ht2 _)
       all_goals
        simp only [Bool.false_eq_true,if_false,Bool.not_false,if_true,false_or]
        refine zaaa.2 ?_
        unfold Builtin.lenOf
        split
        · rename_i b m k
          refine zaac.2 ?_
          split
          · rename_i hle
            refine zaaa.2 (zaat (fun a k c e=>.inr (hy a k c e)) fun new=>?_)
            split
            · rename_i a;exact zaaa.2 (zaa4 (by rw [addBlock];exact hw a m rfl (.inl ⟨_,_,rfl⟩) hle) _ _ (zaac.2 (hk _ _ _)))
            · exact zaac.2 (hk _ _ _)
          ·
           refine zaaa.2 (zaan _ fun ti=>?_)
           split
           · refine zaaa.2 (zaas _)
           · refine zaaa.2 (zaan _ fun ti=>?_)
             split
             · refine zaaa.2 (zaaa.2 (zac1 _ _ _ _ _ fun ms=>?_))
               split
               · exact zaaa.2 ⟨rfl,trivial⟩
               · exact zabk
             · refine zaaa.2 (zaca fun nc=>?_)
               refine zaaa.2 (zaan _ fun ti=>?_)
               refine zaaa.2 (zacj ?_)
               refine zaaa.2 (zaat (fun a k c e=>by cases e;exact hx _ rfl) fun old=>?_)
               refine zaaa.2 (zaat (fun a k c e=>.inr (hy a k c e)) fun new=>?_)
               refine zaaa.2 (zaar _ fun z=>?_)
               exact fin
        · rename_i b
          refine zaac.2 ?_
          split
          · rename_i hle
            refine zaaa.2 (zaat (fun a k c e=>.inr (hy a k c e)) fun new=>?_)
            split
            · rename_i a;exact zaaa.2 (zaa4 (by rw [addBlock];exact hw a _ rfl (.inr ⟨_,rfl,rfl⟩) hle) _ _ (zaac.2 (hk _ _ _)))
            · exact zaac.2 (hk _ _ _)
          ·
           refine zaaa.2 (zaan _ fun ti=>?_)
           split
           · refine zaaa.2 (zaas _)
           · refine zaaa.2 (zaan _ fun ti=>?_)
             split
             · refine zaaa.2 (zaaa.2 (zac1 _ _ _ _ _ fun ms=>?_))
               split
               · exact zaaa.2 ⟨rfl,trivial⟩
               · exact zabk
             · refine zaaa.2 (zaca fun nc=>?_)
               refine zaaa.2 (zaan _ fun ti=>?_)
               refine zaaa.2 (zacj ?_)
               refine zaaa.2 (zaat (fun a k c e=>by cases e;exact hx _ rfl) fun old=>?_)
               refine zaaa.2 (zaat (fun a k c e=>.inr (hy a k c e)) fun new=>?_)
               refine zaaa.2 (zaar _ fun z=>?_)
               exact fin
        · exact zaaj
     · refine zaaa.2 (zaac.2 ?_)
       simp only [Bool.false_eq_true,if_false,Bool.not_false,if_true,false_or]
       refine zaaa.2 ?_
       unfold Builtin.lenOf
       split
       · rename_i b m k
         refine zaac.2 ?_
         split
         · rename_i hle
           refine zaaa.2 (zaat (fun a k c e=>.inr (hy a k c e)) fun new=>?_)
           split
           · rename_i a;exact zaaa.2 (zaa4 (by rw [addBlock];exact hw a m rfl (.inl ⟨_,_,rfl⟩) hle) _ _ (zaac.2 (hk _ _ _)))
           · exact zaac.2 (hk _ _ _)
         ·
          refine zaaa.2 (zaan _ fun ti=>?_)
          split
          · refine zaaa.2 (zaas _)
          · refine zaaa.2 (zaan _ fun ti=>?_)
            split
            · refine zaaa.2 (zaaa.2 (zac1 _ _ _ _ _ fun ms=>?_))
              split
              · exact zaaa.2 ⟨rfl,trivial⟩
              · exact zabk
            · refine zaaa.2 (zaca fun nc=>?_)
              refine zaaa.2 (zaan _ fun ti=>?_)
              refine zaaa.2 (zacj ?_)
              refine zaaa.2 (zaat (fun a k c e=>by cases e;exact hx _ rfl) fun old=>?_)
              refine zaaa.2 (zaat (fun a k c e=>.inr (hy a k c e)) fun new=>?_)
              refine zaaa.2 (zaar _ fun z=>?_)
              exact fin
       · rename_i b
         refine zaac.2 ?_
         split
         · rename_i hle
           refine zaaa.2 (zaat (fun a k c e=>.inr (hy a k c e)) fun new=>?_)
           split
           · rename_i a;exact zaaa.2 (zaa4 (by rw [addBlock];exact hw a _ rfl (.inr ⟨_,rfl,rfl⟩) hle) _ _ (zaac.2 (hk _ _ _)))
           · exact zaac.2 (hk _ _ _)
         ·
          refine zaaa.2 (zaan _ fun ti=>?_)
          split
          · refine zaaa.2 (zaas _)
          · refine zaaa.2 (zaan _ fun ti=>?_)
            split
            · refine zaaa.2 (zaaa.2 (zac1 _ _ _ _ _ fun ms=>?_))
              split
              · exact zaaa.2 ⟨rfl,trivial⟩
              · exact zabk
            · refine zaaa.2 (zaca fun nc=>?_)
              refine zaaa.2 (zaan _ fun ti=>?_)
              refine zaaa.2 (zacj ?_)
              refine zaaa.2 (zaat (fun a k c e=>by cases e;exact hx _ rfl) fun old=>?_)
              refine zaaa.2 (zaat (fun a k c e=>.inr (hy a k c e)) fun new=>?_)
              refine zaaa.2 (zaar _ fun z=>?_)
              exact fin
       · exact zaaj
   · exact zaaj
 · exact zaaj
theorem zaeo {ats:Array TypeId} {ty:TypeId} {base:Option Addr} {n c:Nat} {y:Value} (hnc:n<=c) (h0:(∃b k,y = .slice b 0 k)\/∃s,y = .string s/\s.size=0) (hz:∀t,ats[1]?=some t->∀k,P.underlying t≠some (.int k)) {K:NB->NB->Value->Prop} (hk:∀A W v,K A W v) :
 conf P A W (Builtin.append_ ats ty #[.slice base n c,y]) K:=by
 have first:∀{size:Nat} {K:NB->NB->Array Value->Prop},K A W #[]->conf P A W (Builtin.firstCells size 0 y) K:=fun {size K} hK=>by
  unfold Builtin.firstCells
  rcases h0 with ⟨b,k,rfl⟩ | ⟨s,rfl,hs⟩
  · cases b with
    | none=>exact zaac.2 hK
    | some a=>simp only [Nat.zero_mul];exact zaac.2 hK
  · have:s=⟨#[]⟩:=by
     cases s with | mk d=>have:d = #[]:=Array.eq_empty_of_size_eq_zero hs;rw [this]
    subst this
    exact zaac.2 (by simpa using hK)
 have len:∀{K:NB->NB->Nat->Prop},K A W 0->conf P A W (Builtin.lenOf y) K:=fun {K} hK=>by
  unfold Builtin.lenOf
  rcases h0 with ⟨b,k,rfl⟩ | ⟨s,rfl,hs⟩
  · exact zaac.2 hK
  · exact zaac.2 (by rw [hs];exact hK)
 unfold Builtin.append_
 split
 · rename_i q t s x h
   simp only [List.getElem?_toArray,List.getElem?_cons_zero,List.getElem?_cons_succ,Option.some.injEq,Prod.mk.injEq] at h
   obtain ⟨_,rfl,rfl⟩:=h
   refine zaaa.2 (zaaf _ fun D=>?_)
   split
   · dsimp only
     refine zaaa.2 (zaax _ fun sz=>?_)
     split
     · rename_i t2 ht2
       refine zaaa.2 (zaam fun D hD=>?_)
       refine zaaa.2 (zaac.2 ?_)
       cases D
       case int k=>exact absurd hD (hz _ ht2 _)
       all_goals
        simp only [Bool.false_eq_true,if_false,Bool.not_false,if_true,false_or]
        refine zaaa.2 (len ?_)
        rw [if_pos (by omega)]
        refine zaaa.2 (first ?_)
        cases base with
        | none=>exact zaac.2 (hk _ _ _)
        | some a=>exact zaaa.2 (zaac.2 (zaac.2 (hk _ _ _)))
     · refine zaaa.2 (zaac.2 ?_)
       simp only [Bool.false_eq_true,if_false,Bool.not_false,if_true,false_or]
       refine zaaa.2 (len ?_)
       rw [if_pos (by omega)]
       refine zaaa.2 (first ?_)
       cases base with
       | none=>exact zaac.2 (hk _ _ _)
       | some a=>exact zaaa.2 (zaac.2 (zaac.2 (hk _ _ _)))
   · exact zaaj
 · exact zaaj
end
end Go.Co
namespace Go.Co
open Go Go.Conc
section
variable {P:Program} {α β:Type} {A W:NB}
set_option maxHeartbeats 2000000 in
theorem zag6 (t:TypeId) (x y:Value):Makes P (Instr.makeSlice t x y):=by unfold Instr.makeSlice;(repeat' first | (with_reducible first | exact Bare.makes (Bare.pure _) | exact Bare.makes (Bare.halt _) | exact Bare.makes (Bare.stuck _) | exact Bare.makes (Bare.unsupported _) | exact Bare.makes (Bare.goPanic _) | exact Bare.makes Bare.program | exact Bare.makes (Bare.shape _) | exact Bare.makes (Bare.choose _) | exact zacv _ _ | exact zago _ _ | exact Bare.makes (zaaf _) | exact Bare.makes (zaan _) | exact Bare.makes (zaax _) | exact Bare.makes (zaar _) | exact Bare.makes (zad9 _) | exact Bare.makes (zajb _) | exact Bare.makes (zab3 _) | exact Bare.makes (zagw _) | exact Bare.makes (zaa3 _) | exact Bare.makes (zabq _ _ _ _) | refine Makes.ite ?_ ?_ | refine Makes.bind ?_ (fun _=>?_) | refine Makes.map ?_) | split | dsimp only)
theorem zakf {s d:TypeId} {k:IntKind} {n:Int} (hd:∃q,P.underlying d=some (.int q)) {K:NB->NB->Value->Prop} (hk:∀v,K A W v):conf P A W (convert s d (.int k n)) K:=by
 obtain ⟨q,hd⟩:=hd
 unfold convert
 refine zaaa.2 (zaam fun D hD=>?_)
 refine zaaa.2 (zaam fun E hE=>?_)
 rw [hd] at hE;cases hE
 exact zaac.2 (hk _)
theorem zakw {s d:TypeId} {b:ByteArray} (hd:P.underlying d=some .string) {K:NB->NB->Value->Prop} (hk:∀v,K A W v):conf P A W (convert s d (.string b)) K:=by
 unfold convert
 refine zaaa.2 (zaam fun D hD=>?_)
 refine zaaa.2 (zaam fun E hE=>?_)
 rw [hd] at hE;cases hE
 exact zaac.2 (hk _)
theorem zadi {s d e:TypeId} {a:Option Addr} {n c:Nat} (hs:P.underlying s=some (.slice e)) (he:P.underlying e=some (.int .u8)) (hd:P.underlying d=some .string) (ha:∀x,a=some x->n=0\/A x.block) {K:NB->NB->Value->Prop} (hk:∀v,K A W v) :
 conf P A W (convert s d (.slice a n c)) K:=by
 unfold convert
 refine zaaa.2 (zaam fun D hD=>?_)
 refine zaaa.2 (zaam fun E hE=>?_)
 rw [hd] at hE;cases hE
 rw [hs] at hD;cases hD
 refine zaaa.2 (zaam fun F hF=>?_)
 rw [he] at hF;cases hF
 exact zae7 (fun x k c e=>by cases e;exact ha _ rfl) hk
theorem zajc {a b:Addr} (ha:A a.block) (hb:A b.block) {K:NB->NB->Bool->Prop} (hk:∀v,K A W v):conf P A W (sameAddr a b) K:=by
 unfold sameAddr
 split
 · exact zaac.2 (hk _)
 · refine zaaa.2 (zaho fun x=>zaaa.2 (zaho fun y=>?_))
   have rest:conf P A W (do
    noView a
    noView b
    if <- mayBeOne a b then return (<- choose (.extern "sameAddr.stringBytes" 2)) == 1
    pure false) K:=by
    refine zaaa.2 (zafl ha (zaaa.2 (zafl hb ?_)))
    have m:Bare P (mayBeOne a b):=by unfold mayBeOne stringish;(repeat' first | (with_reducible first | exact Bare.pure _ | exact Bare.halt _ | exact Bare.stuck _ | exact Bare.unsupported _ | exact Bare.goPanic _ | exact Bare.program | exact Bare.shape _ | exact Bare.frozen _ | exact Bare.choose _) | assumption | (with_reducible first | refine Bare.bind ?_ (fun _=>?_) | refine Bare.map ?_) | split | dsimp only)
    refine zaaa.2 (m fun z=>?_)
    split
    · exact zaaa.2 (zaca fun q=>zaac.2 (hk _))
    · exact zaac.2 (hk _)
   split
   · exact zaaa.2 trivial
   · exact rest
theorem zaiu {t:TypeId} {x y:Option Addr} (hx:∀a,x=some a->A a.block) (hy:∀a,y=some a->A a.block) (hD:∃e,P.underlying t=some (.pointer e)) {K:NB->NB->Bool->Prop} (hk:∀v,K A W v):conf P A W (Op.equal t (.pointer x) (.pointer y)) K:=by
 obtain ⟨e,hD⟩:=hD
 unfold Op.equal Op.maxDepth
 unfold Op.equalIn
 refine zaaa.2 (zaam fun D h=>?_)
 rw [hD] at h;cases h
 cases x with
 | none=>exact zaac.2 (hk _)
 | some a=>
  cases y with
  | none=>exact zaac.2 (hk _)
  | some b=>
   refine zaaa.2 (zaax _ fun n=>?_)
   split
   · exact zajc (hx _ rfl) (hy _ rfl) hk
   · split
     · exact zaac.2 (hk _)
     · exact zaaa.2 (zaca fun q=>zaac.2 (hk _))
theorem zamf (op:BinOp) (t:TypeId) (k k':IntKind) (x y:Int):Bare P (binOp op t (.int k x) (.int k' y)):=by
 unfold binOp
 cases op <;> dsimp only <;> first
  | exact zanm _ _ _ _ _
  | (
   split
   · exact Bare.stuck _
   · first
     | exact zafr _ _ _ _
     | exact zamo _ _ _ _
     | exact zaf3 _ _ _ _
     | exact zamy _ _ _)
theorem zal8 (op:BinOp) (t:TypeId) (x y:ByteArray):Bare P (binOp op t (.string x) (.string y)):=by
 unfold binOp
 cases op <;> exact zad3 _ _ _
end
end Go.Co
namespace Go.Co
open Go Go.Conc Go.AI
structure Cov (ι:Inj) (h:H) (s:LG):Prop where
 all:∀b B o z,ι b=some (B,o,z)->s.own B\/s.ro B
 own:∀B,Own ι h B->s.own B
def Busy (s:LG):Prop:=∀k,s.kid=some k->k.st=0
section
variable {ty:TypeId} {ι ι':Inj} {h h':H} {s:LG} {w w' w₁:World}
theorem zadj (hr:Rel ι h w) (c:Cov ι h s) (r:Rely ty s w w₁):Rel ι h w₁:=by
 have keep:∀{b B o z},ι b=some (B,o,z)->w₁.heap[B]?=w.heap[B]?:=fun e=>(c.all _ _ _ _ e).elim (r.own _) (r.ro _)
 refine ⟨hr.fresh,fun b B o z e=>Nat.lt_of_lt_of_le (hr.lt b B o z e) r.size,hr.inj,fun b hb=>?_,fun b r' e' hp=>?_⟩
 · obtain ⟨B,o,z,e,hR⟩:=hr.blk b hb
   exact ⟨B,o,z,e,by rw [keep e];exact hR⟩
 · obtain ⟨⟨z,hb⟩,hc⟩:=hr.pin b r' e' hp
   exact ⟨⟨z,hb⟩,by rw [zab2 (keep hb)];exact hc⟩
def known (ι:Inj) (h:H):NB:=fun B=>∃b o z,ι b=some (B,o,z)/\h.get b≠.dead
theorem zaed {B:Nat} (ho:Own ι h B):known ι h B:=by
 obtain ⟨b,o,z,e,hb⟩:=ho
 exact ⟨b,o,z,e,fun hd=>by rw [hd] at hb;exact hb⟩
theorem zagz (hr:Rel ι h w):Tame (known ι h) w:=by
 rintro B ⟨b,o,z,e,hd⟩
 refine ⟨hr.lt _ _ _ _ e,fun x hx=>?_⟩
 obtain ⟨B',o',z',e',hR⟩:=hr.blk b hd
 rw [e] at e';cases e'
 rw [hx] at hR
 cases hb:h.get b with
 | dead=>exact absurd hb hd
 | cells fl l=>rw [hb] at hR;obtain ⟨c,t,lo,hi,h1,_⟩:=hR;cases h1;rfl
 | map es cl=>rw [hb] at hR;obtain ⟨ms,h1,_⟩:=hR;cases h1;rfl
theorem zap9 (c:Cov ι h s) {B B':Nat} {e:Event} (he:okEv (known ι h) (Own ι h) B B' e):EvG (s.plus B B') e:=by
 unfold okEv at he
 unfold EvG
 cases hl:e.loc with
 | cell a=>
  rw [hl] at he
  refine ⟨he.1,?_⟩
  rcases he.2 with h1 | h1 | ⟨⟨b,o,z,e1,_⟩,h2⟩
  · exact .inl (.inl (c.own _ h1))
  · exact .inl (.inr h1)
  · exact (c.all _ _ _ _ e1).elim (fun x=>.inl (.inl x)) (fun x=>.inr ⟨x,h2⟩)
 | obj r=>
  rw [hl] at he
  refine ⟨he.1,?_⟩
  rcases he.2 with h1 | h1 | ⟨⟨b,o,z,e1,_⟩,h2⟩
  · exact .inl (.inl (c.own _ h1))
  · exact .inl (.inr h1)
  · exact (c.all _ _ _ _ e1).elim (fun x=>.inl (.inl x)) (fun x=>.inr ⟨x,h2⟩)
 | mark m=>rw [hl] at he;have he:Neutral m:=he;unfold Neutral at he;subst he;rfl
 | output=>trivial
 | goroutines=>trivial
theorem zamu (c:Cov ι h s) (hE:Ext ι h w ι' h' w') (hb:Busy s) {es:Array Event} (he:∀e∈es,okEv (known ι h) (Own ι h) w.heap.size w'.heap.size e):Own1 ty s w (s.plus w.heap.size w'.heap.size) w' es where
 tape:=hE.tape
 os:=hE.os
 output:=hE.output
 size:=hE.size
 frame:=fun b hlt hn=>hE.block b hlt fun ho=>hn (c.own b ho)
 own:=fun b hb=>hb
 ro:=fun b hb=>.inl hb
 apart:=fun h1 h2 b hb hr=>hb.elim (fun hb=>h1 b hb hr) (fun hb=>by have:=h2 b (.inr hr);omega)
 kid:=rfl
 fk:=.inl rfl
 ev:=fun e h1=>zap9 c (he e h1)
 mute:=fun k hk h2=>by have:=hb k hk;omega
theorem zapg (c:Cov ι h s) (hE:Ext ι h w ι' h' w') (hr:Rel ι' h' w'):Cov ι' h' (s.plus w.heap.size w'.heap.size) where
 all:=fun b B o z e=>by
  rcases hE.dom b B o z e with ⟨b',q,z',e'⟩ | h1
  · exact (c.all _ _ _ _ e').imp .inl id
  · exact .inl (.inr ⟨h1,hr.lt _ _ _ _ e⟩)
 own:=fun B ho=>by
  rcases hE.own B ho with h1 | h1
  · exact .inl (c.own B h1)
  · obtain ⟨b,o,z,e,_⟩:=ho
    exact .inr ⟨h1,hr.lt _ _ _ _ e⟩
structure ExtC (q:Bool) (ι:Inj) (h:H) (s:LG) (w:World) (ι':Inj) (h':H) (s':LG) (w':World):Prop where
 le:ι.le ι'
 os:w'.os=w.os
 tape:w'.tape=w.tape
 output:w'.output=w.output
 size:w.heap.size<=w'.heap.size
 kid:s'.kid=s.kid
 fk:s'.fk=s.fk
 ro:q=true->s'.ro=s.ro
 mine:q=true->∀B,s.own B->s'.own B
 roW:∀B,s.ro B->s'.ro B
 mineW:∀B,s.own B->s'.own B\/s'.ro B
 newR:∀B,s'.ro B->s.ro B\/s.own B\/(w.heap.size<=B/\B<w'.heap.size)
 new:∀B,s'.own B->s.own B\/(w.heap.size<=B/\B<w'.heap.size)
 block:∀B,(s.own B/\¬ Own ι h B)\/s.ro B->B<w.heap.size->w'.heap[B]?=w.heap[B]?
 own:∀B,Own ι' h' B->Own ι h B\/(w.heap.size<=B)
 num:h.n<=h'.n
 lo:h'.lo<=h.lo
 keep:∀b,b<h'.lo->b<h.n->h'.get b=h.get b
 keepW:∀b B o z,b<h'.lo->b<h.n->(h.get b).own->ι b=some (B,o,z)->w'.heap[B]?=w.heap[B]?
 dom:∀b B o z,ι' b=some (B,o,z)->(∃c q z,ι c=some (B,q,z))\/w.heap.size<=B
 aside:∀B,s.own B->B<w.heap.size->(∀b o z,ι b≠some (B,o,z))->s'.own B
theorem ExtC.rely {q:Bool} (hr:Rel ι h w) (c:Cov ι h s) (r:Rely ty s w w₁):ExtC q ι h s w ι h s w₁:=
 ⟨.refl _,r.os,r.tape,r.output,r.size,rfl,rfl,fun _=>rfl,fun _ _ x=>x,fun _ x=>x,fun _ x=>.inl x,fun _ x=>.inl x,fun _ x=>.inl x,fun B hB _=>hB.elim (fun x=>r.own B x.1) (r.ro B),fun B x=>.inl x,Nat.le_refl _,Nat.le_refl _,fun _ _ _=>rfl,fun b B o z _ _ hb e=>r.own B (c.own B ⟨b,o,z,e,hb⟩),fun b B o z e=>.inl ⟨b,o,z,e⟩,fun _ x _ _=>x⟩
theorem ExtC.step {q:Bool} (hE:Ext ι h w ι' h' w') (hap:∀b,s.own b->¬ s.ro b) (c:Cov ι h s):ExtC q ι h s w ι' h' (s.plus w.heap.size w'.heap.size) w':=
 ⟨hE.le,hE.os,hE.tape,hE.output,hE.size,rfl,rfl,fun _=>rfl,fun _ _ x=>.inl x,fun _ x=>x,fun _ x=>.inl (.inl x),fun _ x=>.inl x,fun _ x=>x,fun B hB hlt=>hE.block B hlt (hB.elim (fun x=>x.2) fun hr ho=>hap B (c.own B ho) hr),hE.own,hE.num,hE.lo,hE.keep,hE.keepW,hE.dom,fun _ x _ _=>.inl x⟩
theorem ExtC.trans {q:Bool} {ι₁ ι₂:Inj} {h₁ h₂:H} {s₁ s₂:LG} {w w₁ w₂:World} (a:ExtC q ι h s w ι₁ h₁ s₁ w₁) (b:ExtC q ι₁ h₁ s₁ w₁ ι₂ h₂ s₂ w₂):ExtC q ι h s w ι₂ h₂ s₂ w₂ where
 le:=a.le.trans b.le
 os:=b.os.trans a.os
 tape:=b.tape.trans a.tape
 output:=b.output.trans a.output
 size:=Nat.le_trans a.size b.size
 kid:=b.kid.trans a.kid
 fk:=b.fk.trans a.fk
 ro:=fun e=>(b.ro e).trans (a.ro e)
 mine:=fun e B x=>b.mine e B (a.mine e B x)
 roW:=fun B x=>b.roW B (a.roW B x)
 mineW:=fun B x=>(a.mineW B x).elim (b.mineW B) fun y=>.inr (b.roW B y)
 newR:=fun B x=>by
  have:=a.size;have:=b.size
  rcases b.newR B x with h1 | h1 | h1
  · rcases a.newR B h1 with h2 | h2 | h2
    · exact .inl h2
    · exact .inr (.inl h2)
    · exact .inr (.inr (by omega))
  · rcases a.new B h1 with h2 | h2
    · exact .inr (.inl h2)
    · exact .inr (.inr (by omega))
  · exact .inr (.inr (by omega))
 new:=fun B x=>by
  have:=a.size;have:=b.size
  rcases b.new B x with h1 | h1
  · exact (a.new B h1).imp id fun h2=>by omega
  · exact .inr (by omega)
 block:=fun B hB hlt=>(b.block B (by
  rcases hB with ⟨h1,h2⟩ | h1
  · exact (a.mineW B h1).imp (fun h4=>⟨h4,fun ho=>(a.own B ho).elim h2 (fun h3=>by omega)⟩) id
  · exact .inr (a.roW B h1)) (Nat.lt_of_lt_of_le hlt a.size)).trans (a.block B hB hlt)
 own:=fun B ho=>(b.own B ho).elim (a.own B) (fun h1=>.inr (Nat.le_trans a.size h1))
 num:=Nat.le_trans a.num b.num
 lo:=Nat.le_trans b.lo a.lo
 keep:=fun c hc hn=>by
  rw [b.keep c hc (Nat.lt_of_lt_of_le hn a.num)]
  exact a.keep c (Nat.lt_of_lt_of_le hc b.lo) hn
 keepW:=fun c B o z hc hn hw e=>by
  have h1:=a.keep c (Nat.lt_of_lt_of_le hc b.lo) hn
  rw [b.keepW c B o z hc (Nat.lt_of_lt_of_le hn a.num) (by rw [h1];exact hw) (a.le c _ e)]
  exact a.keepW c B o z (Nat.lt_of_lt_of_le hc b.lo) hn hw e
 dom:=fun c B o z e=>by
  rcases b.dom c B o z e with ⟨d,q,y,e'⟩ | h1
  · exact a.dom d B q y e'
  · exact .inr (Nat.le_trans a.size h1)
 aside:=fun B x hlt hn=>b.aside B (a.aside B x hlt hn) (Nat.lt_of_lt_of_le hlt a.size) fun c o z e=>(a.dom c B o z e).elim (fun ⟨d,q,y,e'⟩=>hn d q y e') fun h=>by omega
theorem ExtC.weak {q:Bool} {s':LG} (a:ExtC true ι h s w ι' h' s' w'):ExtC q ι h s w ι' h' s' w':={ a with ro:=fun _=>a.ro rfl,mine:=fun _=>a.mine rfl }
end
end Go.Co
namespace Go.Co
open Go Go.Conc Go.AI
section
variable {P:Program} {α β:Type}
theorem zams {x:Sem α} {f:α->Sem β} {w w':World} {b:β} (e:(x >>= f).run P w = .ok b w'):∃a w1,x.run P w = .ok a w1/\(f a).run P w1 = .ok b w':=by
 rw [Sem.run_bind] at e
 cases h:x.run P w with
 | ok a w1=>rw [h] at e;exact ⟨a,w1,rfl,e⟩
 | halt x w1=>rw [h] at e;cases e
def NoEnter (P:Program) (x:Sem Next):Prop:=∀w f as w',x.run P w≠.ok (.enter f as) w'
theorem NoEnter.bind {x:Sem α} {f:α->Sem Next} (h:∀a,NoEnter P (f a)):NoEnter P (x >>= f):=fun w g as w' e=>by
 obtain ⟨a,w1,_,e2⟩:=zams e
 exact h a _ _ _ _ e2
theorem NoEnter.value (v:Value):NoEnter P (pure (.value v)):=fun w g as w' e=>by cases e
theorem NoEnter.skip:NoEnter P (pure .skip):=fun w g as w' e=>by cases e
theorem NoEnter.halt (h:Halt):NoEnter P (.halt h):=fun w g as w' e=>by cases e
theorem NoEnter.pure {n:Next} (h:∀f as,n≠.enter f as):NoEnter P (Pure.pure n):=fun w g as w' e=>by
 have e:(Result.ok n w:Result Next) = .ok (.enter g as) w':=e
 cases e;exact h _ _ rfl
theorem NoEnter.panic (e:RuntimeError):NoEnter P (runtimePanic e):=by
 unfold runtimePanic
 refine NoEnter.bind fun p=>?_
 cases e <;> dsimp only <;> first
  | exact NoEnter.halt _
  | exact NoEnter.bind fun _=>NoEnter.bind fun _=>NoEnter.halt _
theorem noEnter {ρ:Operand->Value} {o:Oper} (hc:∀c,o.op≠.call c):NoEnter P (execOp ρ o):=by
 unfold execOp
 dsimp only
 split <;> first
  | exact NoEnter.value _
  | exact NoEnter.bind fun _=>NoEnter.value _
  | exact NoEnter.bind fun _=>NoEnter.skip
  | exact absurd (by assumption) (hc _)
  | exact NoEnter.pure fun _ _ h=>by cases h
  | exact NoEnter.bind fun _=>NoEnter.pure fun _ _ h=>by cases h
  | skip
 · repeat' first
    | exact NoEnter.panic _
    | exact NoEnter.halt _
    | exact NoEnter.value _
    | (with_reducible refine NoEnter.bind fun _=>?_)
    | split
 · refine NoEnter.bind fun _=>?_
   split
   · exact NoEnter.bind fun _=>NoEnter.pure fun _ _ h=>by cases h
   · exact NoEnter.halt _
end
end Go.Co
namespace Go.Co
open Go Go.Conc Go.AI
section
variable {P:Program} {α:Type}
theorem Bare.val {x:Sem Value} (h:Bare P x):Bare P (x >>= fun v=>Pure.pure (Next.value v):Sem Next):=Bare.bind h fun v=>Bare.pure _
theorem zahf {A W:NB} {t:TypeId} {i:TypeInfo} (hi:P.info? t=some i) {K:NB->NB->Nat->Prop} (hk:K A W i.size):conf P A W (sizeOf t) K:=by
 unfold sizeOf typeInfo
 refine zaaa.2 (zaaa.2 (zabz ?_))
 rw [hi]
 exact zaac.2 (zaac.2 hk)
theorem zaj9 {s:TypeId} {f off:Nat} {a:Option Addr} (hf:fieldOff P s f=some off):Bare P (Instr.fieldAt s (.pointer a) f):=by
 intro A W K hk
 unfold fieldOff at hf
 split at hf
 case h_2=>cases hf
 rename_i fs hu
 split at hf
 case h_2=>cases hf
 rename_i fd hfd
 split at hf
 case h_2=>cases hf
 rename_i i hi
 split at hf
 · cases hf
 rename_i hsz
 unfold Instr.fieldAt
 refine zaaa.2 (zaam fun D hD=>?_)
 rw [hu] at hD;cases hD
 dsimp only
 rw [hfd]
 dsimp only
 unfold Instr.sureAddr
 refine zaaa.2 ?_
 split
 · refine zaac.2 (zaaa.2 ?_)
   unfold fieldPlace
   refine zaaa.2 (zahf hi ?_)
   rw [if_neg hsz]
   exact zaac.2 (zaac.2 (hk _))
 · exact zaaj
theorem zaim (fn:Fn) (x y:Array Value):Bare P (Instr.makeFunc fn x y):=by unfold Instr.makeFunc;(repeat' first | (with_reducible first | exact Bare.pure _ | exact Bare.halt _ | exact Bare.stuck _ | exact Bare.unsupported _ | exact Bare.goPanic _ | exact Bare.program | exact Bare.shape _ | exact Bare.frozen _ | exact Bare.choose _) | assumption | (with_reducible first | refine Bare.bind ?_ (fun _=>?_) | refine Bare.map ?_) | split | dsimp only)
theorem zakq {s d:TypeId} {k:IntKind} {n:Int} (hd:∃q,P.underlying d=some (.int q)):Bare P (convert s d (.int k n)):=by intro A W K hk;exact zakf hd hk
theorem zan8 {ρ:Operand->Value} {o:Oper} {c:Call} (ho:o.op = .call c) (hc:c.callee = .builtin .max):execOp ρ o=(Builtin.max_ c.argTypes o.type (c.args.map ρ) >>= fun v=>Pure.pure (Next.value v)):=by
 unfold execOp;simp only [ho,resolve,hc];rfl
theorem zao7 {ρ:Operand->Value} {o:Oper} {c:Call} (ho:o.op = .call c) (hc:c.callee = .builtin .min):execOp ρ o=(Builtin.min_ c.argTypes o.type (c.args.map ρ) >>= fun v=>Pure.pure (Next.value v)):=by
 unfold execOp;simp only [ho,resolve,hc];rfl
theorem zaol {ρ:Operand->Value} {o:Oper} {c:Call} (ho:o.op = .call c) (hc:c.callee = .builtin .len):execOp ρ o=(Builtin.len_ c.argTypes o.type (c.args.map ρ) >>= fun v=>Pure.pure (Next.value v)):=by
 unfold execOp;simp only [ho,resolve,hc];rfl
theorem zaor {ρ:Operand->Value} {o:Oper} {c:Call} (ho:o.op = .call c) (hc:c.callee = .builtin .cap):execOp ρ o=(Builtin.cap_ c.argTypes o.type (c.args.map ρ) >>= fun v=>Pure.pure (Next.value v)):=by
 unfold execOp;simp only [ho,resolve,hc];rfl
theorem zaa9 {ρ:Operand->Value} {o:Oper} {c:Call} (ho:o.op = .call c) (hc:c.callee = .builtin .append):execOp ρ o=(Builtin.append_ c.argTypes o.type (c.args.map ρ) >>= fun v=>Pure.pure (Next.value v)):=by
 unfold execOp;simp only [ho,resolve,hc];rfl
theorem zaiv {ρ:Operand->Value} {o:Oper} {c:Call} (ho:o.op = .call c) (hc:c.callee = .builtin .clear):execOp ρ o=(Builtin.clear_ c.argTypes o.type (c.args.map ρ) >>= fun v=>Pure.pure (Next.value v)):=by
 unfold execOp;simp only [ho,resolve,hc];rfl
theorem zaje {ρ:Operand->Value} {o:Oper} {c:Call} (ho:o.op = .call c) (hc:c.callee = .builtin .copy):execOp ρ o=(Builtin.copy_ c.argTypes o.type (c.args.map ρ) >>= fun v=>Pure.pure (Next.value v)):=by
 unfold execOp;simp only [ho,resolve,hc];rfl
theorem zasv (ats:Array TypeId) (ty:TypeId) (x y:Value):Bare P (Builtin.max_ ats ty #[x,y]):=by
 intro A W K hk
 unfold Builtin.max_
 simp only [List.foldlM_cons,List.foldlM_nil]
 exact zaaa.2 (zaqd x y fun v=>zaac.2 (hk v))
theorem zas5 (ats:Array TypeId) (ty:TypeId) (x y:Value):Bare P (Builtin.min_ ats ty #[x,y]):=by
 intro A W K hk
 unfold Builtin.min_
 simp only [List.foldlM_cons,List.foldlM_nil]
 exact zaaa.2 (zaqc x y fun v=>zaac.2 (hk v))
def tame:Value->Bool
 | .nilIface | .agg _=>false
 | _=>true
theorem zagp {op:BinOp} {t:TypeId} {x y:Operand} {u v:Value} (hu:tame u=true):Bare P (eqGuard op t x y u v):=by
 unfold eqGuard
 (repeat' first | (with_reducible first | exact Bare.pure _ | exact Bare.halt _ | exact Bare.stuck _ | exact Bare.unsupported _ | exact Bare.goPanic _ | exact Bare.program | exact Bare.shape _ | exact Bare.frozen _ | exact Bare.choose _) | assumption | (with_reducible first | refine Bare.bind ?_ (fun _=>?_) | refine Bare.map ?_) | split | dsimp only) <;> cases hu
variable {ι:Inj} {h:H} {o:Oper} {N:Nat} {st:St} {a:Act} {k:AV->H->Option R} {r:R} {Γ:Env}
set_option maxHeartbeats 4000000 in
theorem zapr {op:BinOp} {t:TypeId} {x y:Operand} {b c:AV} {u v:Value} (hcl:(∃kd,P.underlying t=some (.int kd))\/P.underlying t=some .string) (hx:VR ι b u) (hy:VR ι c v) (e:dBin P op t b c h k=some r) :
 Bare P ((do eqGuard op t x y u v;binOp op t u v) >>= fun v=>Pure.pure (Next.value v):Sem Next):=by
 have ints:∀k1 i k2 j,b = .int k1 i->c = .int k2 j->Bare P ((do eqGuard op t x y u v;binOp op t u v) >>= fun v=>Pure.pure (Next.value v):Sem Next):=fun k1 i k2 j hb hc=>by
  subst hb;subst hc
  rw [hx.int,hy.int]
  exact Bare.val (Bare.bind (zagp rfl) fun _=>zamf _ _ _ _ _ _)
 have strs:∀l n l' n',b = .str l n->c = .str l' n'->Bare P ((do eqGuard op t x y u v;binOp op t u v) >>= fun v=>Pure.pure (Next.value v):Sem Next):=fun l n l' n' hb hc=>by
  subst hb;subst hc
  obtain ⟨s1,rfl,_⟩:=hx.str
  obtain ⟨s2,rfl,_⟩:=hy.str
  exact Bare.val (Bare.bind (zagp rfl) fun _=>zal8 _ _ _ _)
 have gi:∀{α:Type} {r:α} {f:Nat->Int->Nat->Int->Option α},(withInt b fun k1 i=>withInt c fun k2 j=>f k1 i k2 j)=some r->Bare P ((do eqGuard op t x y u v;binOp op t u v) >>= fun v=>Pure.pure (Next.value v):Sem Next):=fun e=>by
  obtain ⟨k1,i,hb,e1⟩:=zaah e
  obtain ⟨k2,j,hc,_⟩:=zaah e1
  exact fun {_ _ _} hk=>ints _ _ _ _ hb hc hk
 have gs:∀{α:Type} {r:α} {f:List Nat->Nat->List Nat->Nat->Option α},(withStr b fun k1 i=>withStr c fun k2 j=>f k1 i k2 j)=some r->Bare P ((do eqGuard op t x y u v;binOp op t u v) >>= fun v=>Pure.pure (Next.value v):Sem Next):=fun e=>by
  obtain ⟨k1,i,hb,e1⟩:=zaap e
  obtain ⟨k2,j,hc,_⟩:=zaap e1
  exact fun {_ _ _} hk=>strs _ _ _ _ hb hc hk
 unfold dBin at e
 rcases hcl with ⟨kd,hu⟩ | hu
 · rw [hu] at e
   dsimp only at e
   split at e <;> exact fun {_ _ _} hk=>gi e hk
 · rw [hu] at e
   dsimp only at e
   split at e <;> first | exact fun {_ _ _} hk=>gs e hk | cases e
set_option maxHeartbeats 4000000 in
theorem zann {w:World} (hr:Rel ι h w) (hs:StR ι N st a) (hq:clsOf P 1 o=0) (e:dOp P Γ o st h k=some r):Bare P (execOp a.eval o):=by
 have hρ:∀x,VR ι (ev st x) (a.eval x):=hs.ev
 unfold dOp at e
 split at e
 · rename_i x ho;unfold execOp;simp only [ho];with_reducible exact Bare.pure _
 · rename_i x ho;unfold execOp;simp only [ho];with_reducible exact Bare.pure _
 · rename_i c x y ho;unfold execOp;simp only [ho];with_reducible exact Bare.bind (zae8 _) fun _=>Bare.pure _
 · rename_i t ho;with_reducible exact absurd hq (by simp [clsOf,ho])
 · rename_i t x ho;with_reducible exact absurd hq (by simp [clsOf,ho])
 · rename_i t ps ho;with_reducible exact absurd hq (by simp [clsOf,ho])
 · rename_i t n ps ho;with_reducible exact absurd hq (by simp [clsOf,ho])
 · rename_i t x ho;with_reducible exact absurd hq (by simp [clsOf,ho])
 · rename_i t x y ho;with_reducible exact absurd hq (by simp [clsOf,ho])
 · rename_i x ho
   have hx:=hρ x
   generalize ev st x=b at e hx
   unfold execOp;simp only [ho]
   cases b using AV.casesE <;> (try (cases e;done))
   case ptr b q=>
    obtain ⟨B,base,sz,_,ex⟩:=hx.ptr
    rw [ex];with_reducible exact Bare.pure _
   case func fn x y=>
    cases fn <;> (try (cases e;done))
    obtain ⟨fs,cp,ex,_⟩:=hx.func
    rw [ex];with_reducible exact Bare.pure _
   case iface t v=>
    obtain ⟨y,ex,_⟩:=hx.iface
    rw [ex];with_reducible exact Bare.pure _
 · rename_i op t x y u ho
   have hx:=hρ x
   have hy:=hρ y
   have hcl:(∃kd,P.underlying t=some (.int kd))\/P.underlying t=some .string:=by
    cases hu:P.underlying t with
    | none=>simp [clsOf,ho,hu] at hq
    | some d=>cases d <;> first | exact .inl ⟨_,rfl⟩ | exact .inr rfl | (simp [clsOf,ho,hu] at hq)
   unfold execOp;simp only [ho]
   with_reducible exact zapr hcl hx hy e
 · rename_i op t x ho;unfold execOp;simp only [ho];with_reducible exact Bare.val (zam9 _ _)
 · rename_i s d x ho
   have hd:∃q,P.underlying d=some (.int q):=by
    cases hu:P.underlying d with
    | none=>simp [clsOf,ho,hu] at hq
    | some D=>cases D <;> first | exact ⟨_,rfl⟩ | (simp [clsOf,ho,hu] at hq)
   have hi:∃k1 n,ev st x = .int k1 n:=by
    obtain ⟨q,hu⟩:=hd
    unfold dConv at e
    split at e
    · obtain ⟨k1,n,hx,_⟩:=zaah e;exact ⟨k1,n,hx⟩
    · rename_i hd' ;rw [hu] at hd';cases hd'
    · rename_i hd' ;rw [hu] at hd';cases hd'
    · cases e
   obtain ⟨k1,n,hx⟩:=hi
   have hv:=hρ x
   rw [hx] at hv
   unfold execOp;simp only [ho,hv.int]
   with_reducible exact Bare.val (zakq hd)
 · rename_i t x ho;unfold execOp;simp only [ho];with_reducible exact Bare.val (zafe _ _)
 · rename_i t x lo hi mx ho;unfold execOp;simp only [ho];with_reducible exact Bare.val (zak5 _ _ _ _ _)
 · rename_i t x f ho
   split at e
   · rename_i off hf
     obtain ⟨b,q,hb,_⟩:=zaaw e
     have hx:=hρ x
     rw [hb] at hx
     obtain ⟨B,base,sz,_,ex⟩:=hx.ptr
     unfold execOp;simp only [ho,ex];with_reducible exact Bare.val (zaj9 hf)
   · cases e
 · rename_i t x i ho;unfold execOp;simp only [ho];with_reducible exact Bare.val (zakt _ _ _)
 · rename_i t x i ho;unfold execOp;simp only [ho];with_reducible exact Bare.val (zaon _ _ _)
 · rename_i x i ho;unfold execOp;simp only [ho];with_reducible exact Bare.val (zaj8 _ _)
 · rename_i c ho
   split at e
   · rename_i f hc;with_reducible exact absurd hq (by simp [clsOf,ho,hc])
   · rename_i f n hc;with_reducible exact absurd hq (by simp [clsOf,ho,hc])
   · rename_i hc;with_reducible exact absurd hq (by simp [clsOf,ho,hc])
   · rename_i hc;with_reducible exact absurd hq (by simp [clsOf,ho,hc])
   · rename_i hc;with_reducible exact absurd hq (by simp [clsOf,ho,hc])
   · rename_i hc
     split at e
     · rename_i x y ha
       have ha:=zaak ha
       rw [zan8 ho hc,ha,show Array.map a.eval #[x,y] = #[a.eval x,a.eval y] by simp];with_reducible exact Bare.val (zasv _ _ _ _)
     · cases e
   · rename_i hc
     split at e
     · rename_i x y ha
       have ha:=zaak ha
       rw [zao7 ho hc,ha,show Array.map a.eval #[x,y] = #[a.eval x,a.eval y] by simp];with_reducible exact Bare.val (zas5 _ _ _ _)
     · cases e
   · rename_i hc;with_reducible exact absurd hq (by simp [clsOf,ho,hc])
   · rename_i hc;with_reducible exact absurd hq (by simp [clsOf,ho,hc])
   · cases e
 · rename_i t x y ho;with_reducible exact absurd hq (by simp [clsOf,ho])
 · rename_i t y ho;with_reducible exact absurd hq (by simp [clsOf,ho])
 · rename_i t x y ok ho;with_reducible exact absurd hq (by simp [clsOf,ho])
 · rename_i t x y z ho;with_reducible exact absurd hq (by simp [clsOf,ho])
 · rename_i t x y z ho;with_reducible exact absurd hq (by simp [clsOf,ho])
 · rename_i fn first captured ho;unfold execOp;simp only [ho];with_reducible exact Bare.val (zaim _ _ _)
 · rename_i t x f ho;unfold execOp;simp only [ho];with_reducible exact Bare.val (zaop _ _ _)
 · rename_i x xT t ok ho;unfold execOp;simp only [ho];with_reducible exact Bare.val (zag1 _ _ _ _)
 · cases e
end
end Go.Co
namespace Go.Co
open Go Go.Conc Go.AI Go.RowKit
section
variable {P:Program} {A W:NB}
abbrev Cf (P:Program) (A W:NB) {α:Type} (x:Sem α):Prop:=conf P A W x (fun _ _ _=>True)
theorem Cf.val {x:Sem Value} (h:Cf P A W x):Cf P A W (x >>= fun v=>Pure.pure (Next.value v)):=zaaa.2 (zafx h fun _ _ _ _=>trivial)
theorem Cf.unit {x:Sem Unit} (h:Cf P A W x):Cf P A W (x >>= fun _=>Pure.pure Next.skip):=zaaa.2 (zafx h fun _ _ _ _=>trivial)
theorem Bare.cf {α:Type} {x:Sem α} (h:Bare P x):Cf P A W x:=h fun _=>trivial
theorem Makes.cf {α:Type} {x:Sem α} (h:Makes P x):Cf P A W x:=h fun _ _ _=>trivial
variable {ι:Inj} {h:H} {w:World}
theorem zab0 {b B o z:Nat} (ib:ι b=some (B,o,z)) (hb:h.get b≠.dead):known ι h B:=⟨b,o,z,ib,hb⟩
theorem own_of {b B o z fl:Nat} {l:List AV} (ib:ι b=some (B,o,z)) (hb:h.get b = .cells fl l) (hf:fl<=1):Own ι h B:=⟨b,o,z,ib,by rw [hb];exact Nat.lt_succ_of_le hf⟩
theorem zapt {b q:Nat} {v:Value} (hx:VR ι (.ptr b q) v) (hb:h.get b≠.dead):∀a,v = .pointer (some a)->known ι h a.block:=by
 obtain ⟨B,base,sz,ib,ex⟩:=hx.ptr
 intro a ha;rw [ex] at ha;cases ha;exact zab0 ib hb
theorem zat2 {b q fl:Nat} {l:List AV} {v:Value} (hx:VR ι (.ptr b q) v) (hb:h.get b = .cells fl l) (hf:fl<=1):∀a,v = .pointer (some a)->Own ι h a.block:=by
 obtain ⟨B,base,sz,ib,ex⟩:=hx.ptr
 intro a ha;rw [ex] at ha;cases ha;exact own_of ib hb hf
theorem sl_at {b q n c:Nat} {v:Value} (hx:VR ι (.sl b q n c) v):∀a k c',v = .slice (some a) k c'->k=n/\c'=c/\∃B o z,ι b=some (B,o,z)/\a.block=B:=by
 obtain ⟨B,base,sz,ib,ex⟩:=hx.sl
 intro a k c' e;rw [ex] at e;cases e;exact ⟨rfl,rfl,B,base,sz,ib,rfl⟩
theorem osl_at {b q n es:Nat} {v:Value} (hx:VR ι (.osl b q n es) v):∀a k c',v = .slice (some a) k c'->k=n/\n<=c'/\(c'=0\/∃B o z,ι b=some (B,o,z)/\a.block=B):=by
 obtain ⟨A0,c,ex,hn,hc⟩:=hx.osl
 intro a k c' e;rw [ex] at e;cases e
 exact ⟨rfl,hn,hc.imp id fun ⟨B,base,sz,ib,ha,_⟩=>⟨B,base,sz,ib,by rw [ha]⟩⟩
theorem zag3 {t:TypeId} {x y:Value} (hx:(∃k n,x = .int k n)\/(∃s,x = .string s)\/∃b,x = .bool b):Bare P (Op.equal t x y):=by
 intro A W K hk
 unfold Op.equal Op.maxDepth Op.equalIn
 refine zaaa.2 (zaaf _ fun D=>?_)
 rcases hx with ⟨k,n,rfl⟩ | ⟨s,rfl⟩ | ⟨b,rfl⟩ <;> cases D <;> cases y <;> dsimp only <;> (repeat' split) <;> first | exact zaac.2 (hk _) | exact zaaj | exact zabk | trivial
end
end Go.Co
namespace Go.Co
open Go Go.Conc Go.AI Go.RowKit
section
variable {P:Program} {A W:NB} {ι:Inj} {h:H} {w:World}
def easyEq:Value->Value->Bool
 | .bool _,.bool _=>true
 | .pointer none,.pointer _=>true
 | .pointer (some _),.pointer none=>true
 | .nilIface,.iface .. => true
 | .iface ..,.nilIface=>true
 | .slice none _ _,.slice .. => true
 | .slice (some _) _ _,.slice none _ _=>true
 | .map none,.map _=>true
 | .map (some _),.map none=>true
 | .nilFunc,.nilFunc=>true
 | .nilFunc,.func .. => true
 | .func ..,.nilFunc=>true
 | _,_=>false
def easyD:TypeDesc->Bool
 | .bool | .pointer _ | .slice _ | .map _ _ | .func .. | .interface _=>true
 | _=>false
theorem zal9 {t:TypeId} {D:TypeDesc} (hD:P.underlying t=some D) (hd:easyD D=true) {x y:Value} (hx:easyEq x y=true):Bare P (Op.equal t x y):=by
 intro A W K hk
 unfold Op.equal Op.maxDepth Op.equalIn
 refine zaaa.2 (zaam fun D' h'=>?_)
 rw [hD] at h';cases h'
 unfold easyEq at hx
 split at hx <;> first
  | (cases hx;done)
  | (cases D <;> (try (cases hd;done)) <;> dsimp only <;> (repeat' split) <;> first | exact zaac.2 (hk _) | exact zaaj | exact zabk | trivial)
theorem cf_eq {op:BinOp} {t:TypeId} {x y:Value} (ho:op = .eql\/op = .neq) (hx:(∀k n,x≠.int k n)/\(∀s,x≠.string s)/\(∀k n,x≠.float k n)/\∀k n m,x≠.complex k n m) (h:Cf P A W (Op.equal t x y)):Cf P A W (binOp op t x y):=by
 obtain ⟨h1,h2,h3,h4⟩:=hx
 rcases ho with rfl | rfl
 · cases x <;> first
    | exact absurd rfl (h1 _ _)
    | exact absurd rfl (h2 _)
    | exact absurd rfl (h3 _ _)
    | exact absurd rfl (h4 _ _ _)
    | (unfold binOp;exact zaaa.2 (zafx h fun _ _ _ _=>trivial))
 · cases x <;> first
    | exact absurd rfl (h1 _ _)
    | exact absurd rfl (h2 _)
    | exact absurd rfl (h3 _ _)
    | exact absurd rfl (h4 _ _ _)
    | (unfold binOp;exact zaaa.2 (zafx h fun _ _ _ _=>trivial))
theorem zafp {op:BinOp} {t:TypeId} {x y:Operand} {u v:Value} (hu:easyEq u v=true\/∃a b,u = .pointer a/\v = .pointer b):Bare P (eqGuard op t x y u v):=by
 unfold eqGuard
 (repeat' first | (with_reducible first | exact Bare.pure _ | exact Bare.halt _ | exact Bare.stuck _ | exact Bare.unsupported _ | exact Bare.goPanic _ | exact Bare.program | exact Bare.shape _ | exact Bare.frozen _ | exact Bare.choose _) | assumption | (with_reducible first | refine Bare.bind ?_ (fun _=>?_) | refine Bare.map ?_) | split | dsimp only) <;> (rcases hu with hu | ⟨_,_,hu,_⟩ <;> cases hu)
variable {a b:AV} {u v:Value}
theorem eqA_cf {op:BinOp} {t:TypeId} {x y:Operand} {q:Bool} (ho:op = .eql\/op = .neq) (hx:VR ι a u) (hy:VR ι b v) (hk:avKind a=eqKind P t) (hq:eqA h a b=some q) :
 Cf P (known ι h) W (do eqGuard op t x y u v;binOp op t u v):=by
 have easy:∀D,P.underlying t=some D->easyD D=true->easyEq u v=true->Cf P (known ι h) W (do eqGuard op t x y u v;binOp op t u v):=fun D hD hd he=>by
  refine zaaa.2 (zafp (.inl he) fun _=>?_)
  refine cf_eq ho ?_ (zal9 hD hd he fun _=>trivial)
  refine ⟨fun k n e=>?_,fun s e=>?_,fun k n e=>?_,fun k n m e=>?_⟩ <;> (subst e;cases v <;> cases he)
 unfold eqKind at hk
 cases hu:P.underlying t with
 | none=>rw [hu] at hk;cases a using AV.casesE <;> cases hk
 | some d=>
  rw [hu] at hk
  have hd:easyD d=true:=by cases d <;> first | rfl | (cases a using AV.casesE <;> cases hk)
  cases a using AV.casesE <;> (try (cases hq;done)) <;> cases b using AV.casesE <;> (try (cases hq;done))
  case ptr.ptr p1 o1 p2 o2=>
   have hptr:∃e,P.underlying t=some (.pointer e):=by
    cases d <;> first | exact ⟨_,hu⟩ | (cases hk;done)
   have hq:bc (Nat.beq p1 p2) (withCells h p1 fun _ _=>some (Nat.beq o1 o2)) (withCells h p1 fun fl _=>bc (Nat.beq fl 0) (withCells h p2 fun fl' _=>bc (Nat.beq fl' 0) (some false) none) none)=some q:=hq
   have hal:h.get p1≠.dead/\h.get p2≠.dead:=by
    cases hbb:Nat.beq p1 p2 with
    | true=>
     rw [hbb,bc_true] at hq
     obtain ⟨_,_,g,_⟩:=zaae hq
     have:=Nat.eq_of_beq_eq_true hbb
     subst this
     exact ⟨by rw [g];simp,by rw [g];simp⟩
    | false=>
     rw [hbb,zaag] at hq
     obtain ⟨_,_,g,hq⟩:=zaae hq
     obtain ⟨_,hq⟩:=zaab hq
     obtain ⟨_,_,g2,_⟩:=zaae hq
     exact ⟨by rw [g];simp,by rw [g2];simp⟩
   obtain ⟨B,base,sz,ib,rfl⟩:=hx.ptr
   obtain ⟨B',base',sz',ib',rfl⟩:=hy.ptr
   refine zaaa.2 (zafp (.inr ⟨_,_,rfl,rfl⟩) fun _=>?_)
   refine cf_eq ho (by simp) (zaiu (fun a e=>by cases e;exact zab0 ib hal.1) (fun a e=>by cases e;exact zab0 ib' hal.2) hptr fun _=>trivial)
  all_goals refine easy d hu hd ?_
  all_goals first
   | (rw [hx.bool,hy.bool];rfl)
   | (rw [hx.nilp,hy.nilp];rfl)
   | (obtain ⟨_,_,_,_,ey⟩:=hy.ptr;rw [hx.nilp,ey];rfl)
   | (obtain ⟨_,_,_,_,ex⟩:=hx.ptr;rw [ex,hy.nilp];rfl)
   | (rw [hx.nils,hy.nils];rfl)
   | (obtain ⟨_,_,_,_,ey⟩:=hy.sl;rw [hx.nils,ey];rfl)
   | (obtain ⟨_,_,ey,_⟩:=hy.osl;rw [hx.nils,ey];rfl)
   | (obtain ⟨_,_,_,_,ex⟩:=hx.sl;rw [ex,hy.nils];rfl)
   | (obtain ⟨_,_,ex,_⟩:=hx.osl;rw [ex,hy.nils];rfl)
   | (obtain ⟨_,_,ex,_⟩:=hx.func;rw [ex,show v = .nilFunc from by simpa [VX] using hy];rfl)
   | (obtain ⟨_,_,ey,_⟩:=hy.func;rw [ey,show u = .nilFunc from by simpa [VX] using hx];rfl)
   | (rw [show u = .nilFunc from by simpa [VX] using hx,show v = .nilFunc from by simpa [VX] using hy];rfl)
   | (obtain ⟨_,ex,_⟩:=hx.iface;rw [ex,show v = .nilIface from by simpa [VX] using hy];rfl)
   | (obtain ⟨_,ey,_⟩:=hy.iface;rw [ey,show u = .nilIface from by simpa [VX] using hx];rfl)
   | (rw [show u = .map none from by simpa [VX] using hx,show v = .map none from by simpa [VX] using hy];rfl)
   | (obtain ⟨_,_,_,_,ex⟩:=hx;rw [show u = .map (some _) from by simpa using ex,show v = .map none from by simpa [VX] using hy];rfl)
   | (obtain ⟨_,_,_,_,ey⟩:=hy;rw [show v = .map (some _) from by simpa using ey,show u = .map none from by simpa [VX] using hx];rfl)
theorem zala {e:TypeId} {cs:Array Value} {off:Nat} {v:Value} (ha:isAggT P e=some false) (hv:cs[off]?=some v) {K:NB->NB->Value->Prop} (hk:K A W v):conf P A W (part e cs off) K:=by
 unfold part
 have hi:∀{K:NB->NB->Bool->Prop},K A W false->conf P A W (isAgg e) K:=fun {K} hK=>by
  unfold isAggT at ha
  unfold isAgg
  cases hu:P.underlying e with
  | none=>rw [hu] at ha;cases ha
  | some D=>
   refine zaaa.2 (zaam fun D' h'=>?_)
   rw [hu] at h' ha;cases h'
   cases D <;> first | (cases ha;done) | exact zaac.2 hK
 refine zaaa.2 (hi ?_)
 rw [if_neg (by simp),hv]
 exact zaac.2 hk
theorem zagh {e:TypeId} {kk:IntKind} (he:P.underlying e=some (.int kk)) (hi:isAggT P e=some false) (d:Nat):∀(l m:List AV) (xs ys:Array Value) (q:Nat) {β:Type} (f:Bool->Option β) (r:β) {K:NB->NB->Option Bool×Unit->Prop},VL ι l (xs.toList.drop q)->VL ι m (ys.toList.drop q)->eqI l m f=some r->(∀x,K A W x)->
 conf P A W (forIn (List.range' q l.length) ((none,()):Option Bool×Unit) fun i r=>do
  let x <- part e xs (i * 1)
  let y <- part e ys (i * 1)
  let z <- Op.equalIn (d+1) e x y
  if (!z)=true then pure (ForInStep.done (some false,())) else pure (ForInStep.yield (none,()))) K
 | [],[],xs,ys,q,β,f,r,K,_,_,h,hk=>zaac.2 (hk _)
 | [],_::_,_,_,_,_,_,_,_,_,_,h,_=>by cases h
 | _::_,[],_,_,_,_,_,_,_,_,_,h,_=>by cases h
 | a::l,b::m,xs,ys,q,β,f,r,K,hl,hm,h,hk=>by
  have h:(withInt a fun k x=>withInt b fun k' y=>bc (Nat.beq k k') (bc (ieq x y) (eqI l m f) (f false)) none)=some r:=h
  obtain ⟨k1,x,rfl,h1⟩:=zaah h
  obtain ⟨k2,y,rfl,h2⟩:=zaah h1
  obtain ⟨hk1,h3⟩:=zaab h2
  have hk1:=Nat.eq_of_beq_eq_true hk1
  subst hk1
  obtain ⟨v,vs,hv⟩:∃v vs,xs.toList.drop q=v::vs:=by cases hx:xs.toList.drop q with | nil=>rw [hx] at hl;cases hl | cons v vs=>exact ⟨v,vs,rfl⟩
  obtain ⟨u,us,hu⟩:∃u us,ys.toList.drop q=u::us:=by cases hy:ys.toList.drop q with | nil=>rw [hy] at hm;cases hm | cons v vs=>exact ⟨v,vs,rfl⟩
  rw [hv] at hl
  rw [hu] at hm
  cases hl with | cons hv1 hl=>
  cases hm with | cons hu1 hm=>
  have ev:=VR.int hv1
  have eu:=VR.int hu1
  subst ev eu
  have gx:xs[q]?=some (.int (kd k1) x):=by
   have:=congrArg (·[0]?) hv;simpa using this
  have gy:ys[q]?=some (.int (kd k1) y):=by
   have:=congrArg (·[0]?) hu;simpa using this
  have dx:xs.toList.drop (q+1)=vs:=by rw [<- List.drop_drop,hv];rfl
  have dy:ys.toList.drop (q+1)=us:=by rw [<- List.drop_drop,hu];rfl
  rw [List.length_cons,List.range'_succ,List.forIn_cons]
  refine zaaa.2 (zaaa.2 (zala hi (by simpa using gx) (zaaa.2 (zala hi (by simpa using gy) (zaaa.2 ?_)))))
  unfold Op.equalIn
  refine zaaa.2 (zaam fun D hD=>?_)
  rw [he] at hD;cases hD
  dsimp only
  rw [if_pos rfl]
  refine zaac.2 ?_
  rw [ieq_eq] at h3
  by_cases hxy:x=y
  · rw [decide_eq_true hxy,bc_true] at h3
    rw [if_neg (by simp [hxy])]
    refine zaac.2 ?_
    dsimp only
    exact zagh he hi d l m xs ys (q+1) f r (by rw [dx];exact hl) (by rw [dy];exact hm) h3 hk
  · rw [if_pos (by simp [hxy])]
    exact zaac.2 (zaac.2 (hk _))
end
end Go.Co
namespace Go.Co
open Go Go.Conc Go.AI Go.RowKit Go.MapKept
section
variable {P:Program} {A W:NB} {ι:Inj} {h:H} {w:World} {a b:AV} {u v:Value}
theorem zam6 {α:Type} {r:α} {k:AV->H->Option α} {op:BinOp} {t e:TypeId} {x y:Operand} {neg:Bool} {len:Nat} {kk:IntKind} (ho:op = .eql\/op = .neq) (hu:P.underlying t=some (.array len e)) (he:P.underlying e=some (.int kk)) (hi:(P.info? e).map (·.size)=some 1)
 (hg:P.eqGuardType P.depth t=false) (hx:VR ι a u) (hy:VR ι b v) (e0:aEqA neg len a b h k=some r):Cf P A W (do eqGuard op t x y u v;binOp op t u v):=by
 obtain ⟨a',rfl,e1⟩:=zabe e0
 obtain ⟨l,hl,e2⟩:=zaal e1
 obtain ⟨b',rfl,e3⟩:=zabe e2
 obtain ⟨m,hm,e4⟩:=zaal e3
 obtain ⟨h5,e5⟩:=zaab e4
 have h5:=Nat.eq_of_beq_eq_true h5
 rw [zabd] at h5
 obtain ⟨cs,rfl,hcs⟩:=hx.agg
 obtain ⟨ds,rfl,hds⟩:=hy.agg
 obtain ⟨i,hi1,hi2⟩:∃i,P.info? e=some i/\i.size=1:=by
  cases hq:P.info? e with
  | none=>rw [hq] at hi;cases hi
  | some i=>rw [hq] at hi;exact ⟨i,rfl,by simpa using hi⟩
 have hagg:isAggT P e=some false:=by unfold isAggT;rw [he]
 refine zaaa.2 ?_
 have guard:∀{K:NB->NB->Unit->Prop},K A W ()->conf P A W (eqGuard op t x y (.agg cs) (.agg ds)) K:=fun {K} hK=>by
  have e:eqGuard op t x y (.agg cs) (.agg ds)=(do
   if !(<- program).eqGuardType (<- program).depth t then return
   if <- Op.eqGuardIn Op.maxDepth t (.agg cs) (.agg ds) then unsupported (.noEntry "binop/eql: two nil values of an interface type with methods, in a part of a struct or an array"):Sem Unit):=by
   rcases ho with rfl | rfl <;> rfl
  rw [e]
  refine zaaa.2 (zabz (zaaa.2 (zabz ?_)))
  rw [hg]
  exact zaac.2 hK
 refine guard ?_
 refine cf_eq ho (by simp) ?_
 unfold Op.equal Op.maxDepth Op.equalIn
 refine zaaa.2 (zaam fun D hD=>?_)
 rw [hu] at hD;cases hD
 dsimp only
 refine zaaa.2 (zahf hi1 ?_)
 rw [hi2]
 simp only [Std.Legacy.Range.forIn_eq_forIn_range',Std.Legacy.Range.size,Nat.sub_zero,Nat.add_one_sub_one,Nat.div_one]
 rw [<- h5]
 refine zaaa.2 (zagh he hagg 9998 l m cs ds 0 _ r (by simpa using zaa2 hl hcs) (by simpa using zaa2 hm hds) e5 fun z=>?_)
 split
 · exact zaac.2 trivial
 · exact zaac.2 trivial
theorem zae6 {kt:TypeId} {D:TypeDesc} {key:Value} {emp:Bool} (hk:P.underlying kt=some D) (hK:IsKey D key) {K:NB->NB->Unit->Prop} (hK2:K A W ()):conf P A W (Instr.checkKey emp 10000 kt key) K:=by
 unfold Instr.checkKey
 refine zaaa.2 (zaam fun D' h'=>?_)
 rw [hk] at h';cases h'
 cases D <;> cases key <;> first | (cases hK;done) | exact zaac.2 hK2
theorem zaei {kt:TypeId} {key:Value} (hx:(∃k n,key = .int k n)\/(∃s,key = .string s)\/∃b,key = .bool b):∀(es:List MapEntry) (i:Nat),Bare P (Instr.findAsking kt key es i)
 | [],i=>by unfold Instr.findAsking;intro hk;exact zaac.2 (hk _)
 | e::es,i=>by
  unfold Instr.findAsking
  intro hk
  refine zaaa.2 (zag3 hx fun b=>?_)
  split
  · exact zaac.2 (hk _)
  · exact zaei hx es (i+1) hk
theorem zaem {kt:TypeId} {key:Value} (hx:(∃k n,key = .int k n)\/(∃s,key = .string s)\/∃b,key = .bool b) (es:List MapEntry):Bare P (Instr.findKey kt key es):=by
 unfold Instr.findKey
 intro A W K hk
 refine zaaa.2 (zaaf _ fun D=>?_)
 split
 · exact zaac.2 (hk _)
 · exact zaei hx es 0 hk
theorem zafa {D:TypeDesc} {key:Value} (hK:IsKey D key):(∃k n,key = .int k n)\/(∃s,key = .string s)\/∃b,key = .bool b:=by
 cases D <;> cases key <;> first | (cases hK;done) | exact .inl ⟨_,_,rfl⟩ | exact .inr (.inl ⟨_,rfl⟩) | exact .inr (.inr ⟨_,rfl⟩)
theorem zaql {t kt et:TypeId} {D:TypeDesc} {m key:Value} {ok:Bool} (ht:P.underlying t=some (.map kt et)) (hk:P.underlying kt=some D) (hK:IsKey D key) (hm:∀r,m = .map (some r)->A r):Cf P A W (Instr.lookup t m key ok):=by
 unfold Instr.lookup
 refine zaaa.2 (zaam fun D' h'=>?_)
 rw [ht] at h';cases h'
 dsimp only
 split
 · refine zaaa.2 (zaac.2 (zaaa.2 (zae6 hk hK (zaaa.2 (zaem (zafa hK) _ fun x=>?_)))))
   split
   · exact zaaa.2 (zaac.2 (zaac.2 trivial))
   · exact zaaa.2 (zaar _ fun z=>zaaa.2 (zaac.2 (zaac.2 trivial)))
 · rename_i r
   refine zaaa.2 (zadb (hm r rfl) fun ms c=>?_)
   refine zaaa.2 (zaac.2 (zaaa.2 (zae6 hk hK (zaaa.2 (zaem (zafa hK) _ fun x=>?_)))))
   split
   · exact zaaa.2 (zaac.2 (zaac.2 trivial))
   · exact zaaa.2 (zaar _ fun z=>zaaa.2 (zaac.2 (zaac.2 trivial)))
 · exact zaaj
theorem zafv (x y:Value):Bare P (Instr.keyThatStays x y):=by unfold Instr.keyThatStays;(repeat' first | (with_reducible first | exact Bare.pure _ | exact Bare.halt _ | exact Bare.stuck _ | exact Bare.unsupported _ | exact Bare.goPanic _ | exact Bare.program | exact Bare.shape _ | exact Bare.frozen _ | exact Bare.choose _) | assumption | (with_reducible first | refine Bare.bind ?_ (fun _=>?_) | refine Bare.map ?_) | split | dsimp only)
theorem zaf6 {t kt et:TypeId} {D:TypeDesc} {m key x:Value} (ht:P.underlying t=some (.map kt et)) (hk:P.underlying kt=some D) (hK:IsKey D key) (hm:∀r,m = .map (some r)->A r/\W r):Cf P A W (Instr.mapUpdate t m key x):=by
 unfold Instr.mapUpdate
 refine zaaa.2 (zaam fun D' h'=>?_)
 rw [ht] at h';cases h'
 dsimp only
 split
 · exact zaas _
 · rename_i r
   refine zaaa.2 (zadb (hm r rfl).1 fun ms c=>?_)
   dsimp only
   refine zaaa.2 (zae6 hk hK (zaaa.2 (zaem (zafa hK) _ fun x=>?_)))
   split
   · exact zaaa.2 (zafv _ _ fun z=>zae9 (hm r rfl).2 rfl trivial)
   · exact zae9 (hm r rfl).2 rfl trivial
 · exact zaaj
theorem zame {ats:Array TypeId} {ty:TypeId} {x:Value} (hx:∀r,x = .map (some r)->A r/\W r) (hs:∀a k c,x = .slice a k c->False):Cf P A W (Builtin.clear_ ats ty #[x]):=by
 unfold Builtin.clear_
 split
 · rename_i q t d h
   simp only [List.getElem?_toArray,List.getElem?_cons_zero,Option.some.injEq,Prod.mk.injEq] at h
   obtain ⟨_,rfl⟩:=h
   refine zaaa.2 (zaaf _ fun D=>?_)
   split
   · exact zaaa.2 (zaac.2 (zaac.2 trivial))
   · exact (hs _ _ _ rfl).elim
   · exact (hs _ _ _ rfl).elim
   · rename_i r
     exact zaaa.2 (zadb (hx r rfl).1 fun ms c=>zaaa.2 (zae9 (hx r rfl).2 rfl (zaac.2 trivial)))
   · exact (hs _ _ _ rfl).elim
   · exact zaaa.2 zaaj
 · exact zaaj
theorem zahw {ats:Array TypeId} {ty:TypeId} {b:Option Addr} {c:Nat}:Cf P A W (Builtin.clear_ ats ty #[.slice b 0 c]):=by
 unfold Builtin.clear_
 split
 · rename_i q t d h
   simp only [List.getElem?_toArray,List.getElem?_cons_zero,Option.some.injEq,Prod.mk.injEq] at h
   obtain ⟨_,rfl⟩:=h
   refine zaaa.2 (zaaf _ fun D=>?_)
   cases b <;> cases D <;> exact zaaa.2 (zaac.2 (zaac.2 trivial))
 · exact zaaj
theorem zakl {ats:Array TypeId} {ty:TypeId} {base:Option Addr} {n c:Nat} {y:Value} (h0:(∃b k,y = .slice b 0 k)\/∃s,y = .string s/\s.size=0):Cf P A W (Builtin.copy_ ats ty #[.slice base n c,y]):=by
 have first:∀{size:Nat} {K:NB->NB->Array Value->Prop},K A W #[]->conf P A W (Builtin.firstCells size 0 y) K:=fun {size K} hK=>by
  unfold Builtin.firstCells
  rcases h0 with ⟨b,k,rfl⟩ | ⟨s,rfl,hs⟩
  · cases b with
    | none=>exact zaac.2 hK
    | some a=>simp only [Nat.zero_mul];exact zaac.2 hK
  · have:s=⟨#[]⟩:=by
     cases s with | mk d=>have:d = #[]:=Array.eq_empty_of_size_eq_zero hs;rw [this]
    subst this
    exact zaac.2 (by simpa using hK)
 have len:∀{K:NB->NB->Nat->Prop},K A W 0->conf P A W (Builtin.lenOf y) K:=fun {K} hK=>by
  unfold Builtin.lenOf
  rcases h0 with ⟨b,k,rfl⟩ | ⟨s,rfl,hs⟩
  · exact zaac.2 hK
  · exact zaac.2 (by rw [hs];exact hK)
 unfold Builtin.copy_
 split
 · rename_i q t d src h
   simp only [List.getElem?_toArray,List.getElem?_cons_zero,List.getElem?_cons_succ,Option.some.injEq,Prod.mk.injEq] at h
   obtain ⟨_,rfl,rfl⟩:=h
   refine zaaa.2 (zaaf _ fun D=>?_)
   split
   · dsimp only
     refine zaaa.2 (len ?_)
     refine zaaa.2 (zaax _ fun sz=>?_)
     rw [show Nat.min 0 n=0 from Nat.zero_min n]
     refine zaaa.2 (first ?_)
     cases base with
     | none=>exact zaac.2 trivial
     | some a=>exact zaaa.2 (zaac.2 (zaac.2 trivial))
   · exact zaaj
 · exact zaaj
theorem zapq {ats:Array TypeId} {ty:TypeId} {x:Value} (hx:∀r,x = .map (some r)->A r) (hc:∀r,x≠.chan (some r)):Cf P A W (Builtin.len_ ats ty #[x]):=by
 unfold Builtin.len_
 split
 · rename_i q t d h
   simp only [List.getElem?_toArray,List.getElem?_cons_zero,Option.some.injEq,Prod.mk.injEq] at h
   obtain ⟨_,rfl⟩:=h
   refine zaaa.2 (zaaf _ fun D=>?_)
   split
   · exact zaac.2 trivial
   · exact zaac.2 trivial
   · refine zaaa.2 (zaaf _ fun D=>?_)
     split
     · exact zaac.2 trivial
     · exact zaaj
   · exact zaac.2 trivial
   · exact zaac.2 trivial
   · exact zaac.2 trivial
   · rename_i r;exact zaaa.2 (zadb (hx r rfl) fun ms c=>zaac.2 trivial)
   · exact absurd rfl (hc _)
   · exact zaaj
 · exact zaaj
variable {o:Oper} {N:Nat} {st:St} {ac:Act} {k:AV->H->Option R} {r:R} {Γ:Env}
theorem map_at {bk:Nat} {v:Value} (hx:VR ι (.leaf (.map bk)) v):∀x,v = .map (some x)->∃B o z,ι bk=some (B,o,z)/\x=B:=by
 obtain ⟨B,q,z,ib,ex⟩:=hx
 have ex:v = .map (some B):=by simpa using ex
 intro x e;rw [ex] at e;cases e;exact ⟨B,q,z,ib,rfl⟩
theorem zalz {es:Nat} {y:AV} {n2:Nat} {vs:List AV} {α:Type} {f:Nat->List AV->Option α} {r:α} (hy:VR ι y v) (e:withElems es y h f=some r) :
 (∀a k c,v = .slice (some a) k c->k=0\/known ι h a.block)/\∃n vs,f n vs=some r/\((∃b k,v = .slice b n k)\/∃s,v = .string s/\s.size=n):=by
 cases y using AV.casesE <;> (try (cases e;done))
 case str l n=>
  obtain ⟨s,rfl,hl,hn⟩:=hy.str
  obtain ⟨_,e⟩:=zaab (c:=Nat.beq es 1) e
  exact ⟨fun a k c e=>(by cases e),n,_,e,.inr ⟨s,rfl,hn.1⟩⟩
 case nils=>
  rw [hy.nils]
  exact ⟨fun a k c e=>(by cases e),0,[],e,.inl ⟨none,0,rfl⟩⟩
 case sl b q n c=>
  obtain ⟨fl,l,hb,e⟩:=zaae e
  obtain ⟨_,e⟩:=zaab e
  obtain ⟨B,base,sz,ib,rfl⟩:=hy.sl
  exact ⟨fun a k c e=>by cases e;exact .inr (zab0 ib (by rw [hb];simp)),n,_,e,.inl ⟨_,_,rfl⟩⟩
 case osl b q n es'=>
  cases n with
  | zero=>
   obtain ⟨A0,c,rfl,hn,hc⟩:=hy.osl
   exact ⟨fun a k c e=>by cases e;exact .inl rfl,0,[],e,.inl ⟨_,_,rfl⟩⟩
  | succ n=>
   obtain ⟨fl,l,hb,e⟩:=zaae e
   obtain ⟨_,e⟩:=zaab e
   obtain ⟨_,e⟩:=zaab e
   obtain ⟨B,base,sz,c,ib,rfl,_⟩:=hy.osl1 (show 1<=n+1 by omega)
   exact ⟨fun a k c e=>by cases e;exact .inr (zab0 ib (by rw [hb];simp)),n+1,_,e,.inl ⟨_,_,rfl⟩⟩
set_option maxHeartbeats 4000000 in
theorem zaoo {ats:Array TypeId} {ty:TypeId} {x:Value} (hc:∀r,x≠.chan (some r)):Bare P (Builtin.cap_ ats ty #[x]):=by
 intro A W K hk
 unfold Builtin.cap_
 split
 · rename_i q t y h
   simp only [List.getElem?_toArray,List.getElem?_cons_zero,Prod.mk.injEq,Option.some.injEq] at h
   obtain ⟨_,rfl⟩:=h
   refine zaaa.2 (zaaf _ fun D=>?_)
   split
   · exact zaac.2 (hk _)
   · refine zaaa.2 (zaaf _ fun D=>?_)
     split
     · exact zaac.2 (hk _)
     · exact zaaj
   · exact zaac.2 (hk _)
   · exact zaac.2 (hk _)
   · exact absurd rfl (hc _)
   · exact zaaj
 · exact zaaj
theorem zaiq {ats:Array TypeId} {ty:TypeId} {kk:IntKind} {n:Int}:Makes P (Builtin.append_ ats ty #[.slice none 0 0,.int kk n]):=by
 intro A W K hk
 unfold Builtin.append_
 split
 · rename_i q t s x h
   simp only [List.getElem?_toArray,List.getElem?_cons_zero,List.getElem?_cons_succ,Option.some.injEq,Prod.mk.injEq] at h
   obtain ⟨_,rfl,rfl⟩:=h
   refine zaaa.2 (zaaf _ fun D=>?_)
   split
   · dsimp only
     refine zaaa.2 (zaax _ fun sz=>?_)
     have fin:∀{A' W':NB} {t:TypeId} {cs:Array Value} {f:Addr->Value},conf P A' W' (newRow t cs >>= fun r=>pure (f r)) K:=fun {A' W' t cs f}=>zaaa.2 (zacv t cs fun A W v=>zaac.2 (hk _ _ _))
     have no:∀{A' W':NB} {f:Nat->Sem Value},conf P A' W' (Builtin.lenOf (.int kk n) >>= f) K:=fun {A' W' f}=>zaaa.2 zaaj
     split
     · rename_i t2 ht2
       refine zaaa.2 (zaaf _ fun D=>?_)
       refine zaaa.2 (zaac.2 ?_)
       split
       · simp only [Bool.not_true,Bool.false_eq_true,if_true,if_false,true_or]
         refine zaaa.2 (zaaa.2 (zab3 _ fun l=>zaac.2 ?_))
         split
         · exact zaaa.2 (zaas _)
         · refine zaaa.2 (zaan _ fun ti=>?_)
           split
           · exact zaaa.2 (zaca fun _=>zaaa.2 (zaas _))
           · refine zaaa.2 (zaac.2 ?_)
             split
             · refine zaaa.2 ?_
               split
               · exact zaac.2 (zaac.2 (hk _ _ _))
               · exact zaaa.2 (zaar _ fun z=>zaac.2 (zaac.2 (hk _ _ _)))
             · refine zaaa.2 (zaan _ fun ti=>?_)
               split
               · exact zaaa.2 (zaas _)
               · refine zaaa.2 (zaan _ fun ti=>?_)
                 split
                 · exact zaaa.2 (zaas _)
                 · refine zaaa.2 (zaca fun nc=>?_)
                   refine zaaa.2 (zaan _ fun ti=>?_)
                   refine zaaa.2 (zacj ?_)
                   refine zaaa.2 (zaat (fun a k c e=>by cases e) fun old=>?_)
                   refine zaaa.2 ?_
                   split
                   · exact zaac.2 (zaaa.2 (zaar _ fun z=>fin))
                   · exact zaaa.2 (zaar _ fun z=>zaac.2 (zaaa.2 (zaar _ fun z=>fin)))
       · simp only [Bool.false_eq_true,if_false]
         exact no
     · refine zaaa.2 (zaac.2 ?_)
       simp only [Bool.false_eq_true,if_false]
       exact no
   · exact zaaj
 · exact zaaj
theorem zam4 (hr:Rel ι h w) (hs:StR ι N st ac) (hc:∀c,o.op = .call c->∃b,c.callee = .builtin b) (e:dOp P Γ o st h k=some r):Cf P (known ι h) (Own ι h) (execOp ac.eval o):=by
 by_cases h0:clsOf P 1 o=0
 · exact zann hr hs h0 e fun _=>trivial
 have hρ:∀x,VR ι (ev st x) (ac.eval x):=hs.ev
 have own_known':∀B,Own ι h B->known ι h B:=fun B ho=>zaed ho
 unfold dOp at e
 split at e
 · rename_i x ho;exact absurd (by simp [clsOf,ho]) h0
 · rename_i x ho;exact absurd (by simp [clsOf,ho]) h0
 · rename_i c x y ho;exact absurd (by simp [clsOf,ho]) h0
 · rename_i t ho;unfold execOp;simp only [ho];exact Cf.val (zamt t fun _ _ _=>trivial)
 · rename_i t x ho;unfold execOp;simp only [ho];exact Cf.val (zaq0 t _ fun _ _ _=>trivial)
 · rename_i t ps ho;unfold execOp;simp only [ho];exact Cf.val (zao9 t _ fun _=>trivial)
 · rename_i t n ps ho;unfold execOp;simp only [ho];exact Cf.val (zadw t n _ fun _ _ _=>trivial)
 · rename_i t x ho
   have key:∃b q,ev st x = .ptr b q/\h.get b≠.dead:=by
    split at e
    · split at e
      · obtain ⟨b,q,hx,e⟩:=zaaw e
        obtain ⟨fl,l,hb,_⟩:=zaae e
        exact ⟨b,q,hx,by rw [hb];simp⟩
      · cases e
    · obtain ⟨b,q,hx,e⟩:=zaaw e
      obtain ⟨fl,l,hb,_⟩:=zaae e
      exact ⟨b,q,hx,by rw [hb];simp⟩
    · cases e
   obtain ⟨b,q,hx,hb⟩:=key
   have hv:=hρ x
   rw [hx] at hv
   unfold execOp;simp only [ho]
   exact Cf.val (zafi (zapt hv hb) fun _=>trivial)
 · rename_i t x y ho
   have key:∃b q fl l,ev st x = .ptr b q/\h.get b = .cells fl l/\fl<=1:=by
    split at e
    · obtain ⟨b,q,hx,e⟩:=zaaw e
      obtain ⟨fl,l,hb,e⟩:=zaae e
      obtain ⟨_,_,e⟩:=zabe e
      obtain ⟨_,_,e⟩:=zaal e
      obtain ⟨hf,_⟩:=zaab e
      exact ⟨b,q,fl,l,hx,hb,Nat.le_of_ble_eq_true hf⟩
    · obtain ⟨_,e⟩:=zaab e
      obtain ⟨b,q,hx,e⟩:=zaaw e
      obtain ⟨fl,l,hb,e⟩:=zaae e
      obtain ⟨hf,_⟩:=zaab e
      exact ⟨b,q,fl,l,hx,hb,Nat.le_of_ble_eq_true hf⟩
    · cases e
   obtain ⟨b,q,fl,l,hx,hb,hf⟩:=key
   have hv:=hρ x
   rw [hx] at hv
   unfold execOp;simp only [ho]
   exact Cf.unit (zagn (zat2 hv hb hf) trivial)
 · rename_i x ho;exact absurd (by simp [clsOf,ho]) h0
 · rename_i op t x y u ho
   have hx:=hρ x
   have hy:=hρ y
   unfold execOp;simp only [ho]
   refine Cf.val ?_
   unfold dBin at e
   split at e
   · rename_i hu;exact absurd (by simp [clsOf,ho,hu]) h0
   · rename_i hu;exact absurd (by simp [clsOf,ho,hu]) h0
   · rename_i len el hu
     split at e
     case h_2=>cases e
     rename_i kk hel hsz
     obtain ⟨hg,e⟩:=zaab e
     rw [zad6,Bool.not_eq_true'] at hg
     split at e
     · exact zam6 (.inl rfl) hu hel hsz hg hx hy e
     · exact zam6 (.inr rfl) hu hel hsz hg hx hy e
     · cases e
   · split at e
     · obtain ⟨hk,e1⟩:=zaab e
       cases hq:eqA h (ev st x) (ev st y) with
       | none=>rw [hq] at e1;cases e1
       | some q=>exact eqA_cf (.inl rfl) hx hy (Nat.eq_of_beq_eq_true hk) hq
     · obtain ⟨hk,e1⟩:=zaab e
       cases hq:eqA h (ev st x) (ev st y) with
       | none=>rw [hq] at e1;cases e1
       | some q=>exact eqA_cf (.inr rfl) hx hy (Nat.eq_of_beq_eq_true hk) hq
     · cases e
 · rename_i op t x ho;exact absurd (by simp [clsOf,ho]) h0
 · rename_i s d x ho
   have hv:=hρ x
   unfold execOp;simp only [ho]
   unfold dConv at e
   split at e
   · rename_i hd;exact absurd (by simp [clsOf,ho,hd]) h0
   · rename_i el hs' hd
     split at e
     · rename_i hel
       refine Cf.val ?_
       generalize ev st x=b at e hv
       cases b using AV.casesE <;> (try (cases e;done))
       case nils=>rw [hv.nils];exact zadi hs' hel hd (fun x e=>by cases e) fun _=>trivial
       case sl b q n c=>
        obtain ⟨fl,l,hb,e⟩:=zaae e
        obtain ⟨B,base,sz,ib,ex⟩:=hv.sl
        rw [ex]
        exact zadi hs' hel hd (fun x e=>by cases e;exact .inr (zab0 ib (by rw [hb];simp))) fun _=>trivial
       case osl b q n es'=>
        obtain ⟨fl,l,hb,e⟩:=zaae e
        obtain ⟨_,e⟩:=zaab e
        obtain ⟨_,e⟩:=zaab e
        obtain ⟨_,_,e⟩:∃x,(True)/\_:=⟨(),trivial,e⟩
        obtain ⟨A0,c,ex,hn,hcc⟩:=hv.osl
        rw [ex]
        refine zadi hs' hel hd (fun x e=>?_) fun _=>trivial
        cases e
        rcases hcc with rfl | ⟨B,base,sz,ib,ha,_⟩
        · exact .inl (by omega)
        · exact .inr (by rw [ha];exact zab0 ib (by rw [hb];simp))
     · cases e
   · rename_i hd
     obtain ⟨l,n,hx,_⟩:=zaap e
     rw [hx] at hv
     obtain ⟨s1,ex,_⟩:=hv.str
     rw [ex]
     exact Cf.val (zakw hd fun _=>trivial)
   · cases e
 · rename_i t x ho;exact absurd (by simp [clsOf,ho]) h0
 · rename_i t x lo hi mx ho;exact absurd (by simp [clsOf,ho]) h0
 · rename_i t x f ho;exact absurd (by simp [clsOf,ho]) h0
 · rename_i t x i ho;exact absurd (by simp [clsOf,ho]) h0
 · rename_i t x i ho;exact absurd (by simp [clsOf,ho]) h0
 · rename_i x i ho;exact absurd (by simp [clsOf,ho]) h0
 · rename_i c ho
   obtain ⟨bb,hbb⟩:=hc c ho
   split at e
   · rename_i f hcc;rw [hcc] at hbb;cases hbb
   · rename_i f n hcc;rw [hcc] at hbb;cases hbb
   · rename_i hcc
     split at e
     · rename_i x t ha hat
       obtain ⟨hk,e1⟩:=zaab e
       have hv:=hρ x
       rw [zaol ho hcc,zaak ha,show Array.map ac.eval #[x] = #[ac.eval x] by simp]
       refine Cf.val ?_
       generalize ev st x=b at e1 hv
       cases b using AV.casesE <;> (try (cases e1;done))
       case str l n=>obtain ⟨s1,ex,_⟩:=hv.str;rw [ex];exact zaf9 (fun r e=>by cases e) (fun r e=>by cases e) fun _=>trivial
       case nils=>rw [hv.nils];exact zaf9 (fun r e=>by cases e) (fun r e=>by cases e) fun _=>trivial
       case nilm=>rw [show ac.eval x = .map none from by simpa [VX] using hv];exact zaf9 (fun r e=>by cases e) (fun r e=>by cases e) fun _=>trivial
       case sl b q n c=>obtain ⟨B,base,sz,ib,ex⟩:=hv.sl;rw [ex];exact zaf9 (fun r e=>by cases e) (fun r e=>by cases e) fun _=>trivial
       case osl b q n es=>obtain ⟨A0,c,ex,_⟩:=hv.osl;rw [ex];exact zaf9 (fun r e=>by cases e) (fun r e=>by cases e) fun _=>trivial
       case map b=>
        obtain ⟨B,q,z,ib,ex⟩:=hv
        have ex:ac.eval x = .map (some B):=by simpa using ex
        have hb:h.get b≠.dead:=fun hd=>by
         have e1:(onMap b h fun es _=>k (.int 3 (.ofNat (lenL es))) h)=some r:=e1
         unfold onMap at e1;rw [hd] at e1;cases e1
        rw [ex];exact zapq (fun x e=>by cases e;exact zab0 ib hb) (by simp)
     · cases e
   · rename_i hcc
     split at e
     · rename_i x y es bs ha hT
       rw [zaa9 ho hcc,zaak ha,show Array.map ac.eval #[x,y] = #[ac.eval x,ac.eval y] by simp]
       refine Cf.val ?_
       have hx:=hρ x
       have hy:=hρ y
       obtain ⟨⟨t,t2,el,d2,i,z,ht,ht2,hu,hu2,hni,hi,hz,_,_,_⟩⟩:=zai8 hT
       have hz:∀t,c.argTypes[1]?=some t->∀k,P.underlying t≠some (.int k):=fun t' h1 k h2=>by
        rw [ht2] at h1;cases h1;rw [hu2] at h2;cases h2;exact hni _ rfl
       obtain ⟨hy1,n2,vs,e1,hlen⟩:=zalz (n2:=0) (vs:=[]) hy e
       cases n2 with
       | zero=>
        have e1:aApp0 (ev st x) h k=some r:=e1
        have h0':(∃b k,ac.eval y = .slice b 0 k)\/∃s,ac.eval y = .string s/\s.size=0:=hlen
        generalize ev st x=b at e1 hx
        cases b using AV.casesE <;> (try (cases e1;done))
        case nils=>rw [hx.nils];exact zaeo (Nat.le_refl _) h0' hz fun _ _ _=>trivial
        case sl b q n c0=>
         obtain ⟨hn,_⟩:=zaab (c:=Nat.ble n c0) e1
         obtain ⟨B,base,sz,ib,ex⟩:=hx.sl
         rw [ex];exact zaeo (Nat.le_of_ble_eq_true hn) h0' hz fun _ _ _=>trivial
        case osl b q n es'=>
         obtain ⟨A0,c0,ex,hn,_⟩:=hx.osl
         rw [ex];exact zaeo hn h0' hz fun _ _ _=>trivial
       | succ n2=>
        have e1:aApp1 es bs (n2+1) vs (ev st x) h k=some r:=e1
        have hy2:∀a k c,ac.eval y = .slice (some a) k c->known ι h a.block:=fun a k c e=>by
         rcases hlen with ⟨b,k',hl⟩ | ⟨s,hl,_⟩
         · rw [hl] at e;cases e
           exact (hy1 _ _ _ hl).resolve_left (by omega)
         · rw [hl] at e;cases e
        have hlen2:∀m,((∃b k,ac.eval y = .slice b m k)\/∃s,ac.eval y = .string s/\s.size=m)->m=n2+1:=fun m hm=>by
         rcases hlen with ⟨b,k',hl⟩ | ⟨s,hl,hs1⟩ <;> rcases hm with ⟨b2,k2,hl2⟩ | ⟨s2,hl2,hs2⟩ <;> rw [hl] at hl2 <;> cases hl2
         · rfl
         · omega
        generalize ev st x=b at e1 hx
        cases b using AV.casesE <;> (try (cases e1;done))
        case nils=>rw [hx.nils];exact zaea (fun a e=>by cases e) (fun a m e=>by cases e) hy2 hz fun _ _ _=>trivial
        case sl b q n c0=>
         obtain ⟨B,base,sz,ib,ex⟩:=hx.sl
         rw [ex]
         have e1:bc (Nat.ble (Nat.add n (n2+1)) c0)
          (withCells h b fun fl l=>bc (Nat.ble fl 1) (bc (Nat.ble (Nat.add (Nat.add q (Nat.mul n es)) (lenL vs)) (lenL l)) (bc (allOne vs) (k (.leaf (.sl b q (Nat.add n (n2+1)) c0)) (h.set b (.cells fl (spliceF l (Nat.add q (Nat.mul n es)) vs)))) none) none) none)
          (
           withCells h b fun fl l=>bc (Nat.beq (lenL (takeL (Nat.mul n es) (dropL q l))) (Nat.mul n es)) (bc (Nat.ble (Nat.mul (Nat.add n (n2+1)) bs) 140737488355328) (bc (Nat.ble (Nat.add n (n2+1)) strMax)
           (k (.osl h.n 0 (Nat.add n (n2+1)) es) (h.push (.cells 0 (appA (takeL (Nat.mul n es) (dropL q l)) vs)))) none) none) none)=some r:=e1
         cases hb:Nat.ble (Nat.add n (n2+1)) c0 with
         | true=>
          rw [hb,bc_true] at e1
          obtain ⟨fl,l,g,e1⟩:=zaae e1
          obtain ⟨hf,_⟩:=zaab e1
          exact zaea (fun a e=>by cases e;exact .inr (zab0 ib (by rw [g];simp))) (fun a m e _ _=>by cases e;exact own_of ib g (Nat.le_of_ble_eq_true hf)) hy2 hz fun _ _ _=>trivial
         | false=>
          rw [hb,zaag] at e1
          obtain ⟨fl,l,g,e1⟩:=zaae e1
          refine zaea (fun a e=>by cases e;exact .inr (zab0 ib (by rw [g];simp))) (fun a m e hm hle=>?_) hy2 hz fun _ _ _=>trivial
          have:=hlen2 m hm
          subst this
          have:Nat.ble (Nat.add n (n2+1)) c0=true:=Nat.ble_eq_true_of_le hle
          rw [hb] at this;cases this
        case osl b q n es'=>
         obtain ⟨A0,c0,ex,hn,hcc⟩:=hx.osl
         rw [ex]
         obtain ⟨fl,l,g,e1⟩:=zaae e1
         obtain ⟨_,e1⟩:=zaab e1
         obtain ⟨_,e1⟩:=zaab e1
         obtain ⟨_,e1⟩:=zaab e1
         obtain ⟨_,e1⟩:=zaab e1
         obtain ⟨hf,e1⟩:=zaab e1
         refine zaea (fun a e=>?_) (fun a m e hm hle=>?_) hy2 hz fun _ _ _=>trivial
         · cases e
           rcases hcc with rfl | ⟨B,base,sz,ib,ha,_⟩
           · exact .inl (by omega)
           · exact .inr (by rw [ha];exact zab0 ib (by rw [g];simp))
         · cases e
           have:=hlen2 m hm
           rcases hcc with rfl | ⟨B,base,sz,ib,ha,_⟩
           · omega
           · rw [ha];exact own_of ib g (Nat.le_of_ble_eq_true hf)
     · rename_i x y ha hT
       split at e
       · rename_i es bs zs hz
         rw [zaa9 ho hcc,zaak ha,show Array.map ac.eval #[x,y] = #[ac.eval x,ac.eval y] by simp]
         refine Cf.val ?_
         have hx:=hρ x
         have hy:=hρ y
         generalize ev st x=b at e hx
         cases b using AV.casesE <;> (try (cases e;done))
         case nils=>
          dsimp only [aAppZ,AV.onSl] at e
          obtain ⟨kv,iv,hi,_⟩:=zaah e
          rw [hi] at hy
          rw [hx.nils,hy.int]
          exact zaiq fun _ _ _=>trivial
       · cases e
     · cases e
   · rename_i hcc
     split at e
     · rename_i x t ha hat
       rw [zaor ho hcc,zaak ha,show Array.map ac.eval #[x] = #[ac.eval x] by simp]
       refine Cf.val ?_
       have hx:=hρ x
       split at e
       · generalize ev st x=b at e hx
         cases b using AV.casesE <;> (try (cases e;done))
         case nils=>rw [hx.nils];exact zaoo (fun r e=>by cases e) fun _=>trivial
         case sl b q n c=>obtain ⟨B,base,sz,ib,ex⟩:=hx.sl;rw [ex];exact zaoo (fun r e=>by cases e) fun _=>trivial
       · cases e
     · cases e
   · rename_i hcc;exact absurd (by simp [clsOf,ho,hcc]) h0
   · rename_i hcc;exact absurd (by simp [clsOf,ho,hcc]) h0
   · rename_i hcc
     split at e
     · rename_i x t ha hat
       have hv:=hρ x
       rw [zaiv ho hcc,zaak ha,show Array.map ac.eval #[x] = #[ac.eval x] by simp]
       refine Cf.val ?_
       split at e
       · generalize ev st x=b at e hv
         cases b using AV.casesE <;> (try (cases e;done))
         rename_i b
         have e:(withMap h b fun es c=>k (.one .tup (.leaf .nil)) (h.set b (.map [] c)))=some r:=e
         obtain ⟨es,n,hb,_⟩:=zab4 e
         obtain ⟨B,q,z,ib,ex⟩:=hv
         have ex:ac.eval x = .map (some B):=by simpa using ex
         rw [ex]
         have hown:Own ι h B:=⟨b,q,z,ib,by rw [hb];exact trivial⟩
         exact zame (fun x e=>by cases e;exact ⟨zaed hown,hown⟩) (fun a k c e=>by cases e)
       · split at e
         case h_2=>cases e
         split at e
         case h_2=>cases e
         generalize ev st x=b at e hv
         cases b using AV.casesE <;> (try (cases e;done))
         case nils=>rw [hv.nils];exact zahw
         case sl b q n c0=>
          obtain ⟨B,base,sz,ib,ex⟩:=hv.sl
          rw [ex]
          cases n with
          | zero=>exact zahw
          | succ n=>
           obtain ⟨fl,l,hb,e⟩:=zaae e
           obtain ⟨hf,_⟩:=zaab e
           exact zaek (fun a k c e=>by cases e;exact own_of ib hb (Nat.le_of_ble_eq_true hf)) (fun r e=>by cases e) fun _=>trivial
         case osl b q n es'=>
          cases n with
          | zero=>obtain ⟨A0,c0,ex,_⟩:=hv.osl;rw [ex];exact zahw
          | succ n=>
           obtain ⟨B,base,sz,c0,ib,ex,_⟩:=hv.osl1 (show 1<=n+1 by omega)
           rw [ex]
           obtain ⟨fl,l,hb,e⟩:=zaae e
           obtain ⟨hf,_⟩:=zaab e
           exact zaek (fun a k c e=>by cases e;exact own_of ib hb (Nat.le_of_ble_eq_true hf)) (fun r e=>by cases e) fun _=>trivial
       · cases e
     · cases e
   · rename_i hcc
     split at e
     · rename_i x y t ha hat
       rw [zaje ho hcc,zaak ha,show Array.map ac.eval #[x,y] = #[ac.eval x,ac.eval y] by simp]
       refine Cf.val ?_
       split at e
       · split at e
         · rename_i el hu es hs'
           have hx:=hρ x
           have hy:=hρ y
           obtain ⟨hy1,n2,vs,e1,hlen⟩:=zalz (n2:=0) (vs:=[]) hy e
           cases n2 with
           | zero=>
            generalize ev st x=b at e1 hx
            cases b using AV.casesE <;> (try (cases e1;done))
            case nils=>rw [hx.nils];exact zakl hlen
            case sl b q n c0=>obtain ⟨B,base,sz,ib,ex⟩:=hx.sl;rw [ex];exact zakl hlen
            case osl b q n es'=>obtain ⟨A0,c0,ex,_⟩:=hx.osl;rw [ex];exact zakl hlen
           | succ n2=>
            have key:∀bk q n,aCopy1 es (n2+1) vs bk q n h k=some r->n2+1<=n/\∃fl l,h.get bk = .cells fl l/\fl<=1:=fun bk q n e2=>by
             obtain ⟨hn,e3⟩:=zaab e2
             obtain ⟨fl,l,hb,e4⟩:=zaae (f:=fun fl l=>bc (Nat.ble fl 1) (bc (Nat.ble (Nat.add q (Nat.mul (n2+1) es)) (lenL l)) (bc (allOne vs) (k (.int 3 (.ofNat (n2+1))) (h.set bk (.cells fl (spliceF l q vs)))) none) none) none) e3
             obtain ⟨g1,_⟩:=zaab e4
             exact ⟨Nat.le_of_ble_eq_true hn,fl,l,hb,Nat.le_of_ble_eq_true g1⟩
            generalize ev st x=b at e1 hx
            cases b using AV.casesE <;> (try (cases e1;done))
            case sl b q n c0=>
             obtain ⟨hn,fl,l,hb,hf⟩:=key b q n e1
             obtain ⟨B,base,sz,ib,ex⟩:=hx.sl
             rw [ex]
             exact zak9 (fun a k c e=>by cases e;exact own_of ib hb hf) hy1 fun _=>trivial
            case osl b q n es'=>
             obtain ⟨hn,fl,l,hb,hf⟩:=key b q n e1
             obtain ⟨B,base,sz,c0,ib,ex,_⟩:=hx.osl1 (show 1<=n by omega)
             rw [ex]
             exact zak9 (fun a k c e=>by cases e;exact own_of ib hb hf) hy1 fun _=>trivial
         · cases e
       · cases e
     · cases e
   · cases e
 · rename_i t x y ho;unfold execOp;simp only [ho];exact Cf.val (zag6 _ _ _ fun _ _ _=>trivial)
 · rename_i t y ho
   split at e
   · unfold execOp;simp only [ho];exact Cf.val (zaix _ fun _ _ _=>trivial)
   · cases e
 · rename_i t x y ok ho
   split at e
   case h_2=>cases e
   split at e
   case h_2=>cases e
   split at e
   case h_2=>cases e
   obtain ⟨hKD,e⟩:=zaab e
   have hv:=hρ x
   unfold execOp;simp only [ho]
   refine Cf.val (zaql (by assumption) (by assumption) (zady hKD (hρ y)) fun x' ex=>?_)
   generalize ev st x=b at e hv
   rw [ex] at hv
   cases b using AV.casesE <;> (try (cases e;done))
   case nilm=>
    have:Value.map (some x') = .map none:=by simp [VX] at hv
    cases this
   case map b=>
    obtain ⟨es,n,hb,_⟩:=zab4 (h:=h) (b:=b) (r:=r) (f:=fun es _=>findE (ev st y) es 0 (fun _ v=>k (resL ok v true) h) _) e
    obtain ⟨B,q,z,ib,ex2⟩:=hv
    have ex2:Value.map (some x') = .map (some B):=by simpa using ex2
    cases ex2
    exact zab0 ib (by rw [hb];simp)
 · rename_i t x y z ho
   split at e
   case h_2=>cases e
   split at e
   case h_2=>cases e
   obtain ⟨hKD,e⟩:=zaab e
   have hv:=hρ x
   unfold execOp;simp only [ho]
   refine Cf.unit (zaf6 (by assumption) (by assumption) (zady hKD (hρ y)) fun x' ex=>?_)
   generalize ev st x=b at e hv
   rw [ex] at hv
   cases b using AV.casesE <;> (try (cases e;done))
   rename_i b
   have e:(withMap h b fun es c=>findE (ev st y) es 0 (fun i _=>k (.leaf .undef) (h.set b (.map (modE (ev st y) (ev st z) es i) c))) (k (.leaf .undef) (h.set b (.map (es++[(ev st y,ev st z,c)]) (Nat.succ c)))))=some r:=e
   obtain ⟨es,n,hb,_⟩:=zab4 e
   obtain ⟨B,q,z,ib,ex2⟩:=hv
   have ex2:Value.map (some x') = .map (some B):=by simpa using ex2
   cases ex2
   have hown:Own ι h x':=⟨b,q,z,ib,by rw [hb];exact trivial⟩
   exact ⟨zaed hown,hown⟩
 · rename_i t x y z ho
   split at e
   case h_2=>cases e
   split at e
   case h_2=>cases e
   obtain ⟨hKD,e⟩:=zaab e
   have hv:=hρ x
   unfold execOp;simp only [ho]
   refine Cf.unit (zaf6 (by assumption) (by assumption) (zady hKD (hρ y)) fun x' ex=>?_)
   generalize ev st x=b at e hv
   rw [ex] at hv
   cases b using AV.casesE <;> (try (cases e;done))
   rename_i b
   have e:(withMap h b fun es c=>findE (ev st y) es 0 (fun i _=>k (.leaf .undef) (h.set b (.map (modE (ev st y) (ev st z) es i) c))) (k (.leaf .undef) (h.set b (.map (es++[(ev st y,ev st z,c)]) (Nat.succ c)))))=some r:=e
   obtain ⟨es,n,hb,_⟩:=zab4 e
   obtain ⟨B,q,z,ib,ex2⟩:=hv
   have ex2:Value.map (some x') = .map (some B):=by simpa using ex2
   cases ex2
   have hown:Own ι h x':=⟨b,q,z,ib,by rw [hb];exact trivial⟩
   exact ⟨zaed hown,hown⟩
 · rename_i fn first captured ho;exact absurd (by simp [clsOf,ho]) h0
 · rename_i t x f ho;exact absurd (by simp [clsOf,ho]) h0
 · rename_i x xT t ok ho;exact absurd (by simp [clsOf,ho]) h0
 · cases e
end
end Go.Co
