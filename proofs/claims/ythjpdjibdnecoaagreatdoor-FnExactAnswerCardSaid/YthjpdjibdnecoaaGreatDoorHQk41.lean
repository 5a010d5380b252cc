import Derived.Test.YthjpdjibdnecoaaGreatDoorHQk24
set_option linter.all false
open Go renaming World->M,Program->O,KeepsFrom->U,Value->X
open Option renaming some->N,none->V
open Go.World renaming putObj_heap_other->S
open Go.Fence renaming wide->T
namespace Go.Proofs.YthjpdjibdnecoaaGreatDoor
open Go.RowKit
def KD(i:FuncId)(P:O)(c:Code)(Q:Exit->Act->M->Prop)(a:Act)(w:M):Prop:=
 ∀(b:Frame)(g:List Item)(e:List Frame),b.roundOf=V->b.fn=i->
  ∃f d h,Q f d h/\ArrivesIn (Machine.fenced P T) P (lone (b.atR a (.code c::g)) e w) b g e f d h
theorem qE{e:FuncId}{P:O}{c:Code}{Q:Exit->Act->M->Prop}{a:Act}{w:M}(h:c.wp P Q a w):KD e P c Q a w:=
 fun b g d f _=>(py (n:=0)).2 h b g d f trivial (room_wide _)
theorem fw(P:O)(m:Machine):m.fenced P T:=fenced_wide P m
theorem ahB{k:FuncId}{P:O}{x b:Code}{Q:Exit->Act->M->Prop}{a:Act}{w:M}(h:KD k P x (Exit.then (KD k P b Q) Q) a w):KD k P (Code.seq x b) Q a w:=by
 intro i l j n m;have c:=fw P (lone (i.atR a (.code (.seq x b)::l)) j w);obtain⟨p,f,g,e,d⟩:=h i (.code b::l) j n m;cases p with
 |normal=>
  obtain⟨q,o,t,s,r⟩:=e i l j n m;exact⟨q,o,t,s,.of_steps (.head c uc d) r⟩
 |exit id=>exact⟨_,f,g,e,.of_steps (.one c uc) (.pass (x:= .code b) rfl (fun _ _=> .inl (by simp)) d)⟩
 |goto v=>exact⟨_,f,g,e,.of_steps (.one c uc) (.pass (x:= .code b) rfl (fun _ _=> .inl (by simp)) d)⟩
 |ret=>exact⟨_,f,g,e,.of_steps (.one c uc) (.pass (x:= .code b) rfl (fun _ _=> .inl (by simp)) d)⟩
 |panic u=>exact⟨_,f,g,e,.of_steps (.one c uc) (.pass (x:= .code b) rfl (fun _ _=> .inl (by simp)) d)⟩
 |outgrown=>exact⟨_,f,g,e,.of_steps (.one c uc) (.pass (x:= .code b) rfl (fun _ _=> .inl (by simp)) d)⟩
theorem qF{b:FuncId}{P:O}{x c:Code}{Q:Exit->Act->M->Prop}{a:Act}{w:M}(h:∀K:Act->M->Prop,(∀a w,KD b P c Q a w->K a w)->KD b P x (Exit.then K Q) a w):KD b P (Code.seq x c) Q a w:=ahB (h _ fun _ _ h=>h)
theorem ab7{j:FuncId}{P:O}{id:Nat}{c:Code}{Q:Exit->Act->M->Prop}{a:Act}{w:M}(p:∀e a w,Q e a w->(e= .normal\/∃g,e= .panic g))(h:KD j P c Q a w):KD j P (Code.block id c) Q a w:=by
 intro f m i q o;have k:=fw P (lone (f.atR a (.code (.block id c)::m)) i w);obtain⟨e,d,n,b,l⟩:=h f (.inBlock id::m) i q o;rcases p _ _ _ b with rfl|⟨g,rfl⟩
 ·exact⟨.normal,d,n,b,.head k stepR_block (pq l (.one (fw _ _) stepR_inBlock))⟩
 ·exact⟨_,d,n,b,.of_steps (.one k stepR_block) l⟩
def ae0(K:Act->M->Prop)(Z:List PanicEntry->Act->M->Prop):Exit->Act->M->Prop
 | .normal,a,w=>K a w
 | .panic b,a,w=>Z b a w
 |_,_,_=>False
theorem ae1{d:FuncId}{P:O}{c:Code}{Q b:Exit->Act->M->Prop}{a:Act}{w:M}(k:∀e a w,Q e a w->b e a w)(h:KD d P c Q a w):KD d P c b a w:=
 fun g m i l j=>let ⟨e,f,p,n,o⟩:=h g m i l j;⟨e,f,p,k _ _ _ n,o⟩
theorem II{e:FuncId}{P:O}{id:Nat}{c:Code}{K:Act->M->Prop}{Q:Exit->Act->M->Prop}{a:Act}{w:M}(h:KD e P c (ae0 K (fun b a w=>Q (.panic b) a w)) a w):KD e P (Code.block id c) (Exit.then K Q) a w:=
 ae1 (fun d a w h=>by cases d<;>first|exact h|exact h.elim) (ab7 (Q:=ae0 K (fun b a w=>Q (.panic b) a w)) (fun d a w h=>by
  cases d
  ·exact .inl rfl
  all_goals first|exact .inr ⟨_,rfl⟩|exact h.elim) h)
def ajF(D:List Deferred)(Z:List PanicEntry->M->Prop):Exit->Act->M->Prop
 | .panic b,a,w=>a.defers=D/\Z b w
 |_,_,_=>False
theorem F6{n:Nat}{P:O}{f:FuncId}{fn:Func}{c:Code}{args:Array X}{w:M}{R:Ending->M->Prop}(q:P.funcs[f]?=N fn)(y:fn.body=N c)
  (h:KD f P c (bodyPostM T n P fn R) {tmps:=args++Array.replicate (fn.ntmps-args.size) undef,defers:=[]} w):Calls P f args w R:=by
 refine(kH (n:=n)).1 ⟨trivial,fun p s=>?_⟩;let a:Frame:={(default:Frame) with fn:=f,kind:= .normal,roundOf:=V};have z:Frame.enter P f args .normal=a.atR {tmps:=args++Array.replicate (fn.ntmps-args.size) undef,defers:=[]} [.code c]:=by
  simp[Frame.enter,Frame.atR,q,y,a]
 obtain⟨x,b,r,d,j⟩:=h a [] p rfl rfl;rw[<-z]at j;cases x with
 |normal=>
  obtain⟨e,o,g,i,m,k,l⟩:=leaves_stepsInM b.defers .returning r {a.atR b [] with mode:= .returning} p rfl rfl rfl q rfl trivial s d;exact⟨e,o,g,i,Eo (pq j (.one (fw _ _) (stepR_end rfl))) m,k,l⟩
 |ret=>
  obtain⟨u,t⟩:=j.1 rfl;obtain⟨e,o,g,i,m,k,l⟩:=leaves_stepsInM b.defers .returning r {a.atR b u with mode:= .returning} p rfl rfl rfl q rfl trivial s d;exact⟨e,o,g,i,Eo t m,k,l⟩
 |panic v=>
  obtain⟨u,t⟩:=j;obtain⟨e,o,g,i,m,k,l⟩:=leaves_stepsInM b.defers (.panicking v) r {a.atR b u with mode:= .panicking v} p rfl rfl rfl q rfl trivial s d;exact⟨e,o,g,i,Eo t m,k,l⟩
 |exit id=>exact d.elim
 |goto A=>exact d.elim
 |outgrown=>exact⟨.outgrown,r,a,d,j.resolve_left (by simp[a]),rfl,trivial⟩
def ae2(B:Nat)(W:M)(R:M->Prop)(Pn:List PanicEntry->M->Prop):Exit->Act->M->Prop
 | .normal,_,b=>U B W b/\R b
 | .panic c,a,b=>a.defers=[]/\U B W b/\Pn c b
 |_,_,_=>False
theorem ae3{P:O}{n l:Nat}{f:FuncId}{tmps:Array X}{i d:Code}{w:M}{R:Ending->M->Prop}{B:Nat}{Z:M->M->Prop}{Pn:List PanicEntry->M->Prop}{fn:Func}(L:P.funcs[f]?=N fn)
  (h:i.wpIn (Fence.wide.inRound l) n P (Exit.then (fun j p=>∃b,(Instr.beginRound l).run P p= .ok () b/\d.wpIn (Fence.wide.inRound l) n P (ae2 B b (Z b) Pn) j b/\(∀a,U B b a->Z b a->∃v m,(Instr.endRound l V).run P a= .ok v m/\R (.returned v) m)/\(∀q a,U B b a->Pn q a->R (.panicked q) a)) (fun _ _ _=>False)) {tmps:=tmps,defers:=[]} w):
  RoundIn T n P l f tmps i d w R:=by
 refine⟨trivial,fun e g ak=>?_⟩;let c:Frame:={(default:Frame) with fn:=f,kind:= .normal,roundOf:=N l};have G:Frame.round l f tmps i d .normal=c.atR {tmps:=tmps,defers:=[]} [.code i,.beginRound,.code d]:=by
  simp[Frame.round,Frame.atR,c]
 have x:(Fence.wide.inRound l).room ((e::g).length+1+n):=ak;have s:(Fence.wide.inRound l).fn c.fn:=trivial;obtain⟨z,j,p,u,o⟩:=h c [.beginRound,.code d] (e::g) rfl s x;rw[<-G]at o;cases z with
 |normal=>
  obtain⟨b,I,H,F,C⟩:=u;have y:StepsIn (Machine.fenced P (Fence.wide.inRound l)) P (lone (c.atR j [.beginRound,.code d]) (e::g) p) (lone (c.atR j [.code d]) (e::g) b):=
   .one (fw _ _) (stepR_beginRound rfl I)
  obtain⟨A,am,a,k,t⟩:=H c [] (e::g) rfl s x;cases A with
  |normal=>
   obtain⟨v,m,K,E⟩:=F a k.1 k.2;exact⟨.returned v,m,E,(pq o y).trans (pq t (.one (fw _ _) (stepR_round_end rfl rfl K)))⟩
  |panic r=>
   obtain⟨J,ad,af⟩:=k;obtain⟨an,al⟩:=t;refine⟨.panicked r,a,C r a ad af,(pq o y).trans (pq al (.one (fw _ _) (step_leave_panicked ⟨rfl,J,fn,L⟩)))⟩
  |_=>exact k.elim
 |_=>exact u.elim
theorem ahC{P:O}{α:Type}{n m:Nat}{av:Func}(bl:P.funcs[m]?=N av){g:Operand}{ps:Array Tmp}{assign body:Code}{Q:Exit->Act->M->Prop}{a:Act}{w:M}{gf:Nat}{bd:Array X}
  (bn:a.eval g= .func (.func gf) bd #[]) (ar:∀args w,(callFunc gf args).run P w= .ok (.enter gf args) w) (z:α->Array X) (bE:∀x,(z x).size=ps.size)
  (H Z:α->M->Prop) (y:α->Act->M->Prop) (D:M->Prop) (Pn:List PanicEntry->M->Prop)
  (b7:∀x W r o,Z x W->W.heap[w.heap.size+1]?=N (.loop r)->Z x (W.putObj (w.heap.size+1) o))
  (b5:∀x f W r o,y x f W->W.heap[w.heap.size+1]?=N (.loop r)->y x f (W.putObj (w.heap.size+1) o)) (b6:∀W r o,D W->W.heap[w.heap.size+1]?=N (.loop r)->D (W.putObj (w.heap.size+1) o))
  (a5:∀(l:Nat) x W (K:Act->M->Prop),H x W->(∀f c,y x f c->U w.heap.size W c->K f c)->
   assign.wpIn (Fence.wide.inRound l) (n-1-1) P (Exit.then K (fun _ _ _=>False)) {tmps:=(ps.zip (z x)).foldl (fun t (p,v)=>t.setIfInBounds p v) a.tmps,defers:=[]} W)
  (a7:∀(l:Nat) x f W,y x f W->body.wpIn (Fence.wide.inRound l) (n-1-1) P (ae2 w.heap.size W (Z x) Pn) f W)
  (b3:∀(l:Nat)(j:M->Prop),(∀W c,U w.heap.size W c->j W->j c)->
   (∀x W,H x W->j W->YieldAt T (n-1-1) P l (z x) W fun e c=>(e= .returned (.bool true)/\Z x c/\j c)\/(∃d,e= .panicked d/\Pn d c/\c.heap[w.heap.size]?=N (.deferred (N []))))->
   ∀W,j W->Below w.heap.size w W->W.heap.size=w.heap.size+2->CallsIn T (n-1) P gf (bd++#[.func (.yield l) #[] #[]]) W fun e c=>((∃v,e= .returned v)/\D c/\j c)\/(∃d,e= .panicked d/\Pn d c/\c.heap[w.heap.size]?=N (.deferred (N []))))
  (bk:∀W,D W->W.heap[w.heap.size]?=N (.deferred (N []))->Q .normal {a with defers:={target:= .collected w.heap.size,args:=#[]}::a.defers} W)
  (bD:∀d W,Pn d W->W.heap[w.heap.size]?=N (.deferred (N []))->Q (.panic d) {a with defers:={target:= .collected w.heap.size,args:=#[]}::a.defers} W):
  KD m P (Code.rangeFunc g ps assign body) Q a w:=by
 intro b k cs b1 A;obtain⟨rc,i⟩:∃rc:LoopState->Loop,rc=fun b8=>{state:=b8,pending:=V,fn:=m,tmps:=a.tmps,params:=ps,assign,body,defers:=w.heap.size}:=⟨_,rfl⟩;have E:=run_enterLoop_outer (P:=P) (w:=w) m a.tmps ps assign body;rw[show({state:= .ready,pending:=V,fn:=m,tmps:=a.tmps,params:=ps,assign,body,defers:=w.heap.size}:Loop)=rc .ready by rw[i]]at E;obtain⟨h,q⟩:=ay ((w.alloc (.deferred (N []))).alloc (.loop (rc .ready)));rw[q]at E;have br:h.heap[w.heap.size+1]?=N (.loop (rc .ready)):=by
  rw[<-q];have:=World.alloc_heap_new (w.alloc (.deferred (N []))) (.loop (rc .ready));rwa [aF]at this
 have a9:h.heap[w.heap.size]?=N (.deferred (N [])):=by
  rw[<-q];exact(bm _ _ _ (by simp)).trans (World.alloc_heap_new w _)
 have a6:Below w.heap.size w h:=by rw[<-q];exact((ag _ w).alloc (ae _) _).alloc (by simp) _
 have b2:h.heap.size=w.heap.size+2:=by rw[<-q];simp
 have a8:=b3 (w.heap.size+1) (fun W=>W.heap[w.heap.size+1]?=N (.loop (rc .ready))/\W.heap[w.heap.size]?=N (.deferred (N [])))
   (fun W c ad A=>⟨ad.same _ _ (by omega) A.1 rfl,ad.same _ _ (ae _) A.2 rfl⟩) (by
  rintro x W a0 ⟨u,s⟩;have am:=run_yield (P:=P) (args:=z x) u (by rw[i];exact bE x);rw[i]at am;refine⟨m,_,assign,body,am,ae3 (B:=w.heap.size) (Z:=fun _=>Z x) (Pn:=Pn) bl (a5 _ x W _ a0 fun f c a1 af=>?_)⟩;have F:=af.same _ _ (by omega) u rfl;have bb:=af.same _ _ (ae _) s rfl;have bt:w.heap.size+1<c.heap.size:=(Array.getElem?_eq_some_iff.1 F).1;have bs:(c.putObj (w.heap.size+1) (.loop {rc .ready with state:= .busy})).heap[w.heap.size+1]?=N (.loop {rc .ready with state:= .busy}):=World.putObj_heap_same bt;have I:(c.putObj (w.heap.size+1) (.loop {rc .ready with state:= .busy})).heap[w.heap.size]?=N (.deferred (N [])):=(S (by omega)).trans bb;refine⟨_,run_beginRound F (by rw[i]),a7 _ x f _ (b5 _ _ _ _ _ a1 F),fun ap C b4=>?_,fun d ap C bA=>?_⟩
  ·have G:=C.same _ _ (by omega) bs rfl;have bh:=C.same _ _ (ae _) I rfl;have bw:=(Array.getElem?_eq_some_iff.1 G).1;refine⟨_,_,run_endRound (P:=P) V G,.inl ⟨rfl,b7 _ _ _ _ b4 G,?_,(S (by omega)).trans bh⟩⟩;rw[World.putObj_heap_same bw];simp[i]
  ·exact .inr ⟨d,rfl,bA,C.same _ _ (ae _) I rfl⟩) h ⟨br,a9⟩ a6 b2
 have b0:(resolve a.eval (rangeCall g (w.heap.size+1)) 0).run P h= .ok {target:= .fn (.func gf) #[],args:=bd++#[.func (.yield (w.heap.size+1)) #[] #[]]} h:=by simp only[resolve,bn];simp[go_sem]
 have bo:(invoke (.fn (.func gf) #[]) (bd++#[.func (.yield (w.heap.size+1)) #[] #[]])).run P h= .ok (.enter gf (bd++#[.func (.yield (w.heap.size+1)) #[] #[]])) h:=by simp[invoke,go_sem,ar]
 have L:=stepR_rangeFunc (P:=P) (b:=b) (a:=a) (k:=k) (cs:=cs) (w:=w) (g:=g) (by rw[b1,A];exact E) b0 bo;obtain⟨e,an,b9,a4,al,ca,ak⟩:=a8.2 (b.atR {a with defers:=[{target:= .collected w.heap.size,args:=#[]}]++a.defers} (.inRangeFunc (w.heap.size+1)::k)::cs) (room_wide _);rcases a4 with⟨⟨v,rfl⟩,a2,u,s⟩|⟨d,rfl,bx,s⟩
 ·have J:=run_endLoop (P:=P) u (by rw[i];simp);obtain⟨ao,a3⟩:=ay (Obj.loop {rc .ready with state:= .exhausted});rw[a3,show(rc .ready).pending=V by rw[i]]at J;refine⟨.normal,_,_,bk _ (b6 _ _ ao a2 u) ((S (by omega)).trans s),?_⟩;refine .head (fw _ _) L (pq al (.head (fw _ _) ?_ (.one (fw _ _) (stepR_endRangeFunc (jump:=V) J))));rw[<-finish_atR_inRangeFunc (w.heap.size+1) v];exact step_leave_returned ak
 ·refine⟨.panic d,_,an,bD d an bx s,.inRangeFunc (w.heap.size+1)::k,.head (fw _ _) L (pq al (.one (fw _ _) ?_))⟩;rw[<-Frame.raise_atR];exact step_leave_panicked ak
