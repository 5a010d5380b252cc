import Derived.Test.YtjeamjdieofoeaaGreatDoorHZk08
set_option linter.all false
open Go renaming World->M,Program->O,KeepsFrom->U,Value->X
open Option renaming some->N,none->V
open Go.World renaming putObj_heap_other->S
open Go.Fence renaming wide->T
namespace Go.Proofs.YtjeamjdieofoeaaGreatDoor
open Go.RowKit
variable{Q:Exit->Act->World->Prop}{R:Ending->World->Prop}{a:Act}{c:Code}{f0:FuncId}{n:Nat}{w:World}
def LG(i:FuncId)(P:O)(c:Code)(Q:Exit->Act->M->Prop)(a:Act)(w:M):Prop:=
 ∀(b:Frame)(g:List Item)(e:List Frame),b.roundOf=V->b.fn=i->
  ∃f d h,Q f d h/\ArrivesIn (Machine.fenced P T) P (lone (b.atR a (.code c::g)) e w) b g e f d h
theorem rp{P:O}(h:c.wp P Q a w):LG f0 P c Q a w:=
 fun b f d e _=>(qc (n:=0)).2 h b f d e trivial (room_wide _)
theorem fw(P:O)(m:Machine):m.fenced P T:=fenced_wide P m
theorem aiI{P:O}{x b:Code}(h:LG f0 P x (Exit.then (LG f0 P b Q) Q) a w):LG f0 P (Code.seq x b) Q a w:=by
 intro i k j m l;have c:=fw P (lone (i.atR a (.code (.seq x b)::k)) j w);obtain⟨o,f,g,e,d⟩:=h i (.code b::k) j m l;cases o with
 |normal=>
  obtain⟨p,n,s,r,q⟩:=e i k j m l;exact⟨p,n,s,r,.of_steps (.head c uE d) q⟩
 |exit id=>exact⟨_,f,g,e,.of_steps (.one c uE) (.pass (x:= .code b) rfl (fun _ _=> .inl (by simp)) d)⟩
 |goto u=>exact⟨_,f,g,e,.of_steps (.one c uE) (.pass (x:= .code b) rfl (fun _ _=> .inl (by simp)) d)⟩
 |ret=>exact⟨_,f,g,e,.of_steps (.one c uE) (.pass (x:= .code b) rfl (fun _ _=> .inl (by simp)) d)⟩
 |panic t=>exact⟨_,f,g,e,.of_steps (.one c uE) (.pass (x:= .code b) rfl (fun _ _=> .inl (by simp)) d)⟩
 |outgrown=>exact⟨_,f,g,e,.of_steps (.one c uE) (.pass (x:= .code b) rfl (fun _ _=> .inl (by simp)) d)⟩
theorem rq{P:O}{x b:Code}(h:∀K:Act->M->Prop,(∀a w,LG f0 P b Q a w->K a w)->LG f0 P x (Exit.then K Q) a w):LG f0 P (Code.seq x b) Q a w:=aiI (h _ fun _ _ h=>h)
theorem adl{P:O}{id:Nat}(o:∀e a w,Q e a w->(e= .normal\/∃g,e= .panic g))(h:LG f0 P c Q a w):LG f0 P (Code.block id c) Q a w:=by
 intro f l i p n;have j:=fw P (lone (f.atR a (.code (.block id c)::l)) i w);obtain⟨e,d,m,b,k⟩:=h f (.inBlock id::l) i p n;rcases o _ _ _ b with rfl|⟨g,rfl⟩
 ·exact⟨.normal,d,m,b,.head j stepR_block (pL k (.one (fw _ _) stepR_inBlock))⟩
 ·exact⟨_,d,m,b,.of_steps (.one j stepR_block) k⟩
def afp(K:Act->M->Prop)(Z:List PanicEntry->Act->M->Prop):Exit->Act->M->Prop
 | .normal,a,w=>K a w
 | .panic b,a,w=>Z b a w
 |_,_,_=>False
theorem afq{P:O}{b:Exit->Act->M->Prop}(j:∀e a w,Q e a w->b e a w)(h:LG f0 P c Q a w):LG f0 P c b a w:=
 fun f l g k i=>let ⟨e,d,o,m,n⟩:=h f l g k i;⟨e,d,o,j _ _ _ m,n⟩
theorem Jt{P:O}{id:Nat}{K:Act->M->Prop}(h:LG f0 P c (afp K (fun b a w=>Q (.panic b) a w)) a w):LG f0 P (Code.block id c) (Exit.then K Q) a w:=
 afq (fun d a w h=>by cases d<;>first|exact h|exact h.elim) (adl (Q:=afp K (fun b a w=>Q (.panic b) a w)) (fun d a w h=>by
  cases d
  ·exact .inl rfl
  all_goals first|exact .inr ⟨_,rfl⟩|exact h.elim) h)
def alf(D:List Deferred)(Z:List PanicEntry->M->Prop):Exit->Act->M->Prop
 | .panic b,a,w=>a.defers=D/\Z b w
 |_,_,_=>False
theorem Gy{P:O}{f:FuncId}{fn:Func}{args:Array X}(q:P.funcs[f]?=N fn)(y:fn.body=N c)
  (h:LG f P c (bodyPostM T n P fn R) {tmps:=args++Array.replicate (fn.ntmps-args.size) undef,defers:=[]} w):Calls P f args w R:=by
 refine(lF (n:=n)).1 ⟨trivial,fun p s=>?_⟩;let a:Frame:={(default:Frame) with fn:=f,kind:= .normal,roundOf:=V};have z:Frame.enter P f args .normal=a.atR {tmps:=args++Array.replicate (fn.ntmps-args.size) undef,defers:=[]} [.code c]:=by
  simp[Frame.enter,Frame.atR,q,y,a]
 obtain⟨x,b,r,d,j⟩:=h a [] p rfl rfl;rw[<-z]at j;cases x with
 |normal=>
  obtain⟨e,o,g,i,m,k,l⟩:=leaves_stepsInM b.defers .returning r {a.atR b [] with mode:= .returning} p rfl rfl rfl q rfl trivial s d;exact⟨e,o,g,i,FD (pL j (.one (fw _ _) (stepR_end rfl))) m,k,l⟩
 |ret=>
  obtain⟨u,t⟩:=j.1 rfl;obtain⟨e,o,g,i,m,k,l⟩:=leaves_stepsInM b.defers .returning r {a.atR b u with mode:= .returning} p rfl rfl rfl q rfl trivial s d;exact⟨e,o,g,i,FD t m,k,l⟩
 |panic v=>
  obtain⟨u,t⟩:=j;obtain⟨e,o,g,i,m,k,l⟩:=leaves_stepsInM b.defers (.panicking v) r {a.atR b u with mode:= .panicking v} p rfl rfl rfl q rfl trivial s d;exact⟨e,o,g,i,FD t m,k,l⟩
 |exit id=>exact d.elim
 |goto A=>exact d.elim
 |outgrown=>exact⟨.outgrown,r,a,d,j.resolve_left (by simp[a]),rfl,trivial⟩
def afr(B:Nat)(W:M)(R:M->Prop)(Pn:List PanicEntry->M->Prop):Exit->Act->M->Prop
 | .normal,_,b=>U B W b/\R b
 | .panic c,a,b=>a.defers=[]/\U B W b/\Pn c b
 |_,_,_=>False
theorem afs{P:O}{l:Nat}{f:FuncId}{tmps:Array X}{e c:Code}{B:Nat}{Z:M->M->Prop}{Pn:List PanicEntry->M->Prop}{fn:Func}(L:P.funcs[f]?=N fn)
  (h:e.wpIn (Fence.wide.inRound l) n P (Exit.then (fun g p=>∃b,(Instr.beginRound l).run P p= .ok () b/\c.wpIn (Fence.wide.inRound l) n P (afr B b (Z b) Pn) g b/\(∀a,U B b a->Z b a->∃v m,(Instr.endRound l V).run P a= .ok v m/\R (.returned v) m)/\(∀q a,U B b a->Pn q a->R (.panicked q) a)) (fun _ _ _=>False)) {tmps:=tmps,defers:=[]} w):
  RoundIn T n P l f tmps e c w R:=by
 refine⟨trivial,fun i j ak=>?_⟩;let d:Frame:={(default:Frame) with fn:=f,kind:= .normal,roundOf:=N l};have G:Frame.round l f tmps e c .normal=d.atR {tmps:=tmps,defers:=[]} [.code e,.beginRound,.code c]:=by
  simp[Frame.round,Frame.atR,d]
 have x:=ak;have s:=trivial;obtain⟨z,g,p,u,o⟩:=h d [.beginRound,.code c] (i::j) rfl s x;rw[<-G]at o;cases z with
 |normal=>
  obtain⟨b,I,H,F,C⟩:=u;have y:StepsIn (Machine.fenced P (Fence.wide.inRound l)) P (lone (d.atR g [.beginRound,.code c]) (i::j) p) (lone (d.atR g [.code c]) (i::j) b):=
   .one (fw _ _) (stepR_beginRound rfl I)
  obtain⟨A,am,a,k,t⟩:=H d [] (i::j) rfl s x;cases A with
  |normal=>
   obtain⟨v,m,K,E⟩:=F a k.1 k.2;exact⟨.returned v,m,E,(pL o y).trans (pL t (.one (fw _ _) (stepR_round_end rfl rfl K)))⟩
  |panic r=>
   obtain⟨J,ad,af⟩:=k;obtain⟨an,al⟩:=t;refine⟨.panicked r,a,C r a ad af,(pL o y).trans (pL al (.one (fw _ _) (step_leave_panicked ⟨rfl,J,fn,L⟩)))⟩
  |_=>exact k.elim
 |_=>exact u.elim
theorem aiJ{P:O}{α:Type}{m:Nat}{av:Func}(bf:P.funcs[m]?=N av){g:Operand}{ps:Array Tmp}{assign body:Code}{gf:Nat}{bd:Array X}
  (bh:a.eval g= .func (.func gf) bd #[]) (ar:∀args w,(callFunc gf args).run P w= .ok (.enter gf args) w) (z:α->Array X) (bx:∀x,(z x).size=ps.size)
  (H Z:α->M->Prop) (y:α->Act->M->Prop) (D:M->Prop) (Pn:List PanicEntry->M->Prop)
  (b3:∀x W r o,Z x W->W.heap[w.heap.size+1]?=N (.loop r)->Z x (W.putObj (w.heap.size+1) o))
  (b1:∀x f W r o,y x f W->W.heap[w.heap.size+1]?=N (.loop r)->y x f (W.putObj (w.heap.size+1) o)) (b2:∀W r o,D W->W.heap[w.heap.size+1]?=N (.loop r)->D (W.putObj (w.heap.size+1) o))
  (a5:∀(l:Nat) x W (K:Act->M->Prop),H x W->(∀f c,y x f c->U w.heap.size W c->K f c)->
   assign.wpIn (Fence.wide.inRound l) (n-1-1) P (Exit.then K (fun _ _ _=>False)) {tmps:=(ps.zip (z x)).foldl (fun t (p,v)=>t.setIfInBounds p v) a.tmps,defers:=[]} W)
  (a7:∀(l:Nat) x f W,y x f W->body.wpIn (Fence.wide.inRound l) (n-1-1) P (afr w.heap.size W (Z x) Pn) f W)
  (bF:∀(l:Nat)(j:M->Prop),(∀W c,U w.heap.size W c->j W->j c)->
   (∀x W,H x W->j W->YieldAt T (n-1-1) P l (z x) W fun e c=>(e= .returned (.bool true)/\Z x c/\j c)\/(∃d,e= .panicked d/\Pn d c/\c.heap[w.heap.size]?=N (.deferred (N []))))->
   ∀W,j W->Below w.heap.size w W->W.heap.size=w.heap.size+2->CallsIn T (n-1) P gf (bd++#[.func (.yield l) #[] #[]]) W fun e c=>((∃v,e= .returned v)/\D c/\j c)\/(∃d,e= .panicked d/\Pn d c/\c.heap[w.heap.size]?=N (.deferred (N []))))
  (bc:∀W,D W->W.heap[w.heap.size]?=N (.deferred (N []))->Q .normal {a with defers:={target:= .collected w.heap.size,args:=#[]}::a.defers} W)
  (bw:∀d W,Pn d W->W.heap[w.heap.size]?=N (.deferred (N []))->Q (.panic d) {a with defers:={target:= .collected w.heap.size,args:=#[]}::a.defers} W):
  LG m P (Code.rangeFunc g ps assign body) Q a w:=by
 intro b k cs bD A;obtain⟨rc,i⟩:∃rc:LoopState->Loop,rc=fun b4=>{state:=b4,pending:=V,fn:=m,tmps:=a.tmps,params:=ps,assign,body,defers:=w.heap.size}:=⟨_,rfl⟩;have E:=run_enterLoop_outer (P:=P) (w:=w) m a.tmps ps assign body;rw[show({state:= .ready,pending:=V,fn:=m,tmps:=a.tmps,params:=ps,assign,body,defers:=w.heap.size}:Loop)=rc .ready by rw[i]]at E;obtain⟨h,q⟩:=az ((w.alloc (.deferred (N []))).alloc (.loop (rc .ready)));rw[q]at E;have bl:h.heap[w.heap.size+1]?=N (.loop (rc .ready)):=by
  rw[<-q];have:=World.alloc_heap_new (w.alloc (.deferred (N []))) (.loop (rc .ready));rwa [cD]at this
 have a9:h.heap[w.heap.size]?=N (.deferred (N [])):=by
  rw[<-q];exact(dg _ _ _ (by simp)).trans (World.alloc_heap_new w _)
 have a6:Below w.heap.size w h:=by rw[<-q];exact((ah _ w).alloc (ag _) _).alloc (by simp) _
 have bE:h.heap.size=w.heap.size+2:=by rw[<-q];simp
 have a8:=bF (w.heap.size+1) (fun W=>W.heap[w.heap.size+1]?=N (.loop (rc .ready))/\W.heap[w.heap.size]?=N (.deferred (N [])))
   (fun W c ad A=>⟨ad.same _ _ (by omega) A.1 rfl,ad.same _ _ (ag _) A.2 rfl⟩) (by
  rintro x W a0 ⟨u,s⟩;have am:=run_yield (P:=P) (args:=z x) u (by rw[i];exact bx x);rw[i]at am;refine⟨m,_,assign,body,am,afs (B:=w.heap.size) (Z:=fun _=>Z x) (Pn:=Pn) bf (a5 _ x W _ a0 fun f c a1 af=>?_)⟩;have F:=af.same _ _ (by omega) u rfl;have ba:=af.same _ _ (ag _) s rfl;have bo:w.heap.size+1<c.heap.size:=(Array.getElem?_eq_some_iff.1 F).1;have bn:(c.putObj (w.heap.size+1) (.loop {rc .ready with state:= .busy})).heap[w.heap.size+1]?=N (.loop {rc .ready with state:= .busy}):=World.putObj_heap_same bo;have I:(c.putObj (w.heap.size+1) (.loop {rc .ready with state:= .busy})).heap[w.heap.size]?=N (.deferred (N [])):=(S (by omega)).trans ba;refine⟨_,run_beginRound F (by rw[i]),a7 _ x f _ (b1 _ _ _ _ _ a1 F),fun ap C b0=>?_,fun d ap C bt=>?_⟩
  ·have G:=C.same _ _ (by omega) bn rfl;have bb:=C.same _ _ (ag _) I rfl;have br:=(Array.getElem?_eq_some_iff.1 G).1;refine⟨_,_,run_endRound (P:=P) V G,.inl ⟨rfl,b3 _ _ _ _ b0 G,?_,(S (by omega)).trans bb⟩⟩;rw[World.putObj_heap_same br];simp[i]
  ·exact .inr ⟨d,rfl,bt,C.same _ _ (ag _) I rfl⟩) h ⟨bl,a9⟩ a6 bE
 have bA:(resolve a.eval (rangeCall g (w.heap.size+1)) 0).run P h= .ok {target:= .fn (.func gf) #[],args:=bd++#[.func (.yield (w.heap.size+1)) #[] #[]]} h:=by simp only[resolve,bh];simp[go_sem]
 have bk:(invoke (.fn (.func gf) #[]) (bd++#[.func (.yield (w.heap.size+1)) #[] #[]])).run P h= .ok (.enter gf (bd++#[.func (.yield (w.heap.size+1)) #[] #[]])) h:=by simp[invoke,go_sem,ar]
 have L:=stepR_rangeFunc (P:=P) (b:=b) (a:=a) (k:=k) (cs:=cs) (w:=w) (g:=g) (by rw[bD,A];exact E) bA bk;obtain⟨e,an,b5,a4,al,b6,ak⟩:=a8.2 (b.atR {a with defers:=[{target:= .collected w.heap.size,args:=#[]}]++a.defers} (.inRangeFunc (w.heap.size+1)::k)::cs) (room_wide _);rcases a4 with⟨⟨v,rfl⟩,a2,u,s⟩|⟨d,rfl,bs,s⟩
 ·have J:=run_endLoop (P:=P) u (by rw[i];simp);obtain⟨ao,a3⟩:=az (Obj.loop {rc .ready with state:= .exhausted});rw[a3,show(rc .ready).pending=V by rw[i]]at J;refine⟨.normal,_,_,bc _ (b2 _ _ ao a2 u) ((S (by omega)).trans s),?_⟩;refine .head (fw _ _) L (pL al (.head (fw _ _) ?_ (.one (fw _ _) (stepR_endRangeFunc (jump:=V) J))));rw[<-finish_atR_inRangeFunc (w.heap.size+1) v];exact step_leave_returned ak
 ·refine⟨.panic d,_,an,bw d an bs s,.inRangeFunc (w.heap.size+1)::k,.head (fw _ _) L (pL al (.one (fw _ _) ?_))⟩;rw[<-Frame.raise_atR];exact step_leave_panicked ak
