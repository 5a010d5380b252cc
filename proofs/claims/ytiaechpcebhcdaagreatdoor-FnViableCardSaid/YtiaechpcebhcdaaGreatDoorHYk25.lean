import Derived.Test.YtiaechpcebhcdaaGreatDoorHYk06
set_option linter.all false
open Go renaming World->M,Program->S,KeepsFrom->X,Value->Ax
open Option renaming some->N,none->Y
open Go.World renaming putObj_heap_other->T
open Go.Fence renaming wide->V
namespace Go.Proofs.YtiaechpcebhcdaaGreatDoor
open Go.RowKit
variable{Q:Exit->Act->World->Prop}{R:Ending->World->Prop}{a:Act}{c:Code}{f0:FuncId}{n:Nat}{w:World}
def wpV(i:FuncId)(P:S)(c:Code)(Q:Exit->Act->M->Prop)(a:Act)(w:M):Prop:=
 ∀(b:Frame)(g:List Item)(e:List Frame),b.roundOf=Y->b.fn=i->
  ∃f d h,Q f d h/\ArrivesIn (Machine.fenced P V) P (lone (b.atR a (.code c::g)) e w) b g e f d h
def tA{P:S}(h:c.wp P Q a w):wpV f0 P c Q a w:=
 λb f d e _=>(rm (n:=0)).2 h b f d e trivial (room_wide _)
def fw(P:S)(m:Machine):m.fenced P V:=fenced_wide P m
def amq{P:S}{x b:Code}(h:wpV f0 P x (Exit.then (wpV f0 P b Q) Q) a w):wpV f0 P (Code.seq x b) Q a w:=by
 intro i k j m l;have c:=fw P (lone (i.atR a (.code (.seq x b)::k)) j w);have⟨o,f,g,e,d⟩:=h i (.code b::k) j m l;cases o with
 |normal=>
  have⟨p,n,s,r,q⟩:=e i k j m l;exact⟨p,n,s,r,.of_steps (.head c xj d) q⟩
 |exit id=>exact⟨_,f,g,e,.of_steps (.one c xj) (.pass (x:= .code b) rfl (λ_ _=> .inl I) d)⟩
 |goto u=>exact⟨_,f,g,e,.of_steps (.one c xj) (.pass (x:= .code b) rfl (λ_ _=> .inl I) d)⟩
 |ret=>exact⟨_,f,g,e,.of_steps (.one c xj) (.pass (x:= .code b) rfl (λ_ _=> .inl I) d)⟩
 |panic t=>exact⟨_,f,g,e,.of_steps (.one c xj) (.pass (x:= .code b) rfl (λ_ _=> .inl I) d)⟩
 |outgrown=>exact⟨_,f,g,e,.of_steps (.one c xj) (.pass (x:= .code b) rfl (λ_ _=> .inl I) d)⟩
def tB{P:S}{x b:Code}(h:∀K:Act->M->Prop,(∀a w,wpV f0 P b Q a w->K a w)->wpV f0 P x (Exit.then K Q) a w):wpV f0 P (Code.seq x b) Q a w:=amq (h _ λ_ _ h=>h)
def agi{P:S}{id:Nat}(hn:∀e a w,Q e a w->(e= .normal\/∃g,e= .panic g))(h:wpV f0 P c Q a w):wpV f0 P (Code.block id c) Q a w:=by
 intro f l i o n;have j:=fw P (lone (f.atR a (.code (.block id c)::l)) i w);have⟨e,d,m,b,k⟩:=h f (.inBlock id::l) i o n;rcases hn _ _ _ b with rfl|⟨g,rfl⟩
 .exact⟨.normal,d,m,b,.head j stepR_block (rj k (.one (fw _ _) stepR_inBlock))⟩
 .exact⟨_,d,m,b,.of_steps (.one j stepR_block) k⟩
def aiL(K:Act->M->Prop)(Z1:List PanicEntry->Act->M->Prop):Exit->Act->M->Prop
 | .normal,a,w=>K a w
 | .panic b,a,w=>Z1 b a w
 |_,_,_=>False
def ai0{P:S}{b:Exit->Act->M->Prop}(j:∀e a w,Q e a w->b e a w)(h:wpV f0 P c Q a w):wpV f0 P c b a w:=
 λf l g k i=>let ⟨e,d,o,m,n⟩:=h f l g k i;⟨e,d,o,j _ _ _ m,n⟩
theorem aap{P:S}{id:Nat}{K:Act->M->Prop}(h:wpV f0 P c (aiL K (λb a w=>Q (.panic b) a w)) a w):wpV f0 P (Code.block id c) (Exit.then K Q) a w:=
 ai0 (λd a w h=>by cases d<;>first|exact h|exact h.elim) (agi (Q:=aiL K (λb a w=>Q (.panic b) a w)) (λd a w h=>by
  cases d
  .grind
  all_goals first|exact .inr ⟨_,rfl⟩|exact h.elim) h)
def apx(D:List Deferred)(Z1:List PanicEntry->M->Prop):Exit->Act->M->Prop
 | .panic b,a,w=>a.defers=D/\Z1 b w
 |_,_,_=>False
def Jv{P:S}{f:FuncId}{fn:Func}{args:Array Ax}(q:P.funcs[f]?=N fn)(y:fn.body=N c)
  (h:wpV f P c (bodyPostM V n P fn R) {tmps:=args++Array.replicate (fn.ntmps-args.size) undef,defers:=[]} w):Calls P f args w R:=by
 refine(na (n:=n)).1 ⟨trivial,λp s=>?_⟩;let a:Frame:={(default:Frame) with fn:=f,kind:= .normal,roundOf:=Y};have z:Frame.enter P f args .normal=a.atR {tmps:=args++Array.replicate (fn.ntmps-args.size) undef,defers:=[]} [.code c]:=by
  simp[Frame.enter,Frame.atR,q,y,a]
 have⟨x,b,r,d,j⟩:=h a [] p rfl rfl;rw[<-z]at j;cases x with
 |normal=>
  have⟨e,o,g,i,m,k,l⟩:=leaves_stepsInM b.defers .returning r {a.atR b [] with mode:= .returning} p rfl rfl rfl q rfl trivial s d;exact⟨e,o,g,i,Io (rj j (.one (fw _ _) (stepR_end rfl))) m,k,l⟩
 |ret=>
  have⟨u,t⟩:=j.1 rfl;have⟨e,o,g,i,m,k,l⟩:=leaves_stepsInM b.defers .returning r {a.atR b u with mode:= .returning} p rfl rfl rfl q rfl trivial s d;exact⟨e,o,g,i,Io t m,k,l⟩
 |panic v=>
  obtain⟨u,t⟩:=j;have⟨e,o,g,i,m,k,l⟩:=leaves_stepsInM b.defers (.panicking v) r {a.atR b u with mode:= .panicking v} p rfl rfl rfl q rfl trivial s d;exact⟨e,o,g,i,Io t m,k,l⟩
 |exit id=>exact d.elim
 |goto A=>exact d.elim
 |outgrown=>exact⟨.outgrown,r,a,d,j.resolve_left (by simp[a]),rfl,trivial⟩
def ai1(B:Nat)(W:M)(R:M->Prop)(Pn:List PanicEntry->M->Prop):Exit->Act->M->Prop
 | .normal,_,b=>X B W b/\R b
 | .panic c,a,b=>a.defers=[]/\X B W b/\Pn c b
 |_,_,_=>False
def ai2{P:S}{l:Nat}{f:FuncId}{tmps:Array Ax}{e c:Code}{B:Nat}{Z1:M->M->Prop}{Pn:List PanicEntry->M->Prop}{fn:Func}(af:P.funcs[f]?=N fn)
  (h:e.wpIn (Fence.wide.inRound l) n P (Exit.then (λg p=>∃b,(Instr.beginRound l).run P p= .ok () b/\c.wpIn (Fence.wide.inRound l) n P (ai1 B b (Z1 b) Pn) g b/\(∀a,X B b a->Z1 b a->∃v m,(Instr.endRound l Y).run P a= .ok v m/\R (.returned v) m)/\(∀q a,X B b a->Pn q a->R (.panicked q) a)) (λ_ _ _=>False)) {tmps:=tmps,defers:=[]} w):
  RoundIn V n P l f tmps e c w R:=by
 refine⟨trivial,λi j al=>?_⟩;let d:Frame:={(default:Frame) with fn:=f,kind:= .normal,roundOf:=N l};have G:Frame.round l f tmps e c .normal=d.atR {tmps:=tmps,defers:=[]} [.code e,.beginRound,.code c]:=by
  rfl
 have x:=al;have s:=trivial;have⟨z,g,p,u,o⟩:=h d [.beginRound,.code c] (i::j) rfl s x;rw[<-G]at o;cases z with
 |normal=>
  obtain⟨b,K,H,F,C⟩:=u;have y:StepsIn (Machine.fenced P (Fence.wide.inRound l)) P (lone (d.atR g [.beginRound,.code c]) (i::j) p) (lone (d.atR g [.code c]) (i::j) b):=
   .one (fw _ _) (stepR_beginRound rfl K)
  have⟨A,an,a,k,t⟩:=H d [] (i::j) rfl s x;cases A with
  |normal=>
   have⟨v,m,ad,E⟩:=F a k.1 k.2;exact⟨.returned v,m,E,(rj o y).trans (rj t (.one (fw _ _) (stepR_round_end rfl rfl ad)))⟩
  |panic r=>
   obtain⟨L,ag,ak⟩:=k;obtain⟨ao,am⟩:=t;refine⟨.panicked r,a,C r a ag ak,(rj o y).trans (rj am (.one (fw _ _) (step_leave_panicked ⟨rfl,L,fn,af⟩)))⟩
  |_=>exact k.elim
 |_=>exact u.elim
theorem amr{P:S}{α:Type}{j:Nat}{aL:Func}(ba:P.funcs[j]?=N aL){g:Operand}{ps:Array Tmp}{assign body:Code}{gf:Nat}{bd:Array Ax}
  (bb:a.eval g= .func (.func gf) bd #[]) (av:∀args w,(callFunc gf args).run P w= .ok (.enter gf args) w) (y:α->Array Ax) (bE:∀x,(y x).size=ps.size)
  (G Z1:α->M->Prop) (u:α->Act->M->Prop) (D:M->Prop) (Pn:List PanicEntry->M->Prop)
  (bw:∀x W r o,Z1 x W->W.heap[w.heap.size+1]?=N (.loop r)->Z1 x (W.putObj (w.heap.size+1) o))
  (bt:∀x f W r o,u x f W->W.heap[w.heap.size+1]?=N (.loop r)->u x f (W.putObj (w.heap.size+1) o)) (bv:∀W r o,D W->W.heap[w.heap.size+1]?=N (.loop r)->D (W.putObj (w.heap.size+1) o))
  (a5:∀(l:Nat) x W (K:Act->M->Prop),G x W->(∀f c,u x f c->X w.heap.size W c->K f c)->
   assign.wpIn (Fence.wide.inRound l) (n-1-1) P (Exit.then K (λ_ _ _=>False)) {tmps:=(ps.zip (y x)).foldl (λt (p,v)=>t.setIfInBounds p v) a.tmps,defers:=[]} W)
  (a6:∀(l:Nat) x f W,u x f W->body.wpIn (Fence.wide.inRound l) (n-1-1) P (ai1 w.heap.size W (Z1 x) Pn) f W)
  (br:∀(l:Nat)(i:M->Prop),(∀W c,X w.heap.size W c->i W->i c)->
   (∀x W,G x W->i W->YieldAt V (n-1-1) P l (y x) W λe c=>(e= .returned (.bool true)/\Z1 x c/\i c)\/(∃d,e= .panicked d/\Pn d c/\c.heap[w.heap.size]?=N (.deferred (N []))))->
   ∀W,i W->Below w.heap.size w W->W.heap.size=w.heap.size+2->CallsIn V (n-1) P gf (bd++#[.func (.yield l) #[] #[]]) W λe c=>((∃v,e= .returned v)/\D c/\i c)\/(∃d,e= .panicked d/\Pn d c/\c.heap[w.heap.size]?=N (.deferred (N []))))
  (a9:∀W,D W->W.heap[w.heap.size]?=N (.deferred (N []))->Q .normal {a with defers:={target:= .collected w.heap.size,args:=#[]}::a.defers} W)
  (bn:∀d W,Pn d W->W.heap[w.heap.size]?=N (.deferred (N []))->Q (.panic d) {a with defers:={target:= .collected w.heap.size,args:=#[]}::a.defers} W):
  wpV j P (Code.rangeFunc g ps assign body) Q a w:=by
 intro b k cs bp z;obtain⟨rc,C⟩:∃rc:LoopState->Loop,rc=λbx=>{state:=bx,pending:=Y,fn:=j,tmps:=a.tmps,params:=ps,assign,body,defers:=w.heap.size}:=⟨_,rfl⟩;have af:=run_enterLoop_outer (P:=P) (w:=w) j a.tmps ps assign body;rw[show({state:= .ready,pending:=Y,fn:=j,tmps:=a.tmps,params:=ps,assign,body,defers:=w.heap.size}:Loop)=rc .ready by rw[C]]at af;have⟨h,m⟩:=aw ((w.alloc (.deferred (N []))).alloc (.loop (rc .ready)));rw[m]at af;have bf:h.heap[w.heap.size+1]?=N (.loop (rc .ready)):=by
  rw[<-m];have:=World.alloc_heap_new (w.alloc (.deferred (N []))) (.loop (rc .ready));simp_all
 have a8:h.heap[w.heap.size]?=N (.deferred (N [])):=by
  rw[<-m];exact(dG _ _ _ I).trans (World.alloc_heap_new w _)
 have a7:=br (w.heap.size+1) (λW=>W.heap[w.heap.size+1]?=N (.loop (rc .ready))/\W.heap[w.heap.size]?=N (.deferred (N [])))
   (λW c ag z=>⟨ag.same _ _ O z.1 rfl,ag.same _ _ cJ z.2 rfl⟩) (by
  rintro x W a0 ⟨s,q⟩;have an:=run_yield (P:=P) (args:=y x) s U;rw[C]at an;refine⟨j,_,assign,body,an,ai2 (B:=w.heap.size) (Z1:=λ_=>Z1 x) (Pn:=Pn) ba (a5 _ x W _ a0 λf c a1 ak=>?_)⟩;have E:=ak.same _ _ O s rfl;have bh:w.heap.size+1<c.heap.size:=(Array.getElem?_eq_some_iff.1 E).1;have bg:(c.putObj (w.heap.size+1) (.loop {rc .ready with state:= .busy})).heap[w.heap.size+1]?=N (.loop {rc .ready with state:= .busy}):=World.putObj_heap_same bh;have H:(c.putObj (w.heap.size+1) (.loop {rc .ready with state:= .busy})).heap[w.heap.size]?=N (.deferred (N [])):=(T O).trans (ak.same _ _ cJ q rfl);refine⟨_,run_beginRound E (by rw[C]),a6 _ x f _ (bt _ _ _ _ _ a1 E),λar A bs=>?_,λd ar A bl=>?_⟩
  .have F:=A.same _ _ O bg rfl;have bj:=(Array.getElem?_eq_some_iff.1 F).1;refine⟨_,_,run_endRound (P:=P) Y F,.inl ⟨rfl,bw _ _ _ _ bs F,?_,(T O).trans (A.same _ _ cJ H rfl)⟩⟩;rw[World.putObj_heap_same bj];grind
  .exact .inr ⟨d,rfl,bl,A.same _ _ cJ H rfl⟩) h ⟨bf,a8⟩ (by rw[<-m];exact((ai _ w).alloc cJ _).alloc I _) (by rw[<-m];simp)
 have bo:(resolve a.eval (rangeCall g (w.heap.size+1)) 0).run P h= .ok {target:= .fn (.func gf) #[],args:=bd++#[.func (.yield (w.heap.size+1)) #[] #[]]} h:=by simp only[resolve,bb];simp[go_sem]
 have bc:(invoke (.fn (.func gf) #[]) (bd++#[.func (.yield (w.heap.size+1)) #[] #[]])).run P h= .ok (.enter gf (bd++#[.func (.yield (w.heap.size+1)) #[] #[]])) h:=by simp[invoke,go_sem,av]
 have ad:=stepR_rangeFunc (P:=P) (b:=b) (a:=a) (k:=k) (cs:=cs) (w:=w) (g:=g) (by rw[bp,z];omega) bo bc;obtain⟨e,ao,bA,a4,am,bD,al⟩:=a7.2 (b.atR {a with defers:=[{target:= .collected w.heap.size,args:=#[]}]++a.defers} (.inRangeFunc (w.heap.size+1)::k)::cs) (room_wide _);rcases a4 with⟨⟨v,rfl⟩,a2,s,q⟩|⟨d,rfl,bk,q⟩
 .have L:=run_endLoop (P:=P) s U;have⟨ap,a3⟩:=aw (Obj.loop {rc .ready with state:= .exhausted});rw[a3,show(rc .ready).pending=Y by rw[C]]at L;refine⟨.normal,_,_,a9 _ (bv _ _ ap a2 s) ((T O).trans q),?_⟩;refine .head (fw _ _) ad (rj am (.head (fw _ _) ?_ (.one (fw _ _) (stepR_endRangeFunc (jump:=Y) L))));rw[<-finish_atR_inRangeFunc (w.heap.size+1) v];exact step_leave_returned al
 .refine⟨.panic d,_,ao,bn d ao bk q,.inRangeFunc (w.heap.size+1)::k,.head (fw _ _) ad (rj am (.one (fw _ _) ?_))⟩;rw[<-Frame.raise_atR];exact step_leave_panicked al
