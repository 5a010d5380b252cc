import Derived.Test.YthkcmkmkapijkaaGreatDoorh08
set_option linter.all false
open Go renaming World->M,Program->S,KeepsFrom->X
open Option renaming some->N,none->Y
open Go.World renaming putObj_heap_other->T
open Go.Fence renaming wide->V
namespace Go.Proofs.YthkcmkmkapijkaaGreatDoor
open Go.RowKit
variable{Q:Exit->Act->World->Prop}{a:Act}{c:Code}{f0:FuncId}{n:Nat}{w:World}
def wpV(i:FuncId)(P:S)(c:Code)(Q:Exit->Act->M->Prop)(a:Act)(w:M):Prop:=
 ∀(b:Frame)(g:List Item)(e:List Frame),b.roundOf=Y->b.fn=i->
  ∃f d h,Q f d h/\ArrivesIn (Machine.fenced P V) P (lone (b.atR a (.code c::g)) e w) b g e f d h
def vD{P}(h:c.wp P Q a w):wpV f0 P c Q a w:=
 λb f d e _=>(lH (n:=0)).2 h b f d e trivial (room_wide _)
def fw(P)(m:Machine):m.fenced P V:=fenced_wide P m
def arA{P x g}(h:wpV f0 P x (Exit.then (wpV f0 P g Q) Q) a w):wpV f0 P (Code.seq x g) Q a w:=by
 intro i k j m l;have b:=fw P<|lone (i.atR a (.code (.seq x g)::k)) j w;have⟨o,e,f,d,c⟩:=h i (.code g::k) j m l;cases o with
 |normal=>
  have⟨p,n,s,r,q⟩:=d i k j m l;exact⟨p,n,s,r,.of_steps (.head b zp c) q⟩|exit id=>exact⟨_,e,f,d,.of_steps (.one b zp)<|.pass R (λ_ _=> .inl I) c⟩|goto p=>exact⟨_,e,f,d,.of_steps (.one b zp)<|.pass R (λ_ _=> .inl I) c⟩|ret=>exact⟨_,e,f,d,.of_steps (.one b zp)<|.pass R (λ_ _=> .inl I) c⟩|panic n=>exact⟨_,e,f,d,.of_steps (.one b zp)<|.pass R (λ_ _=> .inl I) c⟩|outgrown=>exact⟨_,e,f,d,.of_steps (.one b zp)<|.pass R (λ_ _=> .inl I) c⟩
def vE{P x b}(h:∀K:Act->M->Prop,(∀a w,wpV f0 P b Q a w->K a w)->wpV f0 P x (Exit.then K Q) a w):wpV f0 P (Code.seq x b) Q a w:=arA<|h _ λ_ _ h=>h
def aj8{P id}(o:∀e a w,Q e a w->(e= .normal\/∃g,e= .panic g))(h:wpV f0 P c Q a w):wpV f0 P (Code.block id c) Q a w:=by
 intro f l i p n;have j:=fw P<|lone (f.atR a (.code (.block id c)::l)) i w;have⟨e,d,m,b,k⟩:=h f (.inBlock id::l) i p n;obtain rfl|⟨g,rfl⟩:=o _ _ _ b
 .exact⟨_,d,m,b,.head j stepR_block<|tw k<|.one (fw _ _) stepR_inBlock⟩
 .exact⟨_,d,m,b,.of_steps (.one j stepR_block) k⟩
def aom(K:Act->M->Prop)(Z1:List PanicEntry->Act->M->Prop):Exit->Act->M->Prop| .normal,a,w=>K a w| .panic b,a,w=>Z1 b a w|_,_,_=>False
def aon{P b}(j:∀e a w,Q e a w->b e a w)(h:wpV f0 P c Q a w):wpV f0 P c b a w:=
 λf l g k i=>let ⟨e,d,o,m,n⟩:=h f l g k i;⟨e,d,o,j _ _ _ m,n⟩
theorem ad3{P id K}(h:wpV f0 P c (aom K (λb a w=>Q (.panic b) a w)) a w):wpV f0 P (Code.block id c) (Exit.then K Q) a w:=
 aon (λd a w h=>by cases d<;>first|exact h|exact h.elim) (aj8 (Q:=aom K (λb a w=>Q (.panic b) a w)) (λd a w h=>by
  cases d
  .grind
  all_goals first|exact .inr ⟨_,R⟩|exact h.elim) h)
def avB(D:List Deferred)(Z1:List PanicEntry->M->Prop):Exit->Act->M->Prop| .panic b,a,w=>a.defers=D/\Z1 b w|_,_,_=>False
def abj{P f fn}{args:zAV}{R1}(p:P.funcs[f]?=N fn)(y:fn.body=N c)
  (h:wpV f P c (bodyPostM V n P fn R1) {tmps:=args++Array.replicate (fn.ntmps-args.size) undef,defers:=[]} w):Calls P f args w R1:=by
 refine(mC (n:=n)).1 ⟨trivial,λo s=>?_⟩;let a:Frame:={(default:Frame) with fn:=f,kind:= .normal,roundOf:=Y};have z:Frame.enter P f args .normal=a.atR {tmps:=args++Array.replicate (fn.ntmps-args.size) undef,defers:=[]} [.code c]:=by
  simp[Frame.enter,Frame.atR,p,y,a]
 have⟨x,r,q,b,i⟩:=h a [] o R R;rw[<-z]at i;cases x with
 |normal=>
  have⟨d,m,e,g,l,j,k⟩:=leaves_stepsInM _ _ q {a.atR r [] with mode:= .returning} o R R R p R trivial s b;exact⟨d,m,e,g,Lm (tw i<|.one (fw _ _)<|stepR_end R) l,j,k⟩
 |ret=>
  have⟨u,t⟩:=i.1 R;have⟨d,m,e,g,l,j,k⟩:=leaves_stepsInM _ _ q {a.atR r u with mode:= .returning} o R R R p R trivial s b;exact⟨d,m,e,g,Lm t l,j,k⟩
 |panic v=>
  obtain⟨u,t⟩:=i;have⟨d,m,e,g,l,j,k⟩:=leaves_stepsInM _ _ q {a.atR r u with mode:= .panicking v} o R R R p R trivial s b;exact⟨d,m,e,g,Lm t l,j,k⟩
 |exit id=>exact b.elim|goto d=>exact b.elim|outgrown=>exact⟨_,q,a,b,i.resolve_left (by simp[a]),R,trivial⟩
def aoo(B:Nat)(W:M)(R1:M->Prop)(Pn:List PanicEntry->M->Prop):Exit->Act->M->Prop| .normal,_,b=>X B W b/\R1 b| .panic c,a,b=>a.defers=[]/\X B W b/\Pn c b|_,_,_=>False
def aop{P l f}{tmps:zAV}{e c R1 B}{Z1:M->M->Prop}{Pn fn}(K:P.funcs[f]?=N fn)
  (h:e.wpIn (Fence.wide.inRound l) n P (Exit.then (λg p=>∃b,(Instr.beginRound l).run P p= .ok () b/\c.wpIn (Fence.wide.inRound l) n P (aoo B b (Z1 b) Pn) g b/\(∀a,X B b a->Z1 b a->∃v m,(Instr.endRound l Y).run P a= .ok v m/\R1 (.returned v) m)/\(∀d a,X B b a->Pn d a->R1 (.panicked d) a)) (λ_ _ _=>False)) {tmps:=tmps,defers:=[]} w):
  RoundIn V n P l f tmps e c w R1:=by
 refine⟨trivial,λi j ad=>?_⟩;let d:Frame:={(default:Frame) with fn:=f,kind:= .normal,roundOf:=N l};have E:Frame.round l f tmps e c .normal=d.atR {tmps:=tmps,defers:=[]} [.code e,.beginRound,.code c]:=by
  rfl
 have t:=ad;have q:=trivial;have⟨x,g,p,s,o⟩:=h d [.beginRound,.code c] (i::j) R q t;rw[<-E]at o;cases x with
 |normal=>
  obtain⟨b,G,F,C,z⟩:=s;have u:StepsIn (Machine.fenced P<|Fence.wide.inRound l) P (lone (d.atR g [.beginRound,.code c]) (i::j) p) (lone (d.atR g [.code c]) (i::j) b):=
   .one (fw _ _) (stepR_beginRound R G)
  have⟨y,_,a,k,r⟩:=F d [] (i::j) R q t;cases y with
  |normal=>
   have⟨v,m,H,A⟩:=C a k.1 k.2;exact⟨_,m,A,(tw o u).trans<|tw r<|.one (fw _ _)<|stepR_round_end R R H⟩|panic m=>
   obtain⟨A,H,L⟩:=k;obtain⟨_,af⟩:=r;refine⟨_,a,z m a H L,(tw o u).trans<|tw af<|.one (fw _ _)<|step_leave_panicked ⟨R,A,fn,K⟩⟩
  |_=>exact k.elim
 |_=>exact s.elim
theorem arB{P}{α:Type}{h:Nat}{af}(av:P.funcs[h]?=N af){g ps assign body}{gf:Nat}{bd:zAV}
  (ax:a.eval g= .func (.func gf) bd #[]) (ad:∀args w,(callFunc gf args).run P w= .ok (.enter gf args) w) (q:α->zAV) (m:∀x,(q x).size=ps.size)
  (j Z1:α->M->Prop) (i:α->Act->M->Prop) (D:M->Prop) (Pn)
  (bb:∀x W r o,Z1 x W->W.heap[w.heap.size+1]?=N (.loop r)->Z1 x (W.putObj (w.heap.size+1) o))
  (a9:∀x d W r o,i x d W->W.heap[w.heap.size+1]?=N (.loop r)->i x d (W.putObj (w.heap.size+1) o)) (ba:∀W r o,D W->W.heap[w.heap.size+1]?=N (.loop r)->D (W.putObj (w.heap.size+1) o))
  (am:∀(l) x W (K),j x W->(∀d b,i x d b->X w.heap.size W b->K d b)->
   assign.wpIn (Fence.wide.inRound l) (n-1-1) P (Exit.then K (λ_ _ _=>False)) {tmps:=(ps.zip<|q x).foldl (λt (p,v)=>t.setIfInBounds p v) a.tmps,defers:=[]} W)
  (an:∀(l) x d W,i x d W->body.wpIn (Fence.wide.inRound l) (n-1-1) P (aoo w.heap.size W (Z1 x) Pn) d W)
  (a7:∀(l)(f:M->Prop),(∀W b,X w.heap.size W b->f W->f b)->
   (∀x W,j x W->f W->YieldAt V (n-1-1) P l (q x) W λe b=>(e= .returned (.bool true)/\Z1 x b/\f b)\/(∃c,e= .panicked c/\Pn c b/\b.heap[w.heap.size]?=N (.deferred<|N [])))->
   ∀W,f W->Below w.heap.size w W->W.heap.size=w.heap.size+2->CallsIn V (n-1) P gf (bd++#[.func (.yield l) #[] #[]]) W λe b=>((∃v,e= .returned v)/\D b/\f b)\/(∃c,e= .panicked c/\Pn c b/\b.heap[w.heap.size]?=N (.deferred<|N [])))
  (ar:∀W,D W->W.heap[w.heap.size]?=N (.deferred<|N [])->Q .normal {a with defers:={target:= .collected w.heap.size,args:=#[]}::a.defers} W)
  (a5:∀c W,Pn c W->W.heap[w.heap.size]?=N (.deferred<|N [])->Q (.panic c) {a with defers:={target:= .collected w.heap.size,args:=#[]}::a.defers} W):
  wpV h P (Code.rangeFunc g ps assign body) Q a w:=by
 intro L k cs a6 s;obtain⟨rc,y⟩:∃rc:LoopState->Loop,rc=λbc=>{state:=bc,pending:=Y,fn:=h,tmps:=a.tmps,params:=ps,assign,body,defers:=w.heap.size}:=⟨_,R⟩;have E:=run_enterLoop_outer (P:=P) (w:=w) h a.tmps ps assign body;rw[show({state:= .ready,pending:=Y,fn:=h,tmps:=a.tmps,params:=ps,assign,body,defers:=w.heap.size}:Loop)=rc .ready by rw[y]]at E;have⟨f,i⟩:=aw<|(w.alloc<|.deferred<|N []).alloc<|.loop<|rc .ready;rw[i]at E;have a0:f.heap[w.heap.size+1]?=N (.loop<|rc .ready):=by
  rw[<-i];have:=World.alloc_heap_new (w.alloc<|.deferred<|N [])<|.loop<|rc .ready;simp_all
 have ap:f.heap[w.heap.size]?=N (.deferred<|N []):=by
  rw[<-i];exact(alO I).trans<|World.alloc_heap_new w _
 have ao:=a7 (w.heap.size+1) (λW=>W.heap[w.heap.size+1]?=N (.loop<|rc .ready)/\W.heap[w.heap.size]?=N (.deferred<|N []))
   (λW b j s=>⟨j.same _ _ O s.1 R,j.same _ _ eE s.2 R⟩) (by
  rintro x W ak ⟨m,j⟩;have G:=run_yield (P:=P) (args:=q x) m U;rw[y]at G;refine⟨h,_,assign,body,G,aop (B:=w.heap.size) (Z1:=λ_=>Z1 x) (Pn:=Pn) av<|am _ x W _ ak λd b al F=>?_⟩;have z:=F.same _ _ O m R;have a2:=(mE.1 z).1;have a1:(b.putObj (w.heap.size+1)<|.loop {rc .ready with state:= .busy}).heap[w.heap.size+1]?=N (.loop {rc .ready with state:= .busy}):=World.putObj_heap_same a2;have C:(b.putObj (w.heap.size+1)<|.loop {rc .ready with state:= .busy}).heap[w.heap.size]?=N (.deferred<|N []):=(T O).trans<|F.same _ _ O j R;refine⟨_,run_beginRound z (by rw[y]),an _ x d _<|a9 _ _ _ _ _ al z,λH u a8=>?_,λc H u a4=>?_⟩
  .have A:=u.same _ _ O a1 R;have a3:=(mE.1 A).1;refine⟨_,_,run_endRound Y A,.inl ⟨R,bb _ _ _ _ a8 A,?_,(T O).trans<|u.same _ _ O C R⟩⟩;rw[World.putObj_heap_same a3];grind
  .exact .inr ⟨c,R,a4,u.same _ _ O C R⟩) f ⟨a0,ap⟩ (by rw[<-i];exact((ay _ w).alloc O _).alloc I _) (by rw[<-i];simp)
 have al:(resolve a.eval (rangeCall g<|w.heap.size+1) 0).run P f= .ok {target:= .fn (.func gf) #[],args:=bd++#[.func (.yield<|w.heap.size+1) #[] #[]]} f:=by simp only[resolve,ax];simp[go_sem]
 have H:(invoke (.fn (.func gf) #[])<|bd++#[.func (.yield<|w.heap.size+1) #[] #[]]).run P f= .ok (.enter gf<|bd++#[.func (.yield<|w.heap.size+1) #[] #[]]) f:=by simp[go_sem,ad]
 have d:=stepR_rangeFunc (k:=k) (cs:=cs) (by rw[a6,s];omega) al H;obtain⟨e,z,_,G,u,_,q⟩:=ao.2 (L.atR {a with defers:=[{target:= .collected w.heap.size,args:=#[]}]++a.defers} (.inRangeFunc (w.heap.size+1)::k)::cs)<|room_wide _;obtain⟨⟨v,rfl⟩,C,m,j⟩|⟨c,rfl,ak,j⟩:=G
 .have b:=run_endLoop (P:=P) m U;have⟨A,F⟩:=aw<|Obj.loop {rc .ready with state:= .exhausted};rw[F,show(rc .ready).pending=Y by rw[y]]at b;refine⟨_,_,_,ar _ (ba _ _ A C m)<|(T O).trans j,?_⟩;refine .head (fw _ _) d<|tw u<|.head (fw _ _) ?_<|.one (fw _ _)<|stepR_endRangeFunc b;rw[<-finish_atR_inRangeFunc _ v];exact step_leave_returned q
 .refine⟨_,_,z,a5 c z ak j,.inRangeFunc (w.heap.size+1)::k,.head (fw _ _) d<|tw u<|.one (fw _ _) ?_⟩;rw[<-Frame.raise_atR];exact step_leave_panicked q
