import Derived.Test.YtcbmoiabehpliaaGreatDoorHPk01
import Derived.Test.YtcbmoiabehpliaaGreatDoorHPk24
import Derived.Test.YtcbmoiabehpliaaGreatDoorProg
set_option linter.unusedVariables false
namespace Go.Proofs.YtcbmoiabehpliaaGreatDoor
open Go.RowKit
def wT(i:FuncId)(P:Program)(c:Code)(Q:Exit->Act->World->Prop)(a:Act)(w:World):Prop:=
 ∀(b:Frame)(d:List Item)(g:List Frame),b.roundOf=none->b.fn=i->
  ∃e f h,Q e f h/\ArrivesIn (Machine.fenced P Fence.wide) P (lone (b.atR a (.code c::d)) g w) b d g e f h
theorem gi{e:FuncId}{P:Program}{c:Code}{Q:Exit->Act->World->Prop}{a:Act}{w:World}(h:c.wp P Q a w):wT e P c Q a w:=
 fun g d f b _=>(wpIn_wide (n:=0)).2 h g d f b trivial (room_wide _)
theorem fw(P:Program)(m:Machine):m.fenced P Fence.wide:=fenced_wide P m
theorem EY{j:FuncId}{P:Program}{x b:Code}{Q:Exit->Act->World->Prop}{a:Act}{w:World}(h:wT j P x (Exit.then (wT j P b Q) Q) a w):wT j P (Code.seq x b) Q a w:=by
 intro l i k m n;have d:=fw P (lone (l.atR a (.code (.seq x b)::i)) k w);obtain⟨r,f,g,c,e⟩:=h l (.code b::i) k m n;cases r with
 |normal=>
  obtain⟨p,o,q,t,s⟩:=c l i k m n;exact⟨p,o,q,t,.of_steps (.head d stepR_seq e) s⟩
 |exit id=>exact⟨_,f,g,c,.of_steps (.one d stepR_seq) (.pass (x:= .code b) rfl (fun _ _=> .inl (by simp)) e)⟩
 |goto v=>exact⟨_,f,g,c,.of_steps (.one d stepR_seq) (.pass (x:= .code b) rfl (fun _ _=> .inl (by simp)) e)⟩
 |ret=>exact⟨_,f,g,c,.of_steps (.one d stepR_seq) (.pass (x:= .code b) rfl (fun _ _=> .inl (by simp)) e)⟩
 |panic u=>exact⟨_,f,g,c,.of_steps (.one d stepR_seq) (.pass (x:= .code b) rfl (fun _ _=> .inl (by simp)) e)⟩
 |outgrown=>exact⟨_,f,g,c,.of_steps (.one d stepR_seq) (.pass (x:= .code b) rfl (fun _ _=> .inl (by simp)) e)⟩
theorem gj{b:FuncId}{P:Program}{x c:Code}{Q:Exit->Act->World->Prop}{a:Act}{w:World}(h:∀K:Act->World->Prop,(∀a w,wT b P c Q a w->K a w)->wT b P x (Exit.then K Q) a w):wT b P (Code.seq x c) Q a w:=EY (h _ fun _ _ h=>h)
theorem zP{k:FuncId}{P:Program}{id:Nat}{c:Code}{Q:Exit->Act->World->Prop}{a:Act}{w:World}(p:∀e a w,Q e a w->(e= .normal\/∃d,e= .panic d))(h:wT k P c Q a w):wT k P (Code.block id c) Q a w:=by
 intro n f m o q;have j:=fw P (lone (n.atR a (.code (.block id c)::f)) m w);obtain⟨e,g,i,b,l⟩:=h n (.inBlock id::f) m o q;rcases p _ _ _ b with rfl|⟨d,rfl⟩
 ·exact⟨.normal,g,i,b,.head j stepR_block (StepsIn.trans l (.one (fw _ _) stepR_inBlock))⟩
 ·exact⟨_,g,i,b,.of_steps (.one j stepR_block) l⟩
def Cm(K:Act->World->Prop)(Z:List PanicEntry->Act->World->Prop):Exit->Act->World->Prop
 | .normal,a,w=>K a w
 | .panic b,a,w=>Z b a w
 |_,_,_=>False
theorem Cn{d:FuncId}{P:Program}{c:Code}{Q b:Exit->Act->World->Prop}{a:Act}{w:World}(j:∀e a w,Q e a w->b e a w)(h:wT d P c Q a w):wT d P c b a w:=
 fun n g m f o=>let ⟨e,k,l,p,i⟩:=h n g m f o;⟨e,k,l,j _ _ _ p,i⟩
theorem uD{e:FuncId}{P:Program}{id:Nat}{c:Code}{K:Act->World->Prop}{Q:Exit->Act->World->Prop}{a:Act}{w:World}(h:wT e P c (Cm K (fun b a w=>Q (.panic b) a w)) a w):wT e P (Code.block id c) (Exit.then K Q) a w:=
 Cn (fun d a w h=>by cases d<;>first|exact h|exact h.elim) (zP (Q:=Cm K (fun b a w=>Q (.panic b) a w)) (fun d a w h=>by
  cases d
  ·exact .inl rfl
  all_goals first|exact .inr ⟨_,rfl⟩|exact h.elim) h)
def Ha(D:List Deferred)(Z:List PanicEntry->World->Prop):Exit->Act->World->Prop
 | .panic b,a,w=>a.defers=D/\Z b w
 |_,_,_=>False
theorem rV{n:Nat}{P:Program}{f:FuncId}{fn:Func}{c:Code}{args:Array Value}{w:World}{R:Ending->World->Prop}(r:P.funcs[f]?=some fn)(z:fn.body=some c)
  (h:wT f P c (bodyPostM Fence.wide n P fn R) {tmps:=args++Array.replicate (fn.ntmps-args.size) undef,defers:=[]} w):Calls P f args w R:=by
 refine(callsIn_wide (n:=n)).1 ⟨trivial,fun q t=>?_⟩;let a:Frame:={(default:Frame) with fn:=f,kind:= .normal,roundOf:=none};have x:Frame.enter P f args .normal=a.atR {tmps:=args++Array.replicate (fn.ntmps-args.size) undef,defers:=[]} [.code c]:=by
  simp[Frame.enter,Frame.atR,r,z,a]
 obtain⟨y,b,p,d,g⟩:=h a [] q rfl rfl;rw[<-x]at g;cases y with
 |normal=>
  obtain⟨l,m,o,e,j,k,i⟩:=leaves_stepsInM b.defers .returning p {a.atR b [] with mode:= .returning} q rfl rfl rfl r rfl trivial t d;exact⟨l,m,o,e,ComesIn.of_steps (StepsIn.trans g (.one (fw _ _) (stepR_end rfl))) j,k,i⟩
 |ret=>
  obtain⟨s,u⟩:=g.1 rfl;obtain⟨l,m,o,e,j,k,i⟩:=leaves_stepsInM b.defers .returning p {a.atR b s with mode:= .returning} q rfl rfl rfl r rfl trivial t d;exact⟨l,m,o,e,ComesIn.of_steps u j,k,i⟩
 |panic v=>
  obtain⟨s,u⟩:=g;obtain⟨l,m,o,e,j,k,i⟩:=leaves_stepsInM b.defers (.panicking v) p {a.atR b s with mode:= .panicking v} q rfl rfl rfl r rfl trivial t d;exact⟨l,m,o,e,ComesIn.of_steps u j,k,i⟩
 |exit id=>exact d.elim
 |goto A=>exact d.elim
 |outgrown=>exact⟨.outgrown,p,a,d,g.resolve_left (by simp[a]),rfl,trivial⟩
def Co(B:Nat)(W:World)(R:World->Prop)(Pn:List PanicEntry->World->Prop):Exit->Act->World->Prop
 | .normal,_,b=>KeepsFrom B W b/\R b
 | .panic c,a,b=>a.defers=[]/\KeepsFrom B W b/\Pn c b
 |_,_,_=>False
theorem Cp{P:Program}{n l:Nat}{f:FuncId}{tmps:Array Value}{i d:Code}{w:World}{R:Ending->World->Prop}{B:Nat}{Z:World->World->Prop}{Pn:List PanicEntry->World->Prop}{fn:Func}(L:P.funcs[f]?=some fn)
  (h:i.wpIn (Fence.wide.inRound l) n P (Exit.then (fun j p=>∃b,(Instr.beginRound l).run P p= .ok () b/\d.wpIn (Fence.wide.inRound l) n P (Co B b (Z b) Pn) j b/\(∀a,KeepsFrom B b a->Z b a->∃v m,(Instr.endRound l none).run P a= .ok v m/\R (.returned v) m)/\(∀s a,KeepsFrom B b a->Pn s a->R (.panicked s) a)) (fun _ _ _=>False)) {tmps:=tmps,defers:=[]} w):
  RoundIn Fence.wide n P l f tmps i d w R:=by
 refine⟨trivial,fun e g z=>?_⟩;let c:Frame:={(default:Frame) with fn:=f,kind:= .normal,roundOf:=some l};have M:Frame.round l f tmps i d .normal=c.atR {tmps:=tmps,defers:=[]} [.code i,.beginRound,.code d]:=by
  simp[Frame.round,Frame.atR,c]
 have r:(Fence.wide.inRound l).room ((e::g).length+1+n):=z;have y:(Fence.wide.inRound l).fn c.fn:=trivial;obtain⟨G,j,p,q,o⟩:=h c [.beginRound,.code d] (e::g) rfl y r;rw[<-M]at o;cases G with
 |normal=>
  obtain⟨b,O,I,K,A⟩:=q;have u:StepsIn (Machine.fenced P (Fence.wide.inRound l)) P (lone (c.atR j [.beginRound,.code d]) (e::g) p) (lone (c.atR j [.code d]) (e::g) b):=
   .one (fw _ _) (stepR_beginRound rfl O)
  obtain⟨C,T,a,k,x⟩:=I c [] (e::g) rfl y r;cases C with
  |normal=>
   obtain⟨v,m,E,F⟩:=K a k.1 k.2;exact⟨.returned v,m,F,(StepsIn.trans o u).trans (StepsIn.trans x (.one (fw _ _) (stepR_round_end rfl rfl E)))⟩
  |panic t=>
   obtain⟨N,Q,J⟩:=k;obtain⟨S,H⟩:=x;refine⟨.panicked t,a,A t a Q J,(StepsIn.trans o u).trans (StepsIn.trans H (.one (fw _ _) (step_leave_panicked ⟨rfl,N,fn,L⟩)))⟩
  |_=>exact k.elim
 |_=>exact q.elim
theorem EZ{P:Program}{α:Type}{n j:Nat}{bh:Func}(bs:P.funcs[j]?=some bh){g:Operand}{m:Array Tmp}{assign body:Code}{Q:Exit->Act->World->Prop}{a:Act}{w:World}{gf:Nat}{bd:Array Value}
  (bo:a.eval g= .func (.func gf) bd #[]) (bD:∀args w,(callFunc gf args).run P w= .ok (.enter gf args) w) (C:α->Array Value) (a7:∀x,(C x).size=m.size)
  (N Z:α->World->Prop) (z:α->Act->World->Prop) (D:World->Prop) (Pn:List PanicEntry->World->Prop)
  (a2:∀x W r o,Z x W->W.heap[w.heap.size+1]?=some (.loop r)->Z x (W.putObj (w.heap.size+1) o))
  (a9:∀x f W r o,z x f W->W.heap[w.heap.size+1]?=some (.loop r)->z x f (W.putObj (w.heap.size+1) o)) (bN:∀W r o,D W->W.heap[w.heap.size+1]?=some (.loop r)->D (W.putObj (w.heap.size+1) o))
  (a1:∀(l:Nat) x W (K:Act->World->Prop),N x W->(∀f c,z x f c->KeepsFrom w.heap.size W c->K f c)->
   assign.wpIn (Fence.wide.inRound l) (n-1-1) P (Exit.then K (fun _ _ _=>False)) {tmps:=(m.zip (C x)).foldl (fun t (p,v)=>t.setIfInBounds p v) a.tmps,defers:=[]} W)
  (am:∀(l:Nat) x f W,z x f W->body.wpIn (Fence.wide.inRound l) (n-1-1) P (Co w.heap.size W (Z x) Pn) f W)
  (a6:∀(l:Nat)(q:World->Prop),(∀W c,KeepsFrom w.heap.size W c->q W->q c)->
   (∀x W,N x W->q W->YieldAt Fence.wide (n-1-1) P l (C x) W fun e c=>(e= .returned (.bool true)/\Z x c/\q c)\/(∃d,e= .panicked d/\Pn d c/\c.heap[w.heap.size]?=some (.deferred (some []))))->
   ∀W,q W->Below w.heap.size w W->W.heap.size=w.heap.size+2->CallsIn Fence.wide (n-1) P gf (bd++#[.func (.yield l) #[] #[]]) W fun e c=>((∃v,e= .returned v)/\D c/\q c)\/(∃d,e= .panicked d/\Pn d c/\c.heap[w.heap.size]?=some (.deferred (some []))))
  (a5:∀W,D W->W.heap[w.heap.size]?=some (.deferred (some []))->Q .normal {a with defers:={target:= .collected w.heap.size,args:=#[]}::a.defers} W)
  (a8:∀d W,Pn d W->W.heap[w.heap.size]?=some (.deferred (some []))->Q (.panic d) {a with defers:={target:= .collected w.heap.size,args:=#[]}::a.defers} W):
  wT j P (Code.rangeFunc g m assign body) Q a w:=by
 intro b k cs V A;obtain⟨rc,i⟩:∃rc:LoopState->Loop,rc=fun bE=>{state:=bE,pending:=none,fn:=j,tmps:=a.tmps,params:=m,assign,body,defers:=w.heap.size}:=⟨_,rfl⟩;have H:=run_enterLoop_outer (P:=P) (w:=w) j a.tmps m assign body;rw[show({state:= .ready,pending:=none,fn:=j,tmps:=a.tmps,params:=m,assign,body,defers:=w.heap.size}:Loop)=rc .ready by rw[i]]at H;obtain⟨h,y⟩:=ah ((w.alloc (.deferred (some []))).alloc (.loop (rc .ready)));rw[y]at H;have av:h.heap[w.heap.size+1]?=some (.loop (rc .ready)):=by
  rw[<-y];have:=World.alloc_heap_new (w.alloc (.deferred (some []))) (.loop (rc .ready));rwa [World.size_alloc]at this
 have bl:h.heap[w.heap.size]?=some (.deferred (some [])):=by
  rw[<-y];exact(Below.heap_alloc _ _ _ (by simp)).trans (World.alloc_heap_new w _)
 have bx:Below w.heap.size w h:=by rw[<-y];exact((Below.refl _ w).alloc (Nat.le_refl _) _).alloc (by simp) _
 have an:h.heap.size=w.heap.size+2:=by rw[<-y];simp
 have bw:=a6 (w.heap.size+1) (fun W=>W.heap[w.heap.size+1]?=some (.loop (rc .ready))/\W.heap[w.heap.size]?=some (.deferred (some [])))
   (fun W c U A=>⟨U.same _ _ (by omega) A.1 rfl,U.same _ _ (Nat.le_refl _) A.2 rfl⟩) (by
  rintro x W bn ⟨s,u⟩;have O:=run_yield (P:=P) (args:=C x) s (by rw[i];exact a7 x);rw[i]at O;refine⟨j,_,assign,body,O,Cp (B:=w.heap.size) (Z:=fun _=>Z x) (Pn:=Pn) bs (a1 _ x W _ bn fun f c bA I=>?_)⟩;have G:=I.same _ _ (by omega) s rfl;have a3:=I.same _ _ (Nat.le_refl _) u rfl;have ap:w.heap.size+1<c.heap.size:=(Array.getElem?_eq_some_iff.1 G).1;have X:(c.putObj (w.heap.size+1) (.loop {rc .ready with state:= .busy})).heap[w.heap.size+1]?=some (.loop {rc .ready with state:= .busy}):=World.putObj_heap_same ap;have M:(c.putObj (w.heap.size+1) (.loop {rc .ready with state:= .busy})).heap[w.heap.size]?=some (.deferred (some [])):=(World.putObj_heap_other (by omega)).trans a3;refine⟨_,run_beginRound G (by rw[i]),am _ x f _ (a9 _ _ _ _ _ bA G),fun af E bt=>?_,fun d af E a0=>?_⟩
  ·have F:=E.same _ _ (by omega) X rfl;have a4:=E.same _ _ (Nat.le_refl _) M rfl;have al:=(Array.getElem?_eq_some_iff.1 F).1;refine⟨_,_,run_endRound (P:=P) none F,.inl ⟨rfl,a2 _ _ _ _ bt F,?_,(World.putObj_heap_other (by omega)).trans a4⟩⟩;rw[World.putObj_heap_same al];simp[i]
  ·exact .inr ⟨d,rfl,a0,E.same _ _ (Nat.le_refl _) M rfl⟩) h ⟨av,bl⟩ bx an
 have ar:(resolve a.eval (rangeCall g (w.heap.size+1)) 0).run P h= .ok {target:= .fn (.func gf) #[],args:=bd++#[.func (.yield (w.heap.size+1)) #[] #[]]} h:=by simp only[resolve,bo];simp[go_sem]
 have br:(invoke (.fn (.func gf) #[]) (bd++#[.func (.yield (w.heap.size+1)) #[] #[]])).run P h= .ok (.enter gf (bd++#[.func (.yield (w.heap.size+1)) #[] #[]])) h:=by simp[invoke,go_sem,bD]
 have J:=stepR_rangeFunc (P:=P) (b:=b) (a:=a) (k:=k) (cs:=cs) (w:=w) (g:=g) (by rw[V,A];exact H) ar br;obtain⟨e,T,b1,ak,L,b0,S⟩:=bw.2 (b.atR {a with defers:=[{target:= .collected w.heap.size,args:=#[]}]++a.defers} (.inRangeFunc (w.heap.size+1)::k)::cs) (room_wide _);rcases ak with⟨⟨v,rfl⟩,bb,s,u⟩|⟨d,rfl,ao,u⟩
 ·have R:=run_endLoop (P:=P) s (by rw[i];simp);obtain⟨bk,Y⟩:=ah (Obj.loop {rc .ready with state:= .exhausted});rw[Y,show(rc .ready).pending=none by rw[i]]at R;refine⟨.normal,_,_,a5 _ (bN _ _ bk bb s) ((World.putObj_heap_other (by omega)).trans u),?_⟩;refine .head (fw _ _) J (StepsIn.trans L (.head (fw _ _) ?_ (.one (fw _ _) (stepR_endRangeFunc (jump:=none) R))));rw[<-finish_atR_inRangeFunc (w.heap.size+1) v];exact step_leave_returned S
 ·refine⟨.panic d,_,T,a8 d T ao u,.inRangeFunc (w.heap.size+1)::k,.head (fw _ _) J (StepsIn.trans L (.one (fw _ _) ?_))⟩;rw[<-Frame.raise_atR];exact step_leave_panicked S
end Go.Proofs.YtcbmoiabehpliaaGreatDoor
