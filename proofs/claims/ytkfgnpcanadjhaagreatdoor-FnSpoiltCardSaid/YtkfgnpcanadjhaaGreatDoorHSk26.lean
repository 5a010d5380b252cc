import Derived.Test.YtkfgnpcanadjhaaGreatDoorHSk23
set_option linter.all false
set_option maxRecDepth 100000
set_option maxHeartbeats 25600000
namespace Go.Proofs.YtkfgnpcanadjhaaGreatDoor
open Go.RowKit Go.Maps Go.WideMaps
section
variable (E : Pe)
inductive Ws (i:Nat):FuncId->Array Value->Nat->Fo->Nat->Prop
 |blk {x:Fo}{j:Nat}:(E.tk i).k=42->i<E.n->CK E i x j->Ws i 201 #[pV E] i x j
 |smp {k:Int}{x:Fo}{j:Nat}:k=1\/k=40->(E.tk i).k=k->i<E.n->CI E 231 #[pV E] i x j->Ws i 201 #[pV E] i x j
 |let0 {ns:List ByteArray}{k:Nat}:(E.tk i).k=22->i<E.n->CM E (i+1) ns k->1<=k->k<E.n->(E.tk k).k≠47->Ws i 201 #[pV E] i (one (nd 2 (E.tk i) (E.tk (k-1)).t 0 0 z0 ns) .nil) k
 |let1 {ns:List ByteArray}{k j:Nat}{x:Fo}:(E.tk i).k=22->i<E.n->CM E (i+1) ns k->k<E.n->(E.tk k).k=47->CLx E (k+1) x j->1<=j->j<=E.n->Ws i 201 #[pV E] i (one (nd 2 (E.tk i) (E.tk (j-1)).t 0 0 z0 ns) x) j
 |con {ns:List ByteArray}{k j:Nat}{x:Fo}:(E.tk i).k=13->i<E.n->CM E (i+1) ns k->k<E.n->(E.tk k).k=47->CX E 0 (k+1) x j->1<=j->j<=E.n->Ws i 201 #[pV E] i (one (nd 3 (E.tk i) (E.tk (j-1)).t 0 0 z0 ns) x) j
 |iff {x:Fo}{j:Nat}:(E.tk i).k=20->i<E.n->CBr E 20 i x j->Ws i 201 #[pV E] i x j
 |whl {x y:Fo}{k j:Nat}:(E.tk i).k=31->i<E.n->CX E 0 (i+1) x k->CK E k y j->1<=j->j<=E.n->Ws i 201 #[pV E] i (one (kD 8 (E.tk i) (E.tk (j-1)).t) (x.app y)) j
 |for_ {x:Fo}{j:Nat}:(E.tk i).k=19->i<E.n->CI E 240 #[pV E,tkV 19 (E.tk i)] (i+1) x j->Ws i 201 #[pV E] i x j
 |leaf {k nk:Int}:(k=11/\nk=11)\/(k=23/\nk=12)->(E.tk i).k=k->i+1<E.n->Ws i 201 #[pV E] i (one (kD nk (E.tk i) (E.tk i).t) .nil) (i+1)
 |ret0:(E.tk i).k=27->i+1<E.n->dw (E.tk (i+1)).k=false->Ws i 201 #[pV E] i (one (kD 13 (E.tk i) (E.tk i).t) .nil) (i+1)
 |ret1 {x:Fo}{j:Nat}:(E.tk i).k=27->i+1<E.n->dw (E.tk (i+1)).k=true->CLx E (i+1) x j->1<=j->j<=E.n->Ws i 201 #[pV E] i (one (kD 13 (E.tk i) (E.tk (j-1)).t) x) j
 |try_ {ns:List ByteArray}{x y:Fo}{k k1 j:Nat}:(E.tk i).k=30->i<E.n->CK E (i+1) x k->(E.tk k).k=12->k<E.n->CM E (k+1) ns k1->CK E k1 y j->1<=j->j<=E.n->Ws i 201 #[pV E] i (one (nd 14 (E.tk i) (E.tk (j-1)).t 0 0 z0 ns) (x.app y)) j
 |thr {x:Fo}{j:Nat}:(E.tk i).k=28->i<E.n->CX E 0 (i+1) x j->1<=j->j<=E.n->Ws i 201 #[pV E] i (one (kD 15 (E.tk i) (E.tk (j-1)).t) x) j
 |dfr {x:Fo}{j:Nat}:(E.tk i).k=14->i<E.n->CB E (i+1) x j->1<=j->j<=E.n->Ws i 201 #[pV E] i (one (kD 16 (E.tk i) (E.tk (j-1)).t) x) j
 |bno {q:Int}{x y:Fo}{k k1:Nat}:q=20\/q=15->(E.tk i).k=q->i<E.n->CX E 0 (i+1) x k->CK E k y k1->1<=k1->k1<E.n->(E.tk k1).k≠15->(E.tk k1).k≠16->Ws i 239 #[pV E,tkV q (E.tk i)] (i+1) (one (kD 7 (E.tk i) (E.tk (k1-1)).t) (x.app y)) k1
 |belif {q:Int}{x y z:Fo}{k k1 j:Nat}:q=20\/q=15->(E.tk i).k=q->i<E.n->CX E 0 (i+1) x k->CK E k y k1->k1<E.n->(E.tk k1).k=15->CBr E 15 k1 z j->1<=j->j<=E.n->Ws i 239 #[pV E,tkV q (E.tk i)] (i+1) (one (kD 7 (E.tk i) (E.tk (j-1)).t) ((x.app y).app z)) j
 |belse {q:Int}{x y z:Fo}{k k1 j:Nat}:q=20\/q=15->(E.tk i).k=q->i<E.n->CX E 0 (i+1) x k->CK E k y k1->k1<E.n->(E.tk k1).k=16->CK E (k1+1) z j->1<=j->j<=E.n->Ws i 239 #[pV E,tkV q (E.tk i)] (i+1) (one (kD 7 (E.tk i) (E.tk (j-1)).t) ((x.app y).app z)) j
 |lfor {ns:List ByteArray}{x y:Fo}{k k1 j:Nat}:(E.tk i).k=19->i<E.n->CM E (i+1) ns k->k<E.n->(E.tk k).k=47->CLx E (k+1) x k1->CK E k1 y j->1<=j->j<=E.n->Ws i 240 #[pV E,tkV 19 (E.tk i)] (i+1) (one (nd 9 (E.tk i) (E.tk (j-1)).t 0 0 z0 ns) (x.app y)) j
 |leach {ns:List ByteArray}{x y:Fo}{k k1 j:Nat}:(E.tk i).k=19->i<E.n->CM E (i+1) ns k->k<E.n->(E.tk k).k=21->CX E 0 (k+1) x k1->CK E k1 y j->1<=j->j<=E.n->Ws i 240 #[pV E,tkV 19 (E.tk i)] (i+1) (one (nd 10 (E.tk i) (E.tk (j-1)).t 0 0 z0 ns) (x.app y)) j
end
theorem gb{E:Pe}{i j e:Nat}{f:FuncId}{args:Array Value}{X:Fo}(b:Ws E i f args e X j):CI E f args e X j:=by
 cases b
 case' smp b _ _ _=>rcases b with rfl|rfl
 case' leaf b _ _=>rcases b with⟨rfl,rfl⟩|⟨rfl,rfl⟩
 case' bno b _ _ _ _ _ _ _ _=>rcases b with rfl|rfl
 case' belif b _ _ _ _ _ _ _ _ _=>rcases b with rfl|rfl
 case' belse b _ _ _ _ _ _ _ _ _=>rcases b with rfl|rfl
 all_goals
  intro q o p b l
  have a:=aj b
  clear b
  have t:=ajF
  try simp only[dq,Fo.sz_app,Fo.sz]at l
  try have v:=beq_eq_false_iff_ne.2 (by assumption:(E.tk _).k≠15)
  go_in
  repeat' (go_wp2_with (at_builtin;refine Sq.app a (by have:=Sq.ln a;simp only[Fo.sz_app,Fo.sz]at this;(try simp only[Fo.sz]);omega) rfl _ _ rfl rfl rfl rfl ?_;intro u r c a;have m:=Sq.rd a);(first
   |(go_at_call 199;first|refine dG (Sq.kind (by first|exact a|exact Sq.box a|exact Sq.lit2 (Sq.set a)) (by assumption)) fun c a=>?_|refine dG (Sq.kind (by first|exact a|exact Sq.box a|exact Sq.lit2 (Sq.set a)) rfl) fun c a=>?_)
   |(go_at_call 232;refine dG (Sq.take (by first|exact a|exact Sq.set a|exact Sq.box a) (by assumption)) fun c a=>?_)
   |(go_at_call 200;first|refine dG (Sq.isY (by first|exact a|exact Sq.set a) (by assumption)) fun c a=>?_|refine dG (Sq.isN (by first|exact a|exact Sq.set a) (by assumption)) fun c a=>?_)
   |(go_at_call 227;refine dj (ajE (by assumption) _) ?_)
   |(go_at_call 233;refine dG (Sq.node (by first|exact a|exact Sq.box a)) fun c a=>?_)
   |(go_at_call 236;refine(Sq.add (by first|exact a|exact Sq.set a|exact Sq.lit1 (Sq.box a)|exact Sq.lit2 (Sq.set a)|exact Sq.box a) (by first|exact .inl ⟨rfl,rfl⟩|exact .inr (.head _)|exact .inr (.tail _ (.head _))) (by first|exact .inl ⟨rfl,rfl⟩|exact .inr (.head _)) (by have:=Sq.ln a;simp only[Fo.sz_app,Fo.sz]at this;(try simp only[Fo.sz]);omega)).mono ?_;rintro s c ⟨n,rfl,d,a⟩)
   |(refine Sq.cq (by first|exact a|exact Sq.set a|exact Sq.box a|exact Sq.lit2 (Sq.set a)) (by assumption) (by have:=Sq.ln a;simp only[Fo.sz_app,Fo.sz]at this;(try simp only[Fo.sz]);omega) ?_;(first|rintro c _ d _ _ ⟨n,rfl,rfl,rfl⟩ a|rintro c _ d w _ ⟨g,h,rfl,rfl⟩ a|(rintro c _ d _ _ ⟨g,h,rfl,rfl,rfl⟩ a;rw[Fo.app_nil,dA]at a))));(try have m:=Sq.rd a))
  all_goals
   go_wp2_with fail
   go_ret
   exact⟨_,_,_,_,rfl,⟨_,rfl,rfl,rfl⟩,Sq.fin a⟩
inductive Pt (E:Pe):Nat->Nat->List ByteArray->Bool->Nat->Prop where
 |stop {k:Nat}:(E.tk k).k=41->k<E.n->Pt E 0 k [] false k
 |name {m k j:Nat}{ns:List ByteArray}{r:Bool}:(E.tk k).k=1->k<E.n->Pt E m (k+1) ns r j->Pt E (m+1) k ((E.tk k).x::ns) r j
 |rest {m k j:Nat}{ns:List ByteArray}{r:Bool}:(E.tk k).k=49->k<E.n->Pt E m (k+1) ns r j->Pt E (m+1) k ns true j
 |com {m k j:Nat}{ns:List ByteArray}{r:Bool}:(E.tk k).k=46->k<E.n->Pt E m (k+1) ns r j->Pt E (m+1) k ns r j
theorem Pt.of{E:Pe}{k j:Nat}{d:List ByteArray}{r:Bool}(e:Lp E.tk E.n k d r j):∃m,Pt E m k d r (j-1)/\(E.tk (j-1)).k=41/\k+1<=j/\j<E.n:=by
 induction e with
 |close b a=>exact⟨0,.stop b (by omega),b,by omega,a⟩
 |rest b a c=>exact⟨1,.rest b (by omega) (.stop a (by omega)),a,by omega,c⟩
 |last b a c=>exact⟨1,.name b (by omega) (.stop a (by omega)),a,by omega,c⟩
 |go b a c l f=>
  obtain⟨m,g,h,o,i⟩:=f
  exact⟨m+2,.name b (by omega) (.com a (by omega) g),h,by omega,i⟩
def opR(b:Bool):Int:=if b=true then 1 else 0
section
variable {E : Pe} {i j : Nat}
theorem ahq{T:Tk}{k m:Nat}{h:List ByteArray}{r:Bool}{x:Fo}(am:(E.tk i).k=40)(a5:i<E.n)(I:Pt E m (i+1) h r k)(H:(E.tk k).k=41)(a8:k+1<E.n)(ar:CK E (k+1) x j)(a6:k+1<=j)(a7:j<=E.n):CBd E T i (one (nd 36 T (E.tk (j-1)).t (opR r) 0 z0 h) x) j:=by
 intro F J C G ao
 have a:=aj G
 have K:=aj I
 have a9:=a.lo.2.2.2
 clear G I
 rw[dq]at ao
 go_in
 go_wp2_with fail
 refine dG (Sq.take (Sq.nil (t:=9) (Sq.box a)) am) fun b a=>?_
 go_wp2_with fail
 go_loopg [5] m (fun gk ba wr=>∃(e:Nat) (D q:List ByteArray) (u:Int) (s:Bool) (l:Option Addr) (n o:Nat),Hid (Pt E gk e q s k/\Sq E F J C wr e C .nil [] [(F.heap.size,50,ndA 36 u 0 ⟨#[]⟩ T (.slice l n o) s0)] [(9,.slice l n o,D.map Value.string)]/\D++q=h/\(∃v,u=opR v/\(v||s)=r)/\n<=e))
 case atStart=>exact⟨i+1,[],h,0,r,none,0,0,K,a,rfl,⟨false,rfl,by simp⟩,by omega⟩
 case round=>
  clear a
  obtain⟨e,D,q,u,s,l,n,o,B⟩:=hrel
  obtain⟨ak,a,w,y,a4⟩:=B.out
  have f:=eJ w y
  clear w y B
  cases ak with
  |stop c z=>
   go_wp2_with fail
   refine dG (Sq.kind a H) fun b a=>?_
   go_wp2_with fail
   refine dG (Sq.take a H) fun b a=>?_
   go_wp2_with fail
   refine Sq.cq a ar (by omega) ?_
   rintro b _ L _ _ ⟨a1,rfl,rfl,rfl⟩ a
   have A:=Sq.rd a
   have ap:=Sq.ln a
   rw[show(Fo.nil.app x)=x from rfl]at ap
   go_wp2_with fail
   refine(Sq.add (Sq.lit2 (Sq.set a)) (.inr (.tail _ (.head _))) (.inr (.head _)) (by omega)).mono ?_
   rintro a2 b ⟨a1,rfl,L,a⟩
   go_wp2_with fail
   go_ret
   obtain⟨w,v,y,al⟩:=f.out
   obtain rfl:D=h:=by simpa using w
   obtain rfl:v=r:=by simpa using al
   subst y
   exact⟨_,_,_,_,rfl,⟨_,rfl,rfl,rfl⟩,Sq.fin a⟩
  |@name p _ _ av _ c z d=>
   have g:=aj d
   clear d
   go_wp2_with fail
   refine dG (Sq.kind a c) fun b a=>?_
   go_wp2_with fail
   refine dG (Sq.take a c) fun b a=>?_
   have A:=Sq.rd a
   go_wp2_with (at_builtin;refine Sq.apG tS (Sq.box a) (by omega) rfl rfl _ _ rfl rfl rfl (by simp) ?_;intro a3 ad b a;have a:=Sq.tail a;have A:=Sq.rd a)
   go_roundg p
   case measure=>omega
   case rel=>exact⟨e+1,D++[(E.tk e).x],av,u,s,_,n+1,ad,g,by rw[dm];exact Sq.set a,by rw[cG];exact f.1,f.2,by omega⟩
  |@rest p _ _ _ a0 c z d=>
   have g:=aj d
   clear d
   go_wp2_with fail
   refine dG (Sq.kind a c) fun b a=>?_
   go_wp2_with fail
   refine dG (Sq.take a c) fun b a=>?_
   have A:=Sq.rd a
   go_wp2_with fail
   go_roundg p
   case measure=>omega
   case rel=>exact⟨e+1,D,q,1,a0,l,n,o,g,Sq.below (Sq.set a) (dh _ _),f.1,⟨true,rfl,by obtain⟨v,_,af⟩:=f.2;rw[<-af];simp⟩,by omega⟩
  |@com p _ _ _ _ c z d=>
   have g:=aj d
   clear d
   go_wp2_with fail
   refine dG (Sq.kind a c) fun b a=>?_
   go_wp2_with fail
   refine dG (Sq.take a c) fun b a=>?_
   go_wp2_with fail
   go_roundg p
   case measure=>omega
   case rel=>exact⟨e+1,D,q,u,s,l,n,o,g,Sq.below a (dh _ _),f.1,f.2,by omega⟩
end
theorem ai5(k:Int)(a:iL k=true)(d:k<=78)(w:World):Calls Tryz.prog 189 #[.int .i64 k] w fun e f=>e= .returned (.tuple #[.int .i64 (J4 k),.int .i64 (rpw k)])/\f=w:=by
 have b:=bi a
 have c:k=10\/k=26\/k=61\/k=62\/k=63\/k=64\/k=65\/k=66\/k=67\/k=68\/k=69\/k=70\/k=71\/k=72\/k=73\/k=74\/k=75\/k=76\/k=77\/k=78:=by omega
 clear b a d
 rcases c with rfl|rfl|rfl|rfl|rfl|rfl|rfl|rfl|rfl|rfl|rfl|rfl|rfl|rfl|rfl|rfl|rfl|rfl|rfl|rfl
 all_goals
  go_in
  go_wp2
  first
   |(go_ret;exact⟨rfl,rfl⟩)
   |(go_ret2;exact⟨rfl,rfl⟩)
theorem ahr{t:Int}{b:Bool}(a:iL t=b)(w:World):Calls Tryz.prog 261 #[.int .i64 t] w fun e c=>e= .returned (.bool b)/\c=w:=a ▸ vE w t
inductive Ms (E:Pe) (C:Int->Nat->Fo->Nat->Prop) (p:Int) (s:Tk):Nat->Fo->Nat->Fo->Nat->Prop where
 |stop {x:Fo}{k:Nat}:k<E.n->(iL (E.tk k).k=true->J4 (E.tk k).k<p)->Ms E C p s 0 x k x k
 |go {m k k1 j:Nat}{x y R:Fo}:k<E.n->iL (E.tk k).k=true->p<=J4 (E.tk k).k->C (rpw (E.tk k).k) (k+1) y k1->k+1<=k1->k1<=E.n->Ms E C p s m (one (uB (E.tk k).k s (E.tk (k1-1)).t) (x.app y)) k1 R j->Ms E C p s (m+1) x k R j
theorem Ms.le{E:Pe}{C:Int->Nat->Fo->Nat->Prop}{p:Int}{s:Tk}{m k j:Nat}{x R:Fo}(a:Ms E C p s m x k R j):x.sz<=R.sz:=by
 induction a with
 |stop=>exact ah _
 |go _ _ _ _ _ _ _ b=>rw[dq,Fo.sz_app]at b;omega
theorem ai6{W:World}{o:Obj}(k j:Nat)(a:k<W.heap.size):(W.alloc o).cell? ⟨k,j,none⟩=W.cell? ⟨k,j,none⟩:=World.cell?_alloc_past _ _ _ a
section
variable {E : Pe} {i j : Nat}
theorem ahs{p:Int}{x R:Fo}{k m:Nat}(al:(E.tk i).k≠6)(an:i<E.n)(r:∀q,(E.tk q).k<=78)(a1:CU E i x k)(s:Ms E (CX E) p (E.tk i) m x k R j):CX E p i R j:=by
 intro f H K F bb
 have a:=aj F
 have ad:=a.cells
 have t:=a.tkw an al
 unfold TkW at t
 have bd:=a.lo
 have J:=aj s
 have bk:=s.le
 clear F s
 have ap:(i:Int)<(E.n:Int):=by omega
 have ao:(0:Int)<=(i:Int):=by omega
 have a0:IntKind.i64.wrap (i:Int)=(i:Int):=by rw[bm];omega
 go_in
 go_wp2_with fail
 go_region_held3 (fun a4=>∀k j,k<f.heap.size->a4.cell? ⟨k,j,none⟩=f.cell? ⟨k,j,none⟩) (first|exact ai6|exact fun _ _ _=>rfl) (fail)
 replace a:=Sq.below (Sq.box (cs:=Kv (E.tk i).k (E.tk i)) (t:=205) a) (aq (ag _ _))
 generalize World.drew _=d at a⊢
 clear ad t ap ao a0
 go_wp2_with fail
 refine Sq.cq a a1 (by omega) ?_
 rintro d _ z _ _ ⟨g,rfl,rfl,rfl⟩ a
 go_wp2_with fail
 go_loopg [6] m (fun gk a3 wr=>∃(k:Nat) (l:Fo) (v:Int) (L:List Mb),a3= .int .i64 v/\Hid (Ms E (CX E) p (E.tk i) gk l k R j/\Sq E f H K wr k L l [v] [(f.heap.size,205,Kv (E.tk i).k (E.tk i))] []))
 case atStart=>exact⟨k,_,g,_,rfl,J,a⟩
 case round=>
  clear a
  obtain⟨b,l,v,a5,rfl,w⟩:=hrel
  obtain⟨ak,a⟩:=w.out
  clear w
  cases ak with
  |stop B C=>
   cases c:iL (E.tk j).k with
   |false=>
    go_wp2_with fail
    refine dG (Sq.kind a rfl) fun d a=>?_
    go_wp2_with fail
    refine dj (ahr c _) ?_
    go_wp2_with fail
    go_ret
    exact⟨_,_,_,_,rfl,⟨_,rfl,rfl,rfl⟩,Sq.fin a⟩
   |true=>
    have bf:=C c
    go_wp2_with fail
    refine dG (Sq.kind a rfl) fun d a=>?_
    go_wp2_with fail
    refine dj (ahr c _) ?_
    go_wp2_with fail
    refine dG (Sq.kind a rfl) fun d a=>?_
    go_wp2_with fail
    refine dj (ai5 _ c (r _) _) ?_
    go_wp2_with fail
    go_ret
    exact⟨_,_,_,_,rfl,⟨_,rfl,rfl,rfl⟩,Sq.fin a⟩
  |@go a2 _ e _ _ bn a6 B c C af a9 ba o=>
   have I:=aj o
   have av:=o.le
   rw[dq,Fo.sz_app]at av
   have bc:¬J4 (E.tk b).k<p:=by omega
   have am:(E.tk b).k≠6:=fun A=>by rw[A]at c;revert c;decide
   have bl:IntKind.i64.wrap ((E.tk b).k-60)=(E.tk b).k-60:=by rw[bm];have:=r b;have:(E.tk b).k=10\/(E.tk b).k=26\/60<(E.tk b).k:=bi c;omega
   clear o
   go_wp2_with fail
   refine dG (Sq.kind a rfl) fun d a=>?_
   go_wp2_with fail
   refine dj (ahr c _) ?_
   go_wp2_with fail
   refine dG (Sq.kind a rfl) fun d a=>?_
   go_wp2_with fail
   refine dj (ai5 _ c (r _) _) ?_
   go_wp2_with fail
   refine dG (Sq.take a rfl B am) fun d a=>?_
   go_wp2_with fail
   refine Sq.cq (Sq.box a) af (by have:=Sq.ln a;omega) ?_
   rintro d _ z _ _ ⟨g,rfl,rfl,rfl⟩ a
   have u:=Sq.rd a
   have bo:=Sq.rd (Sq.tail a)
   have ar:=Sq.ln a
   rw[Fo.sz_app]at ar
   go_wp2_with fail
   refine dG (Sq.node a) fun d a=>?_
   have u:=Sq.rd a
   have y:Hid (((E.tk b).k=10\/(E.tk b).k=26)\/((E.tk b).k≠10/\(E.tk b).k≠26)):=by show _\/_;omega
   rcases y.out with(hK|hK)|⟨hK,G⟩
   case' inl.inl=>rw[hK]at u;have h:=aj (show uB (E.tk b).k (E.tk i) (E.tk (e-1)).t=kD 28 (E.tk i) (E.tk (e-1)).t by rw[hK];rfl)
   case' inl.inr=>rw[hK]at u;have h:=aj (show uB (E.tk b).k (E.tk i) (E.tk (e-1)).t=kD 29 (E.tk i) (E.tk (e-1)).t by rw[hK];rfl)
   case' inr=>have a7:=beq_eq_false_iff_ne.2 hK;have a8:=beq_eq_false_iff_ne.2 G;have h:=aj (show uB (E.tk b).k (E.tk i) (E.tk (e-1)).t=nd 31 (E.tk i) (E.tk (e-1)).t ((E.tk b).k-60) 0 z0 [] by unfold uB;rw[aa hK,aa G])
   all_goals
    clear hK y
    go_wp2_with fail
    refine(Sq.add (Sq.lit1 (Sq.box a)) (.inl ⟨rfl,rfl⟩) (.inr (.head _)) (by omega)).mono ?_
    rintro A d ⟨g,rfl,z,a⟩
    go_wp2_with fail
    go_roundg a2
    case measure=>omega
    case rel=>exact⟨e,_,g,_,rfl,I,by rw[h.out];exact Sq.tail (Sq.tail a)⟩
end
inductive Je (E:Pe) (C D:Nat->Fo->Nat->Prop) (s:Tk):Nat->Fo->Nat->Fo->Nat->Prop where
 |stop {X:Fo}{k:Nat}:k<E.n->Gh (E.tk k).k=false->Je E C D s 0 X k X k
 |dot {m k j:Nat}{X R:Fo}:(E.tk k).k=48->(E.tk (k+1)).k=1->k+2<E.n->Je E C D s m (one (nd 33 s (E.tk (k+1)).t 0 0 (E.tk (k+1)).x []) X) (k+2) R j->Je E C D s (m+1) X k R j
 |sq {m k k1 j:Nat}{X Y R:Fo}:(E.tk k).k=44->k<E.n->C (k+1) Y k1->(E.tk k1).k=45->k1+1<E.n->Je E C D s m (one (kD 32 s (E.tk k1).t) (X.app Y)) (k1+1) R j->Je E C D s (m+1) X k R j
 |call0 {m k j:Nat}{X R:Fo}:(E.tk k).k=40->(E.tk (k+1)).k=41->k+2<E.n->Je E C D s m (one (kD 34 s (E.tk (k+1)).t) X) (k+2) R j->Je E C D s (m+1) X k R j
 |call {m k k1 j:Nat}{X Y R:Fo}:(E.tk k).k=40->k+1<E.n->(E.tk (k+1)).k≠41->D (k+1) Y k1->(E.tk k1).k=41->k1+1<E.n->Je E C D s m (one (kD 34 s (E.tk k1).t) (X.app Y)) (k1+1) R j->Je E C D s (m+1) X k R j
theorem Je.le{E:Pe}{C D:Nat->Fo->Nat->Prop}{s:Tk}{m k j:Nat}{X R:Fo}(b:Je E C D s m X k R j):X.sz<=R.sz:=by
 induction b with
 |stop=>exact ah _
 |dot _ _ _ _ a=>rw[dq]at a;omega
 |sq _ _ _ _ _ _ a=>rw[dq,Fo.sz_app]at a;omega
 |call0 _ _ _ _ a=>rw[dq]at a;omega
 |call _ _ _ _ _ _ _ a=>rw[dq,Fo.sz_app]at a;omega
inductive Su (E:Pe) (i:Nat):Int->Fo->Nat->Prop
 |name:Su E i 1 (one (nd 26 (E.tk i) (E.tk i).t 0 0 (E.tk i).x []) .nil) (i+1)
 |held {N:Nd}{ks:Fo}{k:Nat}{q:Int}:CX E 0 (i+1) (one N ks) k->(E.tk k).k=41->i+1<=k->q=34\/q=27->N.k=q->Su E i 40 (one (kD 37 (E.tk i) (E.tk k).t) (one N ks)) (k+1)
 |par {N:Nd}{ks:Fo}{k:Nat}:CX E 0 (i+1) (one N ks) k->(E.tk k).k=41->i+1<=k->(N.k==34)=false->(N.k==27)=false->Su E i 40 (one N ks) (k+1)
section
variable {E : Pe} {W w : World} {G : Option Nat} {L L1 : List Mb} {i j : Nat} {D : Fo} {zs : List Int} {B : Bxs} {R : Rws}
theorem Sq.top{N:Nd}{ks:Fo}{z:Int}(S:Hid (Sq E W G L w i L1 (one N ks) [z] B R)):∃q g cap:Nat,z=(q:Int)/\w.cell? ⟨E.pb,2,none⟩=some (.slice (some ⟨g,0,none⟩) L1.length cap)/\w.cell? ⟨g,q*9,none⟩=some (.int .i64 N.k)/\q<L1.length:=by
 obtain⟨n,d,a⟩:=S.row
 have j:=S.tp
 have f:=S.ac.len
 obtain⟨l,c,b,_⟩:=S.ac
 have q:(L1.map Mb.N)[L.length+ks.sz]?=some {N with ks:=ks.tops L.length}:=by
  rw[c,dm,b,El,gq (by rw[aI];omega),aI,Nat.add_sub_cancel_left,gq (by rw[Fo.flat_len];exact ah _),Fo.flat_len,fw]
  rfl
 rw[bq]at q
 obtain⟨o,h,e⟩:=Option.map_eq_some_iff.1 q
 rw[dq]at f
 rcases bg a with⟨m,rfl⟩|⟨g,cap,rfl⟩
 ·omega
 ·exact⟨L.length+ks.sz,g,cap,(xa j).1.symm,by rw[au _ _ _ _ _ _ d];rfl,by rw[(en a h).1,e],by omega⟩
theorem act{a3:Int}{X R:Fo}{k m:Nat}(ba:(E.tk i).k=a3)(bA:i<E.n)(ar:Su E i a3 X k)(bD:k<E.n)(I:Je E (CX E 0) (CLx E) (E.tk i) m X k R j):CB E i R j:=by
 intro am ad al A bE
 have a:=aj A
 have ak:=aj I
 have y:=I.le
 clear A I
 cases ar
 case' held A _=>rcases A with rfl|rfl
 all_goals
  simp only[dq,Fo.sz]at y
  go_in
  go_wp2_with fail
  refine dG (Sq.take a ba) fun a5 a=>?_
  go_wp2_with fail
  first
   |(go_at_call 233
     refine dG (Sq.node (Sq.box a)) fun b a=>?_
     have e:=Sq.rd a
     go_wp2_with fail
     refine(Sq.add (Sq.box a) (.inl ⟨rfl,rfl⟩) (.inl ⟨rfl,rfl⟩) (by omega)).mono ?_
     rintro v b ⟨p,rfl,f,a⟩
     replace a:=Sq.tail a)
   |(refine Sq.cq (Sq.box a) (by assumption) (by rw[dq];omega) ?_
     rintro b _ f _ _ ⟨p,rfl,rfl,rfl⟩ a
     go_wp2_with fail
     refine dG (Sq.take a (by assumption)) fun b a=>?_
     have e:=Sq.rd a
     have F:=a.cells
     have s:=Sq.ln a
     rw[show(Fo.nil.app (one _ _))=one _ _ from rfl,dq]at s
     obtain⟨q,w,z,rfl,bk,a4,b2⟩:=Sq.top a
     have bb:(0:Int)<=(q:Int):=by omega
     have bc:(q:Int)<(f.length:Int):=by omega
     (try rw[(by assumption:Nd.k _=_)]at a4)
     go_wp2_with fail
     try
      go_at_call 233
      refine dG (Sq.node a) fun b a=>?_
      go_wp2_with fail
      refine(Sq.add (Sq.lit1 (Sq.box a)) (.inl ⟨rfl,rfl⟩) (.inr (.head _)) (by omega)).mono ?_
      rintro v b ⟨p,rfl,f,a⟩
      replace a:=Sq.tail a
     clear F bk a4 e)
  (try go_wp2_with fail)
  go_loopg [3] m (fun gk bl wr=>∃(k:Nat) (X:Fo) (r J:Int) (a7:List Mb),bl= .int .i64 r/\Hid (Je E (CX E 0) (CLx E) (E.tk i) gk X k R j/\Sq E am ad al wr k a7 X [r] [(a5.heap.size,205,Kv J (E.tk i))] []))
  case atStart=>exact⟨_,_,_,_,_,rfl,ak,a⟩
  case round=>
   clear a ak
   obtain⟨bf,an,r,J,bo,rfl,af⟩:=hrel
   obtain⟨ap,a⟩:=af.out
   clear af
   have e:=Sq.rd a
   have s:=Sq.ln a
   have bF:=ap.le
   go_wp2_with fail
   refine dG (Sq.node a) fun bn a=>?_
   go_wp2_with fail
   cases ap with
   |stop d h=>
    have ar:=iA h
    have bw:((E.tk j).k==48)=false:=by simp;omega
    have bv:((E.tk j).k==44)=false:=by simp;omega
    have bs:((E.tk j).k==40)=false:=by simp;omega
    refine dG (Sq.kind (Sq.lit1 (Sq.box a)) rfl) fun b a=>?_
    go_wp2_with fail
    go_ret
    exact⟨_,_,_,_,rfl,⟨_,rfl,rfl,rfl⟩,Sq.fin0 a⟩
   |@dot o _ _ _ _ d h x c=>
    have l:=aj c
    clear c
    refine dG (Sq.kind (Sq.lit1 (Sq.box a)) d) fun b a=>?_
    go_wp2_with fail
    refine dG (Sq.take a d) fun b a=>?_
    go_wp2_with fail
    refine dG (Sq.take a h) fun b a=>?_
    have e:=Sq.rd a
    go_wp2_with fail
    refine(Sq.add (Sq.box (Sq.set a)) (.inl ⟨rfl,rfl⟩) (.inr (.head _)) (by omega)).mono ?_
    rintro v b ⟨p,rfl,f,a⟩
    replace a:=Sq.tail (Sq.tail a)
    go_wp2_with fail
    go_roundg o
    case measure=>omega
    case rel=>exact⟨_,_,_,_,_,rfl,l,a⟩
   |@sq o _ a2 _ _ B _ d h x H ao c=>
    have l:=aj c
    have y:=c.le
    clear c
    rw[dq,Fo.sz_app]at y
    refine dG (Sq.kind (Sq.lit1 (Sq.box a)) d) fun b a=>?_
    go_wp2_with fail
    refine dG (Sq.take a d) fun b a=>?_
    go_wp2_with fail
    refine Sq.cq a x (by omega) ?_
    rintro b _ f _ _ ⟨p,rfl,rfl,rfl⟩ a
    have s:=Sq.ln a
    rw[Fo.sz_app]at s
    go_wp2_with fail
    refine dG (Sq.take a H) fun b a=>?_
    have e:=Sq.rd a
    go_wp2_with (at_builtin;refine Sq.apG tI (Sq.set a) (by simp) rfl rfl _ _ rfl rfl rfl (by simp[World.setCell]) ?_;intro w z b a;have e:=Sq.rd a)
    refine(Sq.add (Sq.set a) (.inl ⟨rfl,rfl⟩) (.inr (.head _)) (by omega)).mono ?_
    rintro v b ⟨p,rfl,f,a⟩
    replace a:=Sq.tail a
    go_wp2_with fail
    go_roundg o
    case measure=>omega
    case rel=>exact⟨_,_,_,_,_,rfl,l,a⟩
   |@call0 o _ _ _ _ d h x c=>
    have l:=aj c
    clear c
    refine dG (Sq.kind (Sq.lit1 (Sq.box a)) d) fun b a=>?_
    go_wp2_with fail
    refine dG (Sq.take a d) fun b a=>?_
    have e:=Sq.rd a
    go_wp2_with fail
    refine dG (Sq.kind (Sq.set a) h) fun b a=>?_
    go_wp2_with fail
    refine dG (Sq.take a h) fun b a=>?_
    have e:=Sq.rd a
    go_wp2_with fail
    refine(Sq.add a (.inl ⟨rfl,rfl⟩) (.inr (.head _)) (by omega)).mono ?_
    rintro v b ⟨p,rfl,f,a⟩
    replace a:=Sq.tail a
    go_wp2_with fail
    go_roundg o
    case measure=>omega
    case rel=>exact⟨_,_,_,_,_,rfl,l,a⟩
   |@call o _ a2 _ _ B _ d h x H ao bx c=>
    have bt:((E.tk (bf+1)).k !=41)=true:=by simp[x]
    have l:=aj c
    have y:=c.le
    clear c
    rw[dq,Fo.sz_app]at y
    refine dG (Sq.kind (Sq.lit1 (Sq.box a)) d) fun b a=>?_
    go_wp2_with fail
    refine dG (Sq.take a d) fun b a=>?_
    have e:=Sq.rd a
    go_wp2_with fail
    refine dG (Sq.kind (Sq.set a) rfl) fun b a=>?_
    go_wp2_with fail
    refine Sq.cq a H (by omega) ?_
    rintro b _ f g _ ⟨a8,F,rfl,rfl⟩ a
    have s:=Sq.ln a
    rw[Fo.sz_app]at s
    have a1:=congrArg List.length a.tp
    have bd:=Fo.len_le (an.app B)
    rw[Fo.tops_len,aD]at a1
    rw[Fo.sz_app]at bd
    obtain⟨t,a9⟩:=aE g.length
    rw[a9]at a a1⊢
    go_wp2_with fail
    go_loopw [95] (fun K wr=>∃(q G:Nat) (C:Option Addr),q<=t/\K= .int .i64 q/\Hid (Sq E am ad al wr a2 f (an.app B) ([r]++g) [(bn.heap.size,50,ndA 34 0 0 ⟨#[]⟩ (E.tk i) s0 (.slice C (q+1) G)),(a5.heap.size,205,Kv J (E.tk i))] [(3,.slice C (q+1) G,iv r::(g.take q).map iv),(3,.slice a8 t F,g.map iv)])) (fun K _=>t-(intOf K).toNat)
    case atStart=>exact⟨0,1,_,aJ _,rfl,Sq.swap a⟩
    case round=>
     clear a
     obtain⟨q,G,C,b1,rfl,a⟩:=hrel
     by_cases b0:q<t
     ·obtain⟨L,a0⟩:∃L,g[q]?=some L:=⟨g[q]'(by omega),aF _⟩
      obtain⟨w,rfl,br⟩:=Sq.at2 a a0
      have bb:(0:Int)<=(q:Int):=by omega
      have bc:(q:Int)<(t:Int):=by omega
      have e:=Sq.rd a
      go_wp2_with (at_builtin;refine Sq.apG tI a (by omega) rfl rfl _ _ rfl rfl rfl rfl ?_;intro w z b a;have e:=Sq.rd a)
      have a6:Hid (iv r::(g.take q).map iv++[Value.int .i64 L]=iv r::(g.take (q+1)).map iv):=by show _=_;rw[gv,a0,dm];rfl
      replace a:=Sq.set (q:=8) (u:= .slice (some ⟨w,0,none⟩) (q+1+1) z) a
      rw[a6.out]at a
      exact⟨⟨q+1,z,some ⟨w,0,none⟩,by omega,by go_num,a⟩,by simp[intOf];omega⟩
     ·obtain rfl:q=t:=by omega
      rw[show g.take q=g from bH (by omega)]at a
      replace a:=Sq.less a (show List.Sublist [_] [_,_] from .cons_cons _ (.cons _ .slnil))
      go_wp2_with fail
      refine dG (Sq.take a ao) fun b a=>?_
      have e:=Sq.rd a
      go_wp2_with fail
      refine(Sq.add a (.inl ⟨rfl,rfl⟩) (.inr (.head _)) (by omega)).mono ?_
      rintro v b ⟨p,rfl,f,a⟩
      replace a:=Sq.tail a
      go_wp2_with fail
      go_roundg o
      case measure=>omega
      case rel=>exact⟨_,_,_,_,_,rfl,l,a⟩
end
inductive Ls (E:Pe) (C:Nat->Fo->Nat->Prop):Nat->Nat->Fo->Nat->Prop where
 |stop {k:Nat}:(E.tk k).k≠46->k<E.n->Ls E C 0 k .nil k
 |go {m k k1 j:Nat}{x R:Fo}:(E.tk k).k=46->k<E.n->C (k+1) x k1->Ls E C m k1 R j->Ls E C (m+1) k (x.app R) j
inductive Ss (E:Pe) (C:Nat->Fo->Nat->Prop):Nat->Nat->Fo->Nat->Prop where
 |stop {k:Nat}:k<E.n->Ss E C 0 k .nil k
 |sep {m k j:Nat}{R:Fo}:(E.tk k).k=5->k<E.n->Ss E C m (k+1) R j->Ss E C (m+1) k R j
 |go {m k k1 j:Nat}{x R:Fo}:(E.tk k).k≠5->(E.tk k).k≠6->(E.tk k).k≠43->k<E.n->C k x k1->Ss E C m k1 R j->Ss E C (m+1) k (x.app R) j
inductive Es (E:Pe) (C:Nat->Fo->Nat->Prop):Nat->Nat->Fo->Nat->Prop where
 |stop {k:Nat}:(E.tk k).k=43->k<E.n->Es E C 0 k .nil k
 |com {m k k1 j:Nat}{x R:Fo}:(E.tk k).k≠43->k<E.n->C k x k1->(E.tk k1).k=46->k1<E.n->Es E C m (k1+1) R j->Es E C (m+1) k (x.app R) j
 |last {m k k1 j:Nat}{x R:Fo}:(E.tk k).k≠43->k<E.n->C k x k1->(E.tk k1).k≠46->k1<E.n->Es E C m k1 R j->Es E C (m+1) k (x.app R) j
theorem szL{a b c:Fo}{n m:Nat}(e:a.app b=c)(d:n+c.sz<=m):n+(a.sz+b.sz)<=m:=by rw[<-e,Fo.sz_app]at d;exact d
theorem Sq.six{E:Pe}{W w:World}{c:Option Nat}{L d:List Mb}{i b:Nat}{D:Fo}{l:List Int}{a:Bxs}{R:Rws}{t:TypeId}{m n o p q r:Value}(S:Hid (Sq E W c L w i d D l ((b,t,#[m,n,o,p,q,r])::a) R))(e f g h j v5:Value):∃k,((((((w.setCell ⟨b,0,none⟩ e).setCell ⟨b,1,none⟩ f).setCell ⟨b,2,none⟩ g).setCell ⟨b,3,none⟩ h).setCell ⟨b,4,none⟩ j).setCell ⟨b,5,none⟩ v5)=k/\Hid (Sq E W c L k i d D l ((b,t,#[e,f,g,h,j,v5])::a) R):=⟨_,rfl,Sq.set (Sq.set (Sq.set (Sq.set (Sq.set (Sq.set S)))))⟩
section
variable {E : Pe} {i j : Nat}
theorem ae5{x R:Fo}{k m:Nat}(L:CX E 0 i x k)(v:Ls E (CX E 0) m k R j):CLx E i (x.app R) j:=by
 intro G y B s u
 have a:=aj s
 have A:=aj v
 clear s v
 go_in
 go_wp2_with fail
 refine Sq.cq a L (by rw[Fo.sz_app]at u;omega) ?_
 rintro e _ q _ _ ⟨f,rfl,rfl,rfl⟩ a
 go_wp2_with fail
 go_loopg [3,4] m (fun gk am al wr=>∃(k:Nat) (D g:Fo) (w:Int) (b:Option Addr) (d c:Nat) (C:List Mb) (o:List Int),am= .int .i64 w/\al= .slice b d c/\Hid (Ls E (CX E 0) gk k g j/\Sq E G y B wr k C D o [] [(3,.slice b d c,o.map iv)]/\D.app g=x.app R))
 case atStart=>exact⟨k,_,R,f,_,1,1,_,_,rfl,rfl,A,Sq.lit (xs:=[iv f]) a,rfl⟩
 case round=>
  clear a
  obtain⟨ao,D,g,w,b,d,c,q,o,rfl,rfl,p⟩:=hrel
  obtain⟨J,a,n⟩:=p.out
  have ad:=szL n u
  have t:=aj n
  clear n p
  cases J with
  |stop h l=>
   go_wp2_with fail
   refine dG (Sq.isN a h l) fun e a=>?_
   go_wp2_with fail
   go_ret
   rw[<-t.out,Fo.app_nil]
   exact⟨.slice b d c,_,_,_,rfl,⟨b,c,by rw[<-Sq.rn a,aI],rfl⟩,a⟩
  |@go ak _ af _ ap F h l I r=>
   rw[Fo.sz_app]at ad
   have z:=aj r
   clear r
   go_wp2_with fail
   refine dG (Sq.isY a h l) fun e a=>?_
   go_wp2_with fail
   refine Sq.cq a I (by have:=Sq.ln a;omega) ?_
   rintro e _ q _ _ ⟨f,rfl,rfl,rfl⟩ a
   have K:=Sq.ln a
   rw[Fo.sz_app]at K
   go_wp2_with (at_builtin;refine Sq.app a (by omega) rfl _ _ rfl rfl rfl rfl ?_;intro an H e a)
   go_roundg ak
   case measure=>omega
   case rel=>exact⟨af,_,F,f,_,d+1,H,_,_,rfl,rfl,z,a,by rw[Fo.app_app];exact t⟩
theorem Jf{R:Fo}{m:Nat}{u:Int}(y:u=43\/u=6)(af:(E.tk j).k=u)(x:Ss E (CI E 201 #[pV E]) m i R j):CL E 162 #[pV E,.int .i64 u] i R j:=by
 intro H A t w ak
 have a:=aj w
 have B:=aj x
 clear w x
 go_in
 go_wp2_with fail
 go_loopg [5,6] m (fun gk ao ar wr=>∃(k:Nat) (D h:Fo) (c:Option Addr) (e d:Nat) (C:List Mb) (n:List Int),ao= .slice c e d/\Hid (Ss E (CI E 201 #[pV E]) gk k h j/\Sq E H A t wr k C D n [] [(3,.slice c e d,n.map iv)]/\D.app h=R))
 case atStart=>exact⟨i,.nil,R,none,0,0,t,[],rfl,B,Sq.nil a,rfl⟩
 case round=>
  clear a
  obtain⟨z,D,h,c,e,d,F,n,rfl,s⟩:=hrel
  obtain⟨ad,a,p⟩:=s.out
  have am:=szL p ak
  have q:=aj p
  clear p s
  cases ad with
  |stop b=>
   have v:(u !=u)=false:=by simp
   go_wp2_with fail
   refine dG (Sq.kind a af b) fun f a=>?_
   go_wp2_with fail
   go_ret
   rw[<-q.out,Fo.app_nil]
   exact⟨.slice c e d,_,_,_,rfl,⟨c,d,by rw[<-Sq.rn a,aI],rfl⟩,a⟩
  |@sep r _ _ _ l b g=>
   have o:=aj g
   clear g
   have v:((5:Int)!=u)=true:=by rcases y with rfl|rfl<;>rfl
   go_wp2_with fail
   refine dG (Sq.kind a l b) fun f a=>?_
   go_wp2_with fail
   refine dG (Sq.isY a l b) fun f a=>?_
   go_wp2_with fail
   go_roundg r
   case measure=>omega
   case rel=>exact⟨z+1,D,h,c,e,d,_,n,rfl,o,a,q⟩
  |@go r _ an _ a0 G l J K b L g=>
   rw[Fo.sz_app]at am
   have o:=aj g
   clear g
   have v:((E.tk z).k !=u)=true:=by rcases y with rfl|rfl<;>simp[J,K]
   go_wp2_with fail
   refine dG (Sq.kind a rfl b) fun f a=>?_
   go_wp2_with fail
   refine dG (Sq.isN a l b) fun f a=>?_
   go_wp2_with fail
   refine Sq.cq a L (by have:=Sq.ln a;omega) ?_
   rintro f _ F _ _ ⟨a1,rfl,rfl,rfl⟩ a
   have al:=Sq.ln a
   rw[Fo.sz_app]at al
   go_wp2_with (at_builtin;refine Sq.app a (by omega) rfl _ _ rfl rfl rfl rfl ?_;intro ap I f a)
   go_roundg r
   case measure=>omega
   case rel=>exact⟨an,_,G,_,e+1,I,_,_,rfl,o,a,by rw[Fo.app_app];exact q⟩
theorem rt{c:List ByteArray}(K:(E.tk i).k=1)(al:i<E.n)(w:Fx E.tk E.n (i+1) c j):CM E i ((E.tk i).x::c) j:=by
 intro F A p s am
 have a:=aj s
 have C:=aj w
 have an:=a.lo.2.2.2
 clear s w
 go_in
 go_wp2_with fail
 refine dG (Sq.take a K) fun g a=>?_
 have a:=Sq.lit1 (xs:=[.string (E.tk i).x]) (t:=9) (Sq.box (cs:=Kv 1 (E.tk i)) (t:=205) a)
 go_wp2_with fail
 go_loopg [4] c.length (fun gk ad wr=>∃(k:Nat) (D h:List ByteArray) (d:Option Addr) (n e z:Nat),ad= .slice d n e/\gk=h.length/\Hid (Fx E.tk E.n k h j/\Sq E F A p wr k p .nil [] [(g.heap.size,205,Kv 1 (E.tk z))] [(9,.slice d n e,D.map Value.string)]/\D++h=(E.tk i).x::c/\i+2*D.length=k+1))
 case atStart=>exact⟨i+1,[(E.tk i).x],c,_,1,1,i,rfl,rfl,C,a,rfl,by simp⟩
 case round=>
  clear a
  obtain⟨b,D,h,d,n,e,z,rfl,J,o⟩:=hrel
  obtain⟨I,a,u,ak⟩:=o.out
  have v:=aj u
  clear u o
  cases I with
  |stop m q=>
   go_wp2_with fail
   refine dG (Sq.isN a m q) fun g a=>?_
   go_wp2_with fail
   go_ret
   obtain rfl:D=(E.tk i).x::c:=by simpa using v.out
   exact⟨.slice d n e,_,_,_,rfl,⟨d,e,by rw[<-Sq.rn a,aI];rfl,rfl,rfl⟩,Sq.fin a⟩
  |@go _ _ y m q H r=>
   have B:=aj r
   have L:n<=50000000:=by have:=Sq.rn a;rw[aI]at this;omega
   clear r
   go_wp2_with fail
   refine dG (Sq.isY a m (by omega)) fun g a=>?_
   go_wp2_with fail
   refine dG (Sq.take a H) fun g a=>?_
   have ar:=Sq.rd a
   obtain⟨ap,ao,a⟩:=Sq.six a (iv 1) (iv (E.tk (b+1)).f) (iv (E.tk (b+1)).t) (iv (E.tk (b+1)).l) (iv (E.tk (b+1)).n) (.string (E.tk (b+1)).x)
   have a0:=Sq.rd a
   go_wp2_with (at_builtin;refine Sq.apG tS a L rfl rfl _ _ rfl rfl rfl rfl ?_;intro af G g a)
   go_roundg y.length
   case measure=>simp at J;omega
   case rel=>exact⟨b+2,D++[(E.tk (b+1)).x],y,_,n+1,G,b+1,rfl,rfl,B,by rw[dm];exact a,by rw[cG];exact v,by simp;omega⟩
theorem acu{Ex:Fo}{m:Nat}(l:(E.tk i).k=42)(a1:i<E.n)(y:Es E (CI E 273 #[pV E]) m (i+1) Ex j)(x:(E.tk j).k=43)(a2:j+1<E.n):CU E i (one (kD 35 (E.tk i) (E.tk j).t) Ex) (j+1):=by
 intro H A d v ad
 have a:=aj v
 have C:=aj y
 clear v y
 go_in
 go_wp2_with fail
 refine dG (Sq.kind a l) fun c a=>?_
 go_wp2_with fail
 refine dG (Sq.kind a l) fun c a=>?_
 go_wp2_with fail
 refine dG (Sq.take a l) fun c a=>?_
 go_wp2_with fail
 refine dj (ahc (b:=false) (by decide) _) ?_
 go_wp2_with fail
 refine dG (Sq.node (Sq.box a)) fun c a=>?_
 go_wp2_with fail
 rw[dq]at ad
 go_loopg [10] m (fun gk a4 wr=>∃(k:Nat) (D e:Fo) (f:Option Addr) (n g:Nat) (F:List Mb) (o:List Int),Hid (Es E (CI E 273 #[pV E]) gk k e j/\Sq E H A d wr k F D o [(c.heap.size,50,ndA 35 0 0 ⟨#[]⟩ (E.tk i) s0 (.slice f n g))] [(3,.slice f n g,o.map iv)]/\D.app e=Ex))
 case atStart=>exact⟨i+1,.nil,Ex,none,0,0,d,[],C,Sq.nil (Sq.drop1 (Sq.box a)),rfl⟩
 case round=>
  clear a
  obtain⟨al,D,e,f,n,g,q,o,p⟩:=hrel
  obtain⟨L,a,h⟩:=p.out
  have ak:=szL h (show d.length+Ex.sz<=49999999 by omega)
  have w:=aj h
  clear h p
  cases L
  case stop r J=>
   go_wp2_with fail
   refine dG (Sq.kind a x) fun c a=>?_
   go_wp2_with fail
   refine dG (Sq.take a x) fun c a=>?_
   have z:=Sq.rd a
   go_wp2_with fail
   refine(Sq.add a (.inl ⟨rfl,rfl⟩) (.inr (.head _)) (by have:=Sq.ln a;omega)).mono ?_
   rintro ao c ⟨an,rfl,q,a⟩
   go_wp2_with fail
   go_ret
   obtain rfl:D=Ex:=by rw[<-w.out,Fo.app_nil]
   exact⟨_,_,_,_,rfl,⟨_,rfl,rfl,rfl⟩,Sq.fin a⟩
  all_goals
   rename_i am a3 a5 G s ar _ r J K u
   rw[Fo.sz_app]at ak
   have B:=aj u
   clear u
   have a0:((E.tk al).k !=43)=true:=by simp[r]
   go_wp2_with fail
   refine dG (Sq.kind a rfl) fun c a=>?_
   go_wp2_with fail
   refine Sq.cq a K (by have:=Sq.ln a;omega) ?_
   rintro c _ q _ _ ⟨an,rfl,rfl,rfl⟩ a
   have af:=Sq.ln a
   rw[Fo.sz_app]at af
   have z:=Sq.rd a
   go_wp2_with (at_builtin;refine Sq.app a (by omega) rfl _ _ rfl rfl rfl rfl ?_;intro ap I c a;have z:=Sq.rd a)
   first
    |refine dG (Sq.isY (Sq.set a) s) fun c a=>?_
    |refine dG (Sq.isN (Sq.set a) s) fun c a=>?_
   go_wp2_with fail
   go_roundg am
   case measure=>omega
   case rel=>exact⟨_,_,G,_,n+1,I,_,_,B,a,by rw[Fo.app_app];exact w⟩
end
def Sm(E:Pe)(i:Nat)(x:Fo)(k:Nat)(X:Fo)(j:Nat):Prop:=((E.tk k).k≠46/\(E.tk k).k≠47/\k<E.n/\j=k/\X=one (kD 6 (E.tk i) (E.tk (k-1)).t) x)\/
 ∃R Ex a b,((E.tk k).k=46\/(E.tk k).k=47)/\Ls E (CB E) b k R a/\(E.tk a).k=47/\a<E.n/\CLx E (a+1) Ex j/\k<E.n/\j<=E.n/\X=one (nd 5 (E.tk i) (E.tk (j-1)).t 0 ((x.app R).len:Nat) z0 []) ((x.app R).app Ex)
section
variable {W V w : World}
theorem bdN(w:World)(n:Nat):Below w.heap.size w (w.drewN n):=⟨rfl,rfl,rfl,ah _,fun _ _=>rfl⟩
theorem Jg(a:Below W.heap.size W V)(k:Below V.heap.size V w):Below W.heap.size W w:=a.trans (k.mono a.size)
end
section
variable {E : Pe} {i j k : Nat}
theorem Ff{q:Int}{x X:Fo}(cr:q=1\/q=40)(cu:(E.tk i).k=q)(b8:i<E.n)(ce:CB E i x k)(bl:Sm E i x k X j)(ct:i+1<=j):CI E 231 #[pV E] i X j:=by
 intro e L H B bc
 have S:=aj B
 have b4:(E.tk i).k≠6:=by omega
 have an:=fun F (ap:Below e.heap.size e F)=>(Sq.below S ap).cells
 have t:=fun F (ap:Below e.heap.size e F)=>(Sq.below S ap).tkw b8 b4
 unfold TkW at t
 have cB:=S.lo
 have ad:=aj bl
 clear B bl
 have a0:(i:Int)<(E.n:Int):=by omega
 have ar:(0:Int)<=(i:Int):=by omega
 have a1:IntKind.i64.wrap (i:Int)=(i:Int):=by rw[bm];omega
 go_in
 go_wp2_with fail
 refine wp_region_held_drew (S:=fun F=>Below e.heap.size e F) (by kernel_rfl) (aq (ag _ _)) (fun a=>?_)
 simp only[gG,co,dB,Nat.reduceAdd,je,jf,jg,er,fl]
 refine cj 0 (.pointer (some ⟨E.pb,0,none⟩)) rfl rfl (by kernel_rfl) (fun _ _ _=>id) a (fun p o=>by go_simp) ?_
 simp only[List.set]
 refine cj 1 (.pointer (some ⟨E.pb,0,none⟩)) rfl rfl (by kernel_rfl) (fun _ _ _=>id) a (fun p o=>by go_simp) ?_
 simp only[List.set]
 refine cj 2 (.pointer (some ⟨E.pb,0,none⟩)) rfl rfl (by kernel_rfl) (fun _ _ _=>id) a (fun p o=>by go_simp) ?_
 simp only[List.set]
 refine cj 3 (.slice (some ⟨E.tb,0,none⟩) E.n E.cap) rfl rfl (by kernel_rfl) (fun _ _ _=>id) a (fun p o=>by go_simp) ?_
 simp only[List.set]
 refine cj 4 (.pointer (some ⟨E.pb,0,none⟩)) rfl rfl (by kernel_rfl) (fun _ _ _=>id) a (fun p o=>by go_simp) ?_
 simp only[List.set]
 refine cj 5 (.pointer (some ⟨E.pb,0,none⟩)) rfl rfl (by kernel_rfl) (fun _ _ _=>id) a (fun p o=>by go_simp) ?_
 simp only[List.set]
 refine cj 6 (.pointer (some ⟨E.pb,1,none⟩)) rfl rfl (by kernel_rfl) (fun _ _ _=>id) a (fun p o=>by go_simp) ?_
 simp only[List.set]
 refine cj 7 (.int .i64 (i:Int)) rfl rfl (by kernel_rfl) (fun _ _ _=>id) a (fun p o=>by go_simp) ?_
 simp only[List.set]
 refine cj 8 (.pointer (some ⟨E.tb,i*6,none⟩)) rfl rfl (by kernel_rfl) (fun _ _ _=>id) a (fun p o=>by go_simp) ?_
 simp only[List.set]
 refine cj 9 (.agg (Kv (E.tk i).k (E.tk i))) rfl rfl (by kernel_rfl) (fun _ _ _=>id) a (fun p o=>by go_simp) ?_
 simp only[List.set]
 refine wpAnyH_ready (rs:=[10,11]) (by kernel_rfl) (by simp) (AllReadyH.cons rfl (fun g b=>?_) (AllReadyH.cons rfl (fun g b=>?_) AllReadyH.nil))
 case' refine_1=>
  go_simp
  refine dG (xz _ _ (E.tk i) _) fun a3 A=>?_
  have l:=Jg (aq (ag _ _)) A
  have z:=Sq.box (cs:=ndA 5 0 0 ⟨#[]⟩ (E.tk i) s0 s0) (t:=50) (Sq.below S l)
  refine b.out _ _ l (fun a=>?_)
  clear b g
  try simp only[aB,aA,aC]
  refine wpAnyH_ready (rs:=[11]) (by kernel_rfl) (by simp) (AllReadyH.cons rfl (fun g b=>?_) AllReadyH.nil)
  go_simp
  refine b.out _ _ (Jg l (dh _ _)) (fun a=>?_)
  clear b g
  try simp only[aB,aA,aC]
  refine wpAnyH_ready (rs:=[12]) (by kernel_rfl) (by simp) (AllReadyH.cons rfl (fun g b=>?_) AllReadyH.nil)
  go_simp
  refine b.out _ _ (Jg l (dh _ _)) (fun a=>?_)
  clear b g
  refine wpAnyH_done (by kernel_rfl) ?_ _
  clear A a l
  generalize a3.alloc _=cl at z⊢
  generalize a3.heap.size=am at z⊢
 case' refine_2=>
  go_simp
  have a7:=Sq.below (Sq.box (cs:=#[.int .i64 0,.int .i64 0,.int .i64 0,.int .i64 0,.int .i64 0,.int .i64 0,.string ⟨#[]⟩,s0,s0]) (t:=50) S) (aq (ag _ _))
  refine b.out _ _ (aq (dh _ _)) (fun a=>?_)
  clear b g
  try simp only[aB,aA,aC]
  refine wpAnyH_ready (rs:=[10]) (by kernel_rfl) (by simp) (AllReadyH.cons rfl (fun g b=>?_) AllReadyH.nil)
  go_simp
  refine dG (xz _ _ (E.tk i) _) fun a3 A=>?_
  have l:=Jg (aq (dh e _)) A
  have al:=Sq.below a7 A
  refine b.out _ _ l (fun a=>?_)
  clear b g a7 A
  try simp only[aB,aA,aC]
  have r:=Sq.rd al
  refine wpAnyH_ready (rs:=[12]) (by kernel_rfl) (by simp) (AllReadyH.cons rfl (fun g b=>?_) AllReadyH.nil)
  go_simp
  have z:Hid (Sq E e L H _ i H .nil [] [(e.heap.size,50,ndA 5 0 0 ⟨#[]⟩ (E.tk i) s0 s0)] []):=Sq.set (q:=8) (u:=s0) (Sq.set (q:=7) (u:=s0) (Sq.set (q:=6) (u:= .string ⟨#[]⟩) (Sq.set (q:=5) (u:= .int .i64 0) (Sq.set (q:=4) (u:= .int .i64 0) (Sq.set (q:=3) (u:= .int .i64 (E.tk i).l) (Sq.set (q:=2) (u:= .int .i64 0) (Sq.set (q:=1) (u:= .int .i64 (E.tk i).f) (Sq.set (q:=0) (u:= .int .i64 5) al))))))))
  have d:=ah e.heap.size
  refine b.out _ _ (((((((((l.setCell d _).setCell d _).setCell d _).setCell d _).setCell d _).setCell d _).setCell d _).setCell d _).setCell d _) (fun a=>?_)
  clear b g
  refine wpAnyH_done (by kernel_rfl) ?_ _
  clear a l r d al
  generalize World.setCell _ _ _=cl at z⊢
  generalize e.heap.size=am at z⊢
 all_goals
  clear an t a0 ar a1 S
  go_wp2_with fail
  have bf:x.sz<=X.sz/\k<E.n:=by
   rcases ad.out with⟨_,_,B,_,rfl⟩|⟨w,Ex,br,m,_,_,_,_,_,B,_,rfl⟩
   ·exact⟨by rw[dq];omega,B⟩
   ·exact⟨by rw[dq,Fo.sz_app,Fo.sz_app];omega,B⟩
  refine Sq.cq z ce (by omega) ?_
  rintro c _ af _ _ ⟨d,rfl,rfl,rfl⟩ S
  have K:=Sq.ln S
  rw[show(Fo.nil.app x)=x from rfl]at K
  have an:=S.cells
  obtain⟨c7,cz,t⟩:=S.tok bf.2
  have a0:(k:Int)<(E.n:Int):=by omega
  have ar:(0:Int)<=(k:Int):=by omega
  have a1:IntKind.i64.wrap (k:Int)=(k:Int):=by rw[bm];omega
  go_wp2_with fail
  rcases ad.out with⟨b2,J,b9,rfl,rfl⟩|⟨w,Ex,br,m,hkk,bk,J,cw,b7,cy,b9,rfl⟩
  ·have c8:((E.tk j).k !=46)=true:=by simp[b2]
   have c9:((E.tk j).k !=47)=true:=by simp[J]
   rw[dq]at bc
   go_quiet (fail)
   replace S:=Sq.below S (bdN c nq)
   generalize c.drewN nq=c at S⊢
   have r:=Sq.rd S
   go_wp2_with fail
   refine(Sq.add (Sq.litm (m:=c.heap.size) (Sq.set (Sq.set S)) (by simp[World.setCell])) (.inl ⟨rfl,rfl⟩) (.inr (.head _)) (by omega)).mono ?_
   rintro bF c ⟨d,rfl,af,S⟩
   go_wp2_with fail
   go_ret
   exact⟨_,_,_,_,rfl,⟨_,rfl,rfl,rfl⟩,Sq.fin S⟩
  simp only[dq,Fo.sz_app]at bc bf
  have a6:=aj bk
  clear bk ad
  rcases hkk with hkk|hkk
  all_goals
   rw[hkk]at t
   go_quiet (fail)
   replace S:=Sq.below S (bdN c nq)
   generalize c.drewN nq=c at S⊢
   have r:=Sq.rd S
   clear t an a0 ar a1
   go_wp2_with fail
   go_loopg [4] m (fun gk ck wr=>∃(k:Nat) (D ak:Fo) (bs:Int) (s:Option Addr) (n v:Nat) (bw:List Mb) (y:List Int),ck= .int .i64 bs/\Hid (Ls E (CB E) gk k ak br/\Sq E e L H wr k bw D y [(am,50,ndA 5 0 (n:Int) ⟨#[]⟩ (E.tk i) s0 (.slice s n v))] [(3,.slice s n v,y.map iv)]/\D.app ak=x.app w))
   case atStart=>exact⟨k,x,w,d,_,1,1,_,_,rfl,a6,Sq.litm (m:=c.heap.size) (xs:=[iv d]) (Sq.set (Sq.set S)) (by simp[World.setCell]),rfl⟩
   case round=>
    clear S a6 r
    obtain⟨c6,D,ak,bs,s,n,v,cn,y,rfl,a4⟩:=hrel
    obtain⟨b1,S,ao⟩:=a4.out
    have bo:=congrArg Fo.sz ao
    have bb:=aj ao
    rw[Fo.sz_app,Fo.sz_app]at bo
    clear ao a4
    have K:=Sq.ln S
    have cc:=Sq.rn S
    rw[aI]at cc
    have cd:=congrArg List.length S.tp
    rw[Fo.tops_len]at cd
    have c0:=D.len_le
    cases b1 with
    |stop a8 a9=>
     obtain rfl:D=x.app w:=by rw[<-bb.out,Fo.app_nil]
     go_wp2_with fail
     refine dG (Sq.isN S (by rw[J];decide)) fun c S=>?_
     go_wp2_with fail
     refine dG (Sq.take S J) fun c S=>?_
     go_wp2_with fail
     refine Sq.cq S b7 (by omega) ?_
     rintro c _ bx h _ ⟨bD,bE,rfl,rfl⟩ S
     have cb:=Sq.ln S
     rw[Fo.sz_app]at cb
     have bd:=congrArg List.length S.tp
     have ca:=Fo.len_le ((x.app w).app Ex)
     rw[Fo.tops_len,aD]at bd
     rw[Fo.sz_app]at ca
     obtain⟨C,b3⟩:=aE h.length
     rw[b3]at S bd⊢
     go_wp2_with fail
     go_loopw [76] (fun a2 wr=>∃(q v:Nat) (s:Option Addr),q<=C/\a2= .int .i64 q/\Hid (Sq E e L H wr j bx ((x.app w).app Ex) (y++h) [(am,50,ndA 5 0 (n:Int) ⟨#[]⟩ (E.tk i) s0 (.slice s (n+q) v))] [(3,.slice s (n+q) v,y.map iv++(h.take q).map iv),(3,.slice bD C bE,h.map iv)])) (fun a2 _=>C-(intOf a2).toNat)
     case atStart=>exact⟨0,v,s,aJ _,rfl,by rw[Bp,List.map_nil,dA];exact Sq.swap S⟩
     case round=>
      clear S
      obtain⟨q,v,s,c1,rfl,S⟩:=hrel
      by_cases cI:q<C
      ·obtain⟨cm,bn⟩:∃x,h[q]?=some x:=⟨h[q]'(by omega),aF _⟩
       obtain⟨G,rfl,cp⟩:=Sq.at2 S bn
       have c2:(0:Int)<=(q:Int):=by omega
       have c3:(q:Int)<(C:Int):=by omega
       have r:=Sq.rd S
       go_wp2_with (at_builtin;refine Sq.apG tI S (by omega) rfl rfl _ _ rfl rfl rfl rfl ?_;intro G I c S;have r:=Sq.rd S)
       have bv:Hid (y.map iv++(h.take q).map iv++[Value.int .i64 cm]=y.map iv++(h.take (q+1)).map iv):=by show _=_;rw[gv,bn,dm,cG];rfl
       replace S:=Sq.set (q:=8) (u:= .slice (some ⟨G,0,none⟩) (n+q+1) I) S
       rw[bv.out]at S
       exact⟨⟨q+1,I,some ⟨G,0,none⟩,by omega,by go_num,S⟩,by simp[intOf];omega⟩
      ·obtain rfl:q=C:=by omega
       rw[show h.take q=h from bH (by omega),<-dm]at S
       replace S:=Sq.less S (show List.Sublist [_] [_,_] from .cons_cons _ (.cons _ .slnil))
       have r:=Sq.rd S
       go_wp2_with fail
       refine(Sq.add S (.inl ⟨rfl,rfl⟩) (.inr (.head _)) (by omega)).mono ?_
       rintro bF c ⟨d,rfl,af,S⟩
       go_wp2_with fail
       go_ret
       rw[show n=(x.app w).len by omega]at S
       exact⟨_,_,_,_,rfl,⟨_,rfl,rfl,rfl⟩,Sq.fin S⟩
    |@go cg _ cf _ dd bA a8 a9 b0 ba=>
     have bt:=aj ba
     clear ba
     rw[Fo.sz_app]at bo
     have c4:IntKind.i64.wrap ((n:Int)+1)=(n:Int)+1:=by rw[bm];omega
     go_wp2_with fail
     refine dG (Sq.isY S a8 a9) fun c S=>?_
     go_wp2_with fail
     refine Sq.cq S b0 (by omega) ?_
     rintro c _ af _ _ ⟨d,rfl,rfl,rfl⟩ S
     have K:=Sq.ln S
     rw[Fo.sz_app]at K
     have r:=Sq.rd S
     go_wp2_with (at_builtin;refine Sq.app S (by omega) rfl _ _ rfl rfl rfl rfl ?_;intro G I c S;have r:=Sq.rd S)
     go_roundg cg
     case measure=>omega
     case rel=>exact⟨cf,_,bA,d,some ⟨G,0,none⟩,n+1,I,_,_,rfl,bt,by rw[show((n+1:Nat):Int)=(n:Int)+1 by omega];exact Sq.set (Sq.set S),by rw[Fo.app_app];exact bb⟩
end
inductive Enp (E:Pe) (i:Nat):Fo->Nat->Prop
 |item {x:Fo}{j:Nat}:(E.tk i).k≠48->(E.tk i).k≠44->CX E 0 i x j->1<=j->j<=E.n->Enp E i (one (kD 40 (E.tk i) (E.tk (j-1)).t) x) j
 |named {x:Fo}{j:Nat}:Hid ((E.tk i).k=48)->(E.tk (i+1)).k=1->(E.tk (i+2)).k=47->i+2<E.n->CX E 0 (i+3) x j->1<=j->j<=E.n->Enp E i (one (nd 42 (E.tk i) (E.tk (j-1)).t 0 0 (E.tk (i+1)).x []) x) j
 |pair {x y:Fo}{k j:Nat}:Hid ((E.tk i).k=44)->CX E 0 (i+1) x k->(E.tk k).k=45->(E.tk (k+1)).k=47->k+1<E.n->CX E 0 (k+2) y j->1<=j->j<=E.n->Enp E i (one (kD 41 (E.tk i) (E.tk (j-1)).t) (x.app y)) j
theorem ai7{W:World}{o:Obj}(k j:Nat)(a:k<W.heap.size):(W.alloc o).cell? ⟨k,j,none⟩=W.cell? ⟨k,j,none⟩:=World.cell?_alloc_past _ _ _ a
section
variable {E : Pe} {i j : Nat}
theorem Di{X:Fo}(r:(E.tk i).k≠6)(w:i<E.n)(v:Enp E i X j):CI E 273 #[pV E] i X j:=by
 intro o B C q m
 have a:=aj q
 have u:=a.cells
 have t:=a.tkw w r
 unfold TkW at t
 have H:=a.lo
 clear q
 have y:(i:Int)<(E.n:Int):=by omega
 have x:(0:Int)<=(i:Int):=by omega
 have z:IntKind.i64.wrap (i:Int)=(i:Int):=by rw[bm];omega
 go_in
 go_wp2_with fail
 go_region_held3 (fun A=>∀k j,k<o.heap.size->A.cell? ⟨k,j,none⟩=o.cell? ⟨k,j,none⟩) (first|exact ai7|exact fun _ _ _=>rfl) (fail)
 replace a:=Sq.below (Sq.box (cs:=Kv (E.tk i).k (E.tk i)) (t:=205) a) (aq (ag _ _))
 generalize World.drew _=b at a⊢
 have c:=Sq.rd a
 clear u t y x z
 go_wp2_with fail
 refine dG (Sq.node a) fun b a=>?_
 replace a:=Sq.box (cs:=ndA 40 0 0 ⟨#[]⟩ (E.tk i) s0 s0) (t:=50) a
 go_wp2_with fail
 cases v
 case item=>
  rw[dq]at m
  refine dG (Sq.isN a (by assumption)) fun b a=>?_
  go_wp2_with fail
  refine dG (Sq.isN a (by assumption)) fun b a=>?_
  go_wp2_with fail
  refine Sq.cq a (by assumption) (by omega) ?_
  rintro b _ e _ _ ⟨f,rfl,rfl,rfl⟩ a
  have d:=Sq.ln a
  simp only[Fo.sz_app,Fo.sz]at d
  have c:=Sq.rd a
  go_wp2_with (at_builtin;refine Sq.apG tI (Sq.nil a) (by simp) rfl rfl _ _ rfl rfl rfl rfl ?_;intro l h b a;have c:=Sq.rd a)
  refine(Sq.add (Sq.set a) (.inl ⟨rfl,rfl⟩) (.inr (.head _)) (by omega)).mono ?_
  rintro p b ⟨f,rfl,e,a⟩
  go_wp2_with fail
  go_ret
  exact⟨_,_,_,_,rfl,⟨_,rfl,rfl,rfl⟩,Sq.fin a⟩
 case named=>
  rw[dq]at m
  refine dG (Sq.isY a (by assumption:Hid ((E.tk i).k=48)).out) fun b a=>?_
  go_wp2_with fail
  refine dG (Sq.take a (by assumption)) fun b a=>?_
  go_wp2_with fail
  refine dG (Sq.take (Sq.box a) (by assumption)) fun b a=>?_
  have J:=Sq.rd a
  have K:=Sq.rd (Sq.tail a)
  have I:¬(E.tk i).k=6:=r
  have g:=a.bd
  simp only[jh,List.nodup_cons,gi,not_or]at g
  have F:=g.1.1
  have G:=eA g.1.1
  clear g
  go_wp2_with fail
  refine Sq.cq (Sq.set (Sq.set (Sq.swapB a))) (by assumption) (by omega) ?_
  rintro b _ e _ _ ⟨f,rfl,rfl,rfl⟩ a
  have d:=Sq.ln a
  simp only[Fo.sz_app,Fo.sz]at d
  have c:=Sq.rd a
  go_wp2_with (at_builtin;refine Sq.apG tI (Sq.nil a) (by simp) rfl rfl _ _ rfl rfl rfl rfl ?_;intro l h b a;have c:=Sq.rd a)
  refine(Sq.add (Sq.set a) (.inl ⟨rfl,rfl⟩) (.inr (.head _)) (by omega)).mono ?_
  rintro p b ⟨f,rfl,e,a⟩
  go_wp2_with fail
  go_ret
  exact⟨_,_,_,_,rfl,⟨_,rfl,rfl,rfl⟩,Sq.fin a⟩
 case pair=>
  have s:=(by assumption:Hid ((E.tk i).k=44))
  rw[dq,Fo.sz_app]at m
  refine dG (Sq.isN a (by rw[s.out];decide)) fun b a=>?_
  go_wp2_with fail
  refine dG (Sq.isY a s.out) fun b a=>?_
  go_wp2_with fail
  refine Sq.cq a (by assumption) (by omega) ?_
  rintro b _ e _ _ ⟨f,rfl,rfl,rfl⟩ a
  have d:=Sq.ln a
  simp only[Fo.sz_app,Fo.sz]at d
  go_wp2_with fail
  refine dG (Sq.take a (by assumption)) fun b a=>?_
  go_wp2_with fail
  refine dG (Sq.take a (by assumption)) fun b a=>?_
  have c:=Sq.rd a
  go_wp2_with (at_builtin;refine Sq.apG tI (Sq.nil (Sq.set a)) (by simp) rfl rfl _ _ rfl rfl rfl (by simp[World.setCell]) ?_;intro l h b a;have c:=Sq.rd a)
  refine Sq.cq (Sq.set a) (by assumption) (by omega) ?_
  rintro b _ e _ _ ⟨f,rfl,rfl,rfl⟩ a
  have d:=Sq.ln a
  simp only[Fo.sz_app,Fo.sz]at d
  have c:=Sq.rd a
  go_wp2_with (at_builtin;refine Sq.apG tI a (by simp) rfl rfl _ _ rfl rfl rfl rfl ?_;intro l h b a;have c:=Sq.rd a)
  refine(Sq.add (Sq.set a) (.inl ⟨rfl,rfl⟩) (.inr (.head _)) (by omega)).mono ?_
  rintro p b ⟨f,rfl,e,a⟩
  go_wp2_with fail
  go_ret
  exact⟨_,_,_,_,rfl,⟨_,rfl,rfl,rfl⟩,Sq.fin a⟩
theorem ae6{x:Fo}(g:(E.tk i).k=18)(y:(E.tk (i+1)).k=1)(I:(E.tk (i+2)).k=40)(h:i+2<E.n)(A:CBd E (E.tk (i+2)) (i+2) x j)(L:1<=j)(ad:j<=E.n):CI E 201 #[pV E] i (one (nd 4 (E.tk i) (E.tk (j-1)).t 0 0 z0 [(E.tk (i+1)).x]) x) j:=by
 intro G C F p z
 have S:=aj p
 clear p
 rw[dq]at z
 go_in
 go_wp2_with fail
 refine dG (Sq.kind S g) fun d S=>?_
 go_wp2_with fail
 refine dG (Sq.kind S g) fun d S=>?_
 go_wp2_with fail
 refine dG (Sq.kind S g) fun d S=>?_
 go_wp2_with fail
 refine dG (Sq.take S g) fun d S=>?_
 go_wp2_with fail
 refine dG (Sq.node (Sq.box S)) fun d S=>?_
 replace S:=Sq.box (cs:=ndA 4 0 0 ⟨#[]⟩ (E.tk i) s0 s0) (t:=50) S
 go_wp2_with fail
 refine dG (Sq.take S y) fun d S=>?_
 have s:=Sq.rd S
 go_wp2_with fail
 replace S:=Sq.litm (m:=d.heap.size+1) (xs:=[.string (E.tk (i+1)).x]) (t:=9) (Sq.below (Sq.set (q:=7) (u:= .slice (some ⟨d.heap.size+1,0,none⟩) 1 1) S) (dh _ (.cells (Kv 1 (E.tk (i+1))) 205))) (by simp[World.setCell])
 clear s
 generalize World.alloc (World.alloc _ _) _=al at S⊢
 have o:=S.cells
 have t:=S.tkw (q:=i+2) h (by omega)
 have r:=S.lo.2.2.2
 rw[show((i+1+1:Nat):Int)=(i:Int)+2 by omega]at o
 have K:(i:Int)+2<(E.n:Int):=by omega
 have J:(0:Int)<=(i:Int)+2:=by omega
 have af:((i:Int)+2).toNat=i+2:=by omega
 have ak:IntKind.i64.wrap ((i:Int)+2)=(i:Int)+2:=by rw[bm];omega
 refine wp_region_held_drew (S:=fun l=>l.cell? ⟨E.pb,0,none⟩=some (.slice (some ⟨E.tb,0,none⟩) E.n E.cap)/\TkW E (i+2) l) (by kernel_rfl) ⟨o.1,t⟩ (fun a=>?_)
 unfold TkW at *
 simp only[gG,co,dB,Nat.reduceAdd,je,jf,jg,er,fl]
 refine cj 0 (.pointer (some ⟨E.pb,0,none⟩)) rfl rfl (by kernel_rfl) (fun _ _ _=>id) a (fun f e=>by go_simp) ?_
 simp only[List.set]
 refine cj 1 (.pointer (some ⟨E.pb,0,none⟩)) rfl rfl (by kernel_rfl) (fun _ _ _=>id) a (fun f e=>by go_simp) ?_
 simp only[List.set]
 refine cj 2 (.pointer (some ⟨E.pb,0,none⟩)) rfl rfl (by kernel_rfl) (fun _ _ _=>id) a (fun f e=>by go_simp) ?_
 simp only[List.set]
 refine cj 3 (.pointer (some ⟨E.pb,0,none⟩)) rfl rfl (by kernel_rfl) (fun _ _ _=>id) a (fun f e=>by go_simp) ?_
 simp only[List.set]
 refine cj 4 (.slice (some ⟨E.tb,0,none⟩) E.n E.cap) rfl rfl (by kernel_rfl) (fun _ _ _=>id) a (fun f e=>by go_simp) ?_
 simp only[List.set]
 refine cj 5 (.pointer (some ⟨E.pb,0,none⟩)) rfl rfl (by kernel_rfl) (fun _ _ _=>id) a (fun f e=>by go_simp) ?_
 simp only[List.set]
 refine cj 6 (.pointer (some ⟨E.pb,0,none⟩)) rfl rfl (by kernel_rfl) (fun _ _ _=>id) a (fun f e=>by go_simp) ?_
 simp only[List.set]
 refine cj 7 (.pointer (some ⟨E.pb,1,none⟩)) rfl rfl (by kernel_rfl) (fun _ _ _=>id) a (fun f e=>by go_simp) ?_
 simp only[List.set]
 refine wpAnyH_ready (rs:=[8]) (by kernel_rfl) (by simp) (AllReadyH.cons rfl (fun c b=>?_) AllReadyH.nil)
 go_simp
 refine b.out _ _ a (fun a=>?_)
 clear b c
 try simp only[aB,aA,aC]
 refine wpAnyH_ready (rs:=[9]) (by kernel_rfl) (by simp) (AllReadyH.cons rfl (fun c b=>?_) AllReadyH.nil)
 go_simp
 refine b.out _ _ a (fun a=>?_)
 clear b c
 try simp only[aB,aA,aC]
 refine wpAnyH_ready (rs:=[10]) (by kernel_rfl) (by simp) (AllReadyH.cons rfl (fun c b=>?_) AllReadyH.nil)
 go_simp
 refine b.out _ _ a (fun a=>?_)
 clear b c
 try simp only[aB,aA,aC]
 refine wpAnyH_ready (rs:=[11]) (by kernel_rfl) (by simp) (AllReadyH.cons rfl (fun c b=>?_) AllReadyH.nil)
 go_simp
 refine dG (xz _ _ (E.tk (i+2)) _) fun d w=>?_
 replace S:=Sq.below (Sq.below S (aq (ag _ _))) w
 refine b.out _ _ ⟨S.cells.1,S.tkw h (by omega)⟩ (fun a=>?_)
 clear b c
 try simp only[aB,aA,aC]
 refine wpAnyH_ready (rs:=[12]) (by kernel_rfl) (by simp) (AllReadyH.cons rfl (fun c b=>?_) AllReadyH.nil)
 go_simp
 refine Sq.cq S A (by omega) ?_
 rintro d _ v _ _ ⟨B,rfl,rfl,rfl⟩ S
 refine b.out _ _ ⟨S.cells.1,S.tkw h (by omega)⟩ (fun a=>?_)
 clear b c
 try simp only[aB,aA,aC]
 refine wpAnyH_ready (rs:=[13]) (by kernel_rfl) (by simp) (AllReadyH.cons rfl (fun c b=>?_) AllReadyH.nil)
 go_simp
 refine b.out _ _ a (fun a=>?_)
 clear b c
 refine wpAnyH_done (by kernel_rfl) ?_ _
 have s:=Sq.rd S
 have r:=Sq.ln S
 simp only[Fo.sz_app,Fo.sz]at r
 go_wp2_with fail
 refine(Sq.add (Sq.lit2 (Sq.set S)) (nm:=[(E.tk (i+1)).x]) (.inr (.tail _ (.head _))) (.inr (.head _)) (by omega)).mono ?_
 rintro H d ⟨B,rfl,v,S⟩
 go_wp2_with fail
 go_ret
 exact⟨_,_,_,_,rfl,⟨_,rfl,rfl,rfl⟩,Sq.fin S⟩
end
theorem Sq.new{W:World}{b cap n:Nat}{tk:Nat->Tk}{d:Array Value}{fr:Nat×Nat}(e:W.heap[b]?=some (.cells d 205 fr))(k:TkR d tk n)(l:n<=1048576){o:Obj}{c:World}(j:(W.alloc o).alloc (.cells #[.slice (some ⟨b,0,none⟩) n cap,.int .i64 0,.slice none 0 0] 186)=c):Hid (Sq ⟨W.heap.size,W.heap.size+1,b,cap,n,tk⟩ c none [] c 0 [] .nil [] [] []):=by
 obtain⟨p,h,i,q⟩:=Dy j
 have:=aw e
 have m:=(i.block _ this).trans e
 have g:c.heap[W.heap.size+1]?=some (pC ⟨W.heap.size,W.heap.size+1,b,cap,n,tk⟩ ((0:Nat):Int) (.slice none 0 0)):=h
 refine⟨⟨by show W.heap.size<=W.heap.size+1;omega,by show W.heap.size+1<_;omega,by show b<_;omega,l⟩,⟨d,fr,m,k⟩,⟨_,g,dy _ _ _ _⟩,⟨fun r a=>?_,fun f a=>(by cases a)⟩,fun s a=>(by cases a),Ac.nil _ _,rfl,ag _ _,fun _ _ _ _=>rfl,fun f a=>(by cases a),xi,fun f a=>(by cases a),.nil⟩
 have:=(I0 g).1 a
 simp[Value.ownBlock]at this
theorem ae7(s:ByteArray)(W:World)(x cap n j:Nat)(tk:Nat->Tk)(bf:Array Value)(fr:Nat×Nat)(bv:W.heap[x]?=some (.cells bf 205 fr))(bk:TkR bf tk n)(ca:n<=1048576)(c2:s.size<=1048576){R:Fo}(hS:CL ⟨W.heap.size,W.heap.size+1,x,cap,n,tk⟩ 162 #[pV ⟨W.heap.size,W.heap.size+1,x,cap,n,tk⟩,.int .i64 6] 0 R j)(cB:R.sz<=40000000):
  Calls Tryz.prog 101 #[.string s,.slice (some ⟨x,0,none⟩) n cap] W fun e l=>∃v L,e= .returned (.agg #[v])/\Lw l W.heap.size v L/\L.map Mb.N=(one ⟨1,0,(s.size:Nat),1,0,0,⟨#[]⟩,[],[]⟩ R).flat 0/\Below W.heap.size W l:=by
 obtain⟨cr,a4⟩:=aE ((W.alloc (.cells #[.slice none 0 0] 25)).alloc (.cells #[.slice (some ⟨x,0,none⟩) n cap,.int .i64 0,.slice none 0 0] 186))
 have S:=Sq.new (tk:=tk) bv bk ca a4
 obtain⟨o,B⟩:∃o:Pe,(⟨W.heap.size,W.heap.size+1,x,cap,n,tk⟩:Pe)=o:=⟨_,rfl⟩
 rw[B]at S hS
 have G:Hid (o.pb=W.heap.size+1):=by rw[<-B];rfl
 have bo:Hid (o.base=W.heap.size):=by rw[<-B];rfl
 rw[show pV o= .pointer (some ⟨W.heap.size+1,0,none⟩) by rw[<-B]]at hS
 obtain⟨bF, -,bc,cb⟩:=Dy a4
 have a8:=eJ bF bc
 have ba:=Sq.box (cs:=#[.int .i64 1,.int .i64 0,.int .i64 (s.size:Nat),.int .i64 1,.int .i64 0,.int .i64 0,.string ⟨#[]⟩,s0,s0]) (t:=50) S
 rw[cb]at ba
 clear bF bc bv bk S B
 go_in
 go_wp2_with fail
 refine Sq.cq ba hS (by simp;omega) ?_
 clear a4
 rintro c4 _ a9 af _ ⟨c,d,rfl,rfl⟩ S
 have cn:=Sq.rd S
 obtain⟨g,b9⟩:=aE af.length
 rw[b9]at S⊢
 replace S:=Sq.set (q:=8) (u:= .slice c g d) S
 clear hS
 go_wp2_with fail
 clear cn
 generalize World.setCell _ _ _=b at S⊢
 obtain⟨v,F,a0⟩:=S.row
 obtain⟨y,z,rfl⟩:=bG a0
 have a2:=F
 rw[G.out]at F
 have ap:b.cell? ⟨W.heap.size+1,2,none⟩=some (.slice y a9.length z):=by rw[au _ _ _ _ _ _ F];rfl
 obtain⟨k,bt⟩:=aE a9.length
 rw[bt]at ap F a0 a2
 have a5:b.heap[W.heap.size+1+1]?=some (.cells #[.int .i64 1,.int .i64 0,.int .i64 (s.size:Nat),.int .i64 1,.int .i64 0,.int .i64 0,.string ⟨#[]⟩,.slice none 0 0,.slice c g d] 50 (0,0)):=Sq.hd S
 refine wp_region_held_drew (S:=fun am=>am.heap[W.heap.size+1+1]?=some (.cells #[.int .i64 1,.int .i64 0,.int .i64 (s.size:Nat),.int .i64 1,.int .i64 0,.int .i64 0,.string ⟨#[]⟩,.slice none 0 0,.slice c g d] 50 (0,0))) (by kernel_rfl) a5 (fun m=>?_)
 simp only[gG,co,dB,Nat.reduceAdd,je,jf,jg,er,fl]
 refine cj 0 (.pointer (some ⟨W.heap.size+1,0,none⟩)) rfl rfl (by kernel_rfl) (fun _ _ _=>id) m (fun l r=>by go_simp) ?_
 simp only[List.set]
 refine cj 1 (.pointer (some ⟨W.heap.size+1,0,none⟩)) rfl rfl (by kernel_rfl) (fun _ _ _=>id) m (fun l r=>by go_simp) ?_
 simp only[List.set]
 refine cj 2 (.pointer (some ⟨W.heap.size+1,0,none⟩)) rfl rfl (by kernel_rfl) (fun _ _ _=>id) m (fun l r=>by go_simp) ?_
 simp only[List.set]
 refine cj 3 (.pointer (some ⟨W.heap.size+1,2,none⟩)) rfl rfl (by kernel_rfl) (fun _ _ _=>id) m (fun l r=>by go_simp) ?_
 simp only[List.set]
 refine eK 5 21 (.agg #[.int .i64 1,.int .i64 0,.int .i64 (s.size:Nat),.int .i64 1,.int .i64 0,.int .i64 0,.string ⟨#[]⟩,.slice none 0 0,.slice c g d]) rfl rfl (by kernel_rfl) (by kernel_rfl) (by kernel_rfl) (fun _ _ _ a3=>a3) (by rfl) m (fun l r=>by have c5:=bz (N:=⟨1,0,(s.size:Nat),1,0,0,⟨#[]⟩,[],af⟩) (vn:= .slice none 0 0) (vk:= .slice c g d) r;go_simp) ?_
 simp only[Act.put,aB,aA,aC]
 have b8:=ap
 refine oc (S:=fun am=>am.cell? ⟨W.heap.size+1,2,none⟩=some (.slice y k z)) (C:=fun j=>!(j==7||j==8||j==9||j==10)) (i:=4) (v:= .slice y k z) rfl (sA (by kernel_rfl)) (fun _ _ _ a3=>a3) ?hC _ _ _ _ (sB rfl (by kernel_rfl)) (List.contains_iff_mem.1 (by kernel_rfl)) (Or.inl ⟨by rfl,fun l r=>by go_simp⟩) m b8 ?_
 case hC=>
  intro j c3 bs f
  simp only[Bool.not_eq_false',sD,ib]at f
  rcases f with((rfl|rfl)|rfl)|rfl
  ·obtain rfl:=bh bs
   exact⟨{on:=4,ground:=Ground.data},by simp,rfl,rfl⟩
  all_goals
   obtain rfl:=bh bs
   exact⟨{on:=4,ground:=Ground.phase},by simp,rfl,rfl⟩
 simp only[Act.put,aB,aA,aC]
 refine dI (i:=6) (by kernel_rfl) rfl (fun h a=>?_)
 go_simp
 have ao:∀bx,Below b.heap.size b (b.drew.alloc bx):=fun bx=>(aq (ag _ _)).alloc (by simp) _
 refine a _ _ (((ao _).block _ (aw a5)).trans a5) (fun _=>ai (ao _) ap) ?_
 clear a h m ao
 try simp only[aB,aA,aC]
 have E:=aq (dh b (.cells #[.int .i64 1,.int .i64 0,.int .i64 (s.size:Nat),.int .i64 1,.int .i64 0,.int .i64 0,.string ⟨#[]⟩,.slice none 0 0,.slice c g d] 50))
 have b0:(b.alloc (.cells #[.int .i64 1,.int .i64 0,.int .i64 (s.size:Nat),.int .i64 1,.int .i64 0,.int .i64 0,.string ⟨#[]⟩,.slice none 0 0,.slice c g d] 50)).drew.heap[b.heap.size]?=_:=ay b _
 generalize World.drew (World.alloc _ _)=b4 at E b0⊢
 have bE:=Sq.below S E
 have cl:=(E.block _ (aw a2)).trans a2
 have c0:=bE.low
 have cI:k<=40000000:=by have q:=Sq.ln S;simp only[dB,Fo.sz_app,Fo.sz]at q;omega
 obtain⟨cc,cd,ce,cf,cg⟩:=dD tA
 refine dI (i:=7) (by kernel_rfl) rfl (fun h a=>?_)
 refine step_append_lies _ (by rfl) _ _ 23 (by rfl) o.base 50 cc _ 9 112 Tryz.underlying23 cd ce cf cg rfl (by decide) (.slice y k z) k _ (by rfl) (cF a0 E) ⟨b.heap.size,0,none⟩ 1 1 (pu ⟨1,0,(s.size:Nat),1,0,0,⟨#[]⟩,[],af⟩ s0 (.slice c g d)).toList (by rfl) rfl (World.news_of_block b0) (by intro u bw;simp at bw;rcases bw with rfl|rfl|rfl|rfl|rfl|rfl|rfl|rfl|rfl<;>rfl) (by decide) (by unfold maxLen;omega) (by omega) (by omega) b4.heap.size rfl ?_
 intro a1 ar a7 bA br bn c1
 obtain⟨K,I⟩:=bE.push cl (by rw[bt]) ⟨⟨1,0,(s.size:Nat),1,0,0,⟨#[]⟩,[],af⟩,s0,.slice c g d⟩ (by rw[og];exact bA) br bn (.inl ⟨rfl,rfl⟩) (.inr (.head _)) rfl
 rw[G.out]at K I
 have b1:_=some (Obj.cells #[.int .i64 1,.int .i64 0,.int .i64 (s.size:Nat),.int .i64 1,.int .i64 0,.int .i64 0,.string ⟨#[]⟩,.slice none 0 0,.slice c g d] 50 (0,0)):=Sq.hd K
 have al:=b1
 rw[aK _ _ _ _ (by show W.heap.size+1+1≠W.heap.size+1;omega)]at al
 have cu:a7.cell? ⟨W.heap.size+1,2,none⟩=some (.slice y k z):=by rw[au _ _ _ _ _ _ I];rfl
 have cz:a7.frozen? ⟨W.heap.size+1,2,none⟩=false:=cA _ _ _ _ _ I
 have J:=bI a7 (W.heap.size+1) 2 _ _ (.slice (some ⟨a1,0,none⟩) (k+1) ar) I
 have p:=aj K
 clear K bA br bn
 refine a _ _ al (fun f=>by cases f) ?_
 clear a h
 simp only[Act.put,aB,aA,aC]
 refine dI (i:=8) (by kernel_rfl) rfl (fun h a=>?_)
 go_simp
 refine a _ _ al (fun f=>by cases f) ?_
 clear a h
 try simp only[aB,aA,aC]
 refine dI (i:=9) (by kernel_rfl) rfl (fun h a=>?_)
 go_simp
 refine a _ _ al (fun f=>by cases f) ?_
 clear a h
 try simp only[aB,aA,aC]
 refine dI (i:=10) (by kernel_rfl) rfl (fun h a=>?_)
 go_simp
 refine a _ _ b1 (fun f=>by cases f) ?_
 clear a h
 refine qi (by kernel_rfl) ?_ _
 generalize World.setCell _ _ _=an at p J⊢
 have cw:an.cell? ⟨W.heap.size+1,2,none⟩=some (.slice (some ⟨a1,0,none⟩) (k+1) ar):=by rw[au _ _ _ _ _ _ J];rfl
 have w:=(p.fz W.heap.size (by omega) (by rw[G.out];omega) (by simp)).trans a8.out.1
 have cx:an.cell? ⟨W.heap.size,0,none⟩=some (.slice none 0 0):=by rw[au _ _ _ _ _ _ w];rfl
 have cy:an.frozen? ⟨W.heap.size,0,none⟩=false:=cA _ _ _ _ _ w
 have b2:=aj J
 clear J
 go_wp2_with fail
 obtain⟨cm,bD,a6⟩:=p.row
 rw[G.out]at bD
 obtain rfl:cm= .slice (some ⟨a1,0,none⟩) (k+1) ar:=by have e:=b2.out;rw[bD]at e;simp at e;exact e
 obtain⟨cp,b5,b7,_⟩:=p.ac
 rw[bo.out]at a6
 have A:=p.each
 have bd:=p.bl
 rw[bo.out]at bd A
 exact aH (du rfl _ _ W.heap.size _ _ _ _ rfl (bI _ _ 0 _ _ _ w) Tryz.underlying25 rfl (by kernel_rfl)) rfl ⟨_,rfl,_,⟨jA a6 (ee a6 w (by decide)) 0 _,fun ad H=>⟨jA (A ad H).1 (ee (A ad H).1 w (by decide)) 0 _,jA (A ad H).2 (ee (A ad H).2 w (by decide)) 0 _⟩⟩,by rw[b5,er,b7];rfl,a8.out.2.trans (bd.setCell (ah _) _)⟩
