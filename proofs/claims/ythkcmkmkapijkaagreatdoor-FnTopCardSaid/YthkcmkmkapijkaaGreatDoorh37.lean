import Derived.Test.YthkcmkmkapijkaaGreatDoorh26
import Derived.Test.YthkcmkmkapijkaaGreatDoorh10
set_option linter.all false
set_option maxRecDepth 100000
set_option maxHeartbeats 25600000
open Go.Proofs.Tryz renaming prog->N
open Go.Value renaming string->V,slice->Y,string->Ax,slice->A0
namespace Go.Proofs.YthkcmkmkapijkaaGreatDoor
open Go.RowKit Go.Maps Go.WideMaps
variable{E:Pe}{M:List (Value×zLB)}{T:Bxs}{W w:World}{f:FuncId}{i:Nat}{kv:Value}
def afj{k m o a Q}(u:o.guard=none)(s x)(y:o.op= .call {callee:= .builtin .append,args:=#[s,x],argTypes:=#[34,34]})(d)(c:zOA)(n i)(l:zLB)(B:a.eval s=Y c n i)(ad:l.length=n)(A:w.ownsRow d 9 1 (Y c n i) n (l.map V))(r:d<=w.heap.size)(b)(z:Bz)(E:a.eval x=bI b 1 1)(q:w.heap[b]?=some (.cells #[Ax z] 9 (0,0)))(L:n<=50000000)
  (h:∀g f w1,w1.ownsRow d 9 1 (bI g (n+1) f) (n+1) ((l++[z]).map V)->w.grownBy w1 (A0 c n i).ownBlock->((A0 c n i).ownBlock=some g\/g=w.heap.size)->wpList N k Q m (a.put o.dst<|bI g (n+1) f) w1):wpList N k Q (o::m) a w:=by
 have⟨K,v,F,G,H⟩:=dw adb;apply wpList_append_own_at _ u s x _ y d 9 K _ 1 _ Tryz.underlying34 v F G H R Z _ _ _ B A _ 1 1 [Ax z] E R (World.news_of_block q) (by intro _ C;rw[ic.1 C];rfl) byM O r;intro _ w1 j t _ p;obtain⟨g,f,rfl⟩:=ownsRow_succ j;exact h g f w1 (by rw[ej];exact j) t (by obtain e|e:=p;exact .inl e.symm;exact .inr (by simpa [Value.ownBlock] using e))
def ajx(w:World)(x:Bz):(w.alloc<|.cells #[Ax x] 9).ownsRow w.heap.size 9 1 (bI w.heap.size 1 1) 1 [Ax x]:=by
 simpa using zg w _ 1 O byM I
section
variable {E : Pe} {i j k k1 : Nat} {x y R1 Ex : Fo}
def ahq{m}(ax:∀(args:zAV) (w),(callFunc f args).run N w= .ok (.enter f args) w)(ad:CN E f #[pV E] i x k)(L:Ls E (CN E f #[pV E]) m k R1 j):CR E 303 #[pV E,.func (.func f) #[pV E] #[]] i (x.app R1) j:=by
 intro w F H;have K:=H;rw[Fo.sz_app]at K;go_in;go_wp21
 apply(Ba (Sw.start F) ad).mono;rintro l w1 ⟨an,am,rfl,u⟩;have⟨_,_,a⟩:=adc u _ #[.iface an am] rfl 1 R Z;go_wp21
 go_loopg [5] m (λgk ao wr=>∃k D d g p h c,ao=Y g p h/\Hid (Ls E (CN E f #[pV E]) gk k d j/\Sw E w wr k (Y g p h) c D c [] []/\D.app d=x.app R1))
 .exact⟨k,x,R1,_,1,1,_,R,L,a,R⟩
 .
  obtain⟨_,D,d,g,p,h,c,rfl,t⟩:=hrel;have⟨G,s,b⟩:=t.out;have a:=s;have a0:=Gi.len _ _ s.nn;cases G with
  |stop n o=>
   rw[Fo.app_nil]at b;go_wp21
   refine dd (Fp a n o) λap e=>?_;go_wp21
   go_ret;exact⟨_,c,R,by rw[<-b];exact e⟩|@go ak _ af _ ar r n o B C=>
   have a1:D.sz+(ar.sz+r.sz)<=50000000:=by have l:=congrArg Fo.sz b;simp[Fo.sz_app]at l;omega
   have av:=D.len_le;have q:=fs b C;go_wp21
   refine dd (Au a n o) λap e=>?_;go_wp21
   apply(Ba e B).mono;rintro l _ ⟨_,_,rfl,v⟩;go_wp2_with (at_builtin;apply sAp v R O R _ _ R R R;intro z al A _ y);go_roundg ak
   case measure=>omega
   exact⟨af,_,r,z,al,A,_,R,q.2,y,by rw[Fo.app_app];exact q.1⟩
def amC{m}(hj:(E.tk j).k=43\/(E.tk j).k=6)(G:Ss E (CN E 154 #[pV E]) m i R1 j):CR E 54 #[pV E] i R1 j:=by
 intro ad C _;go_in;go_wp21
 go_loopg [3] m (λgk L wr=>∃k D e f h g d,L=Y f h g/\Hid (Ss E (CN E 154 #[pV E]) gk k e j/\Sw E ad wr k (Y f h g) d D d [] []/\D.app e=R1))
 .exact⟨i,_,R1,none,0,0,_,R,G,Sw.start C,R⟩
 .
  obtain⟨_,D,e,f,h,g,d,rfl,w⟩:=hrel;have⟨F,u,c⟩:=w.out;have l:=u;have an:=Gi.len _ _ u.nn;cases F with
  |stop t=>
   rw[Fo.app_nil]at c;obtain hj|hj:=hj;all_goals
    go_wp21
    refine dd (qC l hj) λv b=>?_;go_wp21
    go_ret;exact⟨_,d,R,by rw[<-c];exact b⟩
  |@sep q _ _ _ o t p=>
   have a:=fs c p;go_wp21
   refine dd (qC l o) λv b=>?_;go_wp21
   refine dd (mi b o O) λaf n=>?_;go_wp21
   go_roundg q
   case measure=>omega
   exact⟨_,D,e,f,h,g,d,R,a.2,n,a.1⟩
  |@go q _ H _ ak r o t al A B p=>
   have ao:D.sz+(ak.sz+r.sz)<=50000000:=by have s:=congrArg Fo.sz c;simp[Fo.sz_app]at s;omega
   have am:=D.len_le;have a:=fs c p;go_wp21
   refine dd (qC l R A) λv b=>?_;go_wp21
   apply(Ba b B).mono;rintro s af ⟨_,_,rfl,n⟩;go_wp2_with (at_builtin;apply sAp n R O R _ _ R R R;intro y K z _ x);go_roundg q
   case measure=>omega
   exact⟨H,_,r,y,K,z,_,R,a.2,x,by rw[Fo.app_app];exact a.1⟩
def aqF(b c d e f a w):(Instr.field 58 (.agg #[b,c,d,e,f,a]) 5).run N w= .ok a w:=J
def CT(E:Pe)(i:Nat)(b:zLB)(j:Nat):Prop:=
 ∀w,Pp E w i->Calls N 301 #[pV E] w λd a=>∃c,d= .returned c/\(Pp E a j/\w.grownBy a (some E.pb))/\a.ownsRow w.heap.size 9 1 c (b.map V).length (b.map V)
def Sw.putN{j v r u m}(h:Sw E W w i s0 [] .nil [] T [(v,u)])(o:j.ownsRow W.heap.size 9 1 r (m.map V).length (m.map V))(g:w.grownBy j v.ownBlock):Sw E W j i s0 [] .nil [] T [(r,m)]:=by
 have n:=h.nm _<|bG ..;have l:∀{f:Nat}{d:zAV}{p:TypeId}{e:Nat×Nat},w.heap[f]?=some (.cells d p e)->p≠9->j.heap[f]?=some (.cells d p e):=λb t=>(g.block _ (ai b) (λk=>gG n b t k.symm)).trans b;have⟨d,e,x,y⟩:=h.pp.tks;have⟨z,s,q⟩:=h.pp.pw;refine⟨⟨h.pp.hn,⟨d,e,l x Z,y⟩,l h.pp.row Z,h.pp.pg,z,s,(g.block _ (ai q) (λk=>by have:=(n.lt _ k.symm).1;have:=h.lt;have:=h.pp.pg;omega)).trans q⟩,h.gr.andThen g (λf b=> .inl (n.lt f b).1),h.lt,onN,⟨_,⟨R,R⟩,by simp[mB,aav]⟩,λc a=>⟨(h.tb c a).1,(h.tb c a).2.1,l (h.tb c a).2.2 (h.tb c a).2.1.2⟩,λc a=>?_⟩;obtain rfl:=ic.1 a;exact o
def axF{b g D d}(S:Hid (Sw E W w i kv b D g T M))(C:CT E i d j):Calls N 301 #[pV E] w λe h=>∃a n c,e= .returned (Y a n c)/\Hid (Sw E W h j kv b D g T ((Y a n c,d)::M)):=by
 apply(C w S.pp).mono;rintro e h ⟨_,k,l,f⟩;obtain⟨a,c,rfl⟩:=aF f;exact⟨a,_,c,k,S.name l f⟩
def Bc{d}(ar:(E.tk i).k=1)(a5:i<E.n)(a0:Kd E.tk E.n (i+1) d j):CT E i ((E.tk i).x::d) j:=by
 intro h y;have L:=Sw.start y;have H:=a0;have a6:=y.hn;have a4:=aqF;go_in;go_wp21
 refine dd (mi L ar O) λw1 r=>?_;simp[rE];go_wp21
 have t:=dj w1<|.cells #[Ax (E.tk i).x] 9;have F:Hid (Sw E h (w1.alloc<|.cells #[Ax (E.tk i).x] 9) (i+1) s0 [] .nil [] [] [(bI w1.heap.size 1 1,[(E.tk i).x])]):=r.name ⟨r.pp.keep<|ul t _,ul t _⟩<|ajx w1 _;go_loopg [3] d.length (λgk a1 wr=>∃k D g b n c,a1=Y b n c/\gk=g.length/\D.length=n/\Hid (Kd E.tk E.n k g j/\Sw E h wr k s0 [] .nil [] [] [(Y b n c,D)]/\D++g=(E.tk i).x::d/\i+2*D.length=k+1))
 .exact⟨_,_,d,_,1,1,R,R,R,H,F,R,I⟩
 .
  obtain⟨A,D,g,b,n,c,rfl,ap,f,G⟩:=hrel;have⟨al,am,e,an⟩:=G.out;have s:=am;cases al with
  |stop p v=>
   rw[fp]at e;go_wp21
   refine dd (Fp s p v) λa2 a=>?_;go_wp21
   go_ret;exact⟨_,R,⟨a.pp,a.gr⟩,by rw[<-e];exact a.nm _<|bG ..⟩|@go _ _ B p v af w=>
   have ax:n<=50000000:=O;have m:=jG e w an;clear e w;go_wp21
   refine dd (Au s p) λa2 a=>?_;go_wp21
   refine dd (mi a af O) λl o=>?_;simp[rE];have q:=o.nm _<|bG ..;rw[dm,f]at q;have K:Hid (l.ownsRow h.heap.size 9 1 (Y b n c) n<|D.map V):=q;clear q;go_wp2_with (at_builtin;refine afj R _ _ R _ b n c D R f (cj K<|dj l _) (by rw[dC];have:=o.gr.size;omega) _ _ R (au l _) ax ?_;intro ak u a3 C z ao;have ad:Hid (Sw E h a3 (A+1+1) s0 [] .nil [] [] [(bI ak (n+1) u,D++[(E.tk<|A+1).x])]):=(sB o<|dj l _).out.putN (by rw[dm,aG,f];exact C) z;clear C z ao);go_roundg B.length
   case measure=>rw[ap];simp
   exact⟨_,_,B,_,_,u,R,R,by rw[aG,f];rfl,m.2.1,ad,by rw[fL];exact m.1,by have:=m.2.2;rw[aG,agi];omega⟩
end
def cfE(args:zAV)(w):(callFunc 252 args).run N w= .ok (.enter 252 args) w:=J
def cfB(args:zAV)(w):(callFunc 253 args).run N w= .ok (.enter 253 args) w:=J
def axG{r}(j:i<E.n)(g:decide ((E.tk i).k=5\/(E.tk i).k=6\/(E.tk i).k=43)=r){d f D}(S:Hid (Sw E W w i kv d D f T M)):Calls N 306 #[pV E] w λe h=>e= .returned (.bool r)/\Hid (Sw E W h i kv d D f T M):=by
 subst g;by_cases a:(E.tk i).k=5<;>by_cases b:(E.tk i).k=6<;>by_cases c:(E.tk i).k=43;all_goals
  try omega
 all_goals
  try have l:=fC.2 a
  try have m:=fC.2 b
  try have o:=fC.2 c
  go_in
  repeat (go_wp2_with fail;go_at_call 152;first|refine dd (qC S byA) λw S=>?_|refine dd (qC S R) λw S=>?_)
  go_wp2;go_ret;simp only[a,b,c];exact⟨R,S⟩
section
variable (E : Pe)
abbrev cE(i:Nat)(x:Fo)(j:Nat):=CN E 252 #[pV E] i x j
abbrev cK(i:Nat)(x:Fo)(j:Nat):=CN E 254 #[pV E] i x j
abbrev cL(f:FuncId)(i:Nat)(x:Fo)(j:Nat):=CR E 303 #[pV E,.func (.func f) #[pV E] #[]] i x j
inductive Wi (i:Nat):FuncId->zAV->Fo->Nat->Prop|leaf {k nk:Int}:nk=11\/nk=12\/nk=20\/nk=21\/nk=22\/nk=27->k≠6->(E.tk i).k=k->i+1<E.n->Wi i 248 #[pV E,zI nk] (one (lF nk (E.tk i) (E.tk i).t) .nil) (i+1)|wthE {x:Fo}{j:Nat}:(E.tk i).k=28->i<E.n->cE E (i+1) x j->1<=j->j<=E.n->Wi i 251 #[pV E,zI 15,.func (.func 252) #[pV E] #[]] (one (lF 15 (E.tk i) (E.tk<|j-1).t) x) j|wthB {x:Fo}{j:Nat}:(E.tk i).k=14->i<E.n->CN E 253 #[pV E] (i+1) x j->1<=j->j<=E.n->Wi i 251 #[pV E,zI 16,.func (.func 253) #[pV E] #[]] (one (lF 16 (E.tk i) (E.tk<|j-1).t) x) j|whl {x y:Fo}{k j:Nat}:(E.tk i).k=31->i<E.n->cE E (i+1) x k->cK E k y j->1<=j->j<=E.n->Wi i 246 #[pV E] (one (lF 8 (E.tk i) (E.tk<|j-1).t)<|x.app y) j|blk {x:Fo}{k:Nat}:(E.tk i).k=42->i<E.n->CR E 54 #[pV E] (i+1) x k->(E.tk k).k=43->k+1<E.n->Wi i 254 #[pV E] (one (lF 1 (E.tk i) (E.tk k).t) x) (k+1)|let0 {ns:zLB}{k:Nat}:(E.tk i).k=22->i<E.n->CT E (i+1) ns k->1<=k->k<E.n->(E.tk k).k≠47->Wi i 242 #[pV E] (one (nd 2 (E.tk i) (E.tk<|k-1).t 0 0 z0 ns) .nil) k|let1 {ns:zLB}{k j:Nat}{x:Fo}:(E.tk i).k=22->i<E.n->CT E (i+1) ns k->k<E.n->(E.tk k).k=47->cL E 252 (k+1) x j->1<=j->j<=E.n->Wi i 242 #[pV E] (one (nd 2 (E.tk i) (E.tk<|j-1).t 0 0 z0 ns) x) j|con {ns:zLB}{k j:Nat}{x:Fo}:(E.tk i).k=13->i<E.n->CT E (i+1) ns k->k<E.n->(E.tk k).k=47->cE E (k+1) x j->1<=j->j<=E.n->Wi i 243 #[pV E] (one (nd 3 (E.tk i) (E.tk<|j-1).t 0 0 z0 ns) x) j|fn {ns:zLB}{k j:Nat}{x:Fo}:(E.tk i).k=18->i<E.n->CT E (i+1) ns k->k<E.n->(E.tk k).k=40->CN E 305 #[pV E,.agg<|rE 40<|E.tk k] k x j->1<=j->j<=E.n->Wi i 244 #[pV E] (one (nd 4 (E.tk i) (E.tk<|j-1).t 0 0 z0 ns) x) j|ret0:(E.tk i).k=27->i+1<E.n->decide ((E.tk<|i+1).k=5\/(E.tk<|i+1).k=6\/(E.tk<|i+1).k=43)=true->Wi i 249 #[pV E] (one (lF 13 (E.tk i) (E.tk i).t) .nil) (i+1)|ret1 {x:Fo}{j:Nat}:(E.tk i).k=27->i+1<E.n->decide ((E.tk<|i+1).k=5\/(E.tk<|i+1).k=6\/(E.tk<|i+1).k=43)=false->cL E 252 (i+1) x j->1<=j->j<=E.n->Wi i 249 #[pV E] (one (lF 13 (E.tk i) (E.tk<|j-1).t) x) j|try_ {ns:zLB}{x y:Fo}{k k1 j:Nat}:(E.tk i).k=30->i<E.n->cK E (i+1) x k->(E.tk k).k=12->k<E.n->CT E (k+1) ns k1->cK E k1 y j->1<=j->j<=E.n->Wi i 250 #[pV E] (one (nd 14 (E.tk i) (E.tk<|j-1).t 0 0 z0 ns)<|x.app y) j|for_ {nk q:Int}{ns:zLB}{x y:Fo}{k k1 j:Nat}:(nk=9/\q=47)\/(nk=10/\q=21)->(E.tk i).k=19->i<E.n->CT E (i+1) ns k->k<E.n->(E.tk k).k=q->cL E 252 (k+1) x k1->cK E k1 y j->1<=j->j<=E.n->Wi i 247 #[pV E] (one (nd nk (E.tk i) (E.tk<|j-1).t 0 0 z0 ns)<|x.app y) j|if0 {q:Int}{x y:Fo}{k k1:Nat}:q=20\/q=15->(E.tk i).k=q->i<E.n->cE E (i+1) x k->cK E k y k1->1<=k1->k1<E.n->(E.tk k1).k≠15->(E.tk k1).k≠16->Wi i 245 #[pV E] (one (lF 7 (E.tk i) (E.tk<|k1-1).t)<|x.app y) k1|if1 {q:Int}{x y z:Fo}{k k1 j:Nat}:q=20\/q=15->(E.tk i).k=q->i<E.n->cE E (i+1) x k->cK E k y k1->k1<E.n->(E.tk k1).k=15->CN E 245 #[pV E] k1 z j->1<=j->j<=E.n->Wi i 245 #[pV E] (one (lF 7 (E.tk i) (E.tk<|j-1).t)<|(x.app y).app z) j|if2 {q:Int}{x y z:Fo}{k k1 j:Nat}:q=20\/q=15->(E.tk i).k=q->i<E.n->cE E (i+1) x k->cK E k y k1->k1<E.n->(E.tk k1).k=16->cK E (k1+1) z j->1<=j->j<=E.n->Wi i 245 #[pV E] (one (lF 7 (E.tk i) (E.tk<|j-1).t)<|(x.app y).app z) j|do_ {q:Int}{x:Fo}{j:Nat}:q=1\/q=40->(E.tk i).k=q->i<E.n->cL E 253 i x j->(E.tk j).k≠47->j<E.n->1<=j->Wi i 255 #[pV E] (one (lF 6 (E.tk i) (E.tk<|j-1).t) x) j|pre {q op:Int}{x:Fo}{j:Nat}:q≠6->(E.tk i).k=q->i<E.n->CN E 342 #[pV E] (i+1) x j->1<=j->j<=E.n->Wi i 366 #[pV E,zI op] (one (nd 30 (E.tk i) (E.tk<|j-1).t op 0 z0 []) x) j|expr {x:Fo}{j:Nat}:CN E 307 #[pV E,zI 0] i x j->Wi i 252 #[pV E] x j|ufn {x:Fo}{j:Nat}:(E.tk i).k=18->i<E.n->CN E 305 #[pV E,.agg<|rE 18<|E.tk i] (i+1) x j->Wi i 342 #[pV E] x j|item {q:Int}{x:Fo}{j:Nat}:q≠48->q≠44->q≠6->(E.tk i).k=q->i<E.n->cE E i x j->1<=j->j<=E.n->Wi i 378 #[pV E] (one (lF 40 (E.tk i) (E.tk<|j-1).t) x) j|pair {x y:Fo}{k j:Nat}:(E.tk i).k=44->i<E.n->cE E (i+1) x k->(E.tk k).k=45->(E.tk<|k+1).k=47->k+1<E.n->cE E (k+2) y j->1<=j->j<=E.n->Wi i 378 #[pV E] (one (lF 41 (E.tk i) (E.tk<|j-1).t)<|x.app y) j|named {x:Fo}{j:Nat}:(E.tk i).k=48->(E.tk<|i+1).k=1->(E.tk<|i+2).k=47->i+2<E.n->cE E (i+3) x j->1<=j->j<=E.n->Wi i 378 #[pV E] (one (nd 42 (E.tk i) (E.tk<|j-1).t 0 0 (E.tk<|i+1).x []) x) j
end
def jk{j args X}(h:Wi E i f args X j):CN E f args i X j:=by
 cases h
 case' leaf h _ _ _=>obtain rfl|rfl|rfl|rfl|rfl|rfl:=h
 case' for_ h _ _ _ _ _ _ _ _ _=>obtain⟨rfl,rfl⟩|⟨rfl,rfl⟩:=h
 case' if0 h _ _ _ _ _ _ _ _=>obtain rfl|rfl:=h
 case' if1 h _ _ _ _ _ _ _ _ _=>obtain rfl|rfl:=h
 case' if2 h _ _ _ _ _ _ _ _ _=>obtain rfl|rfl:=h
 case' do_ h _ _ _ _ _ _=>obtain rfl|rfl:=h
 case' item h1 h2 _ _ _ _ _ _=>have s:=fC.2 h1;have t:=fC.2 h2
 all_goals
  intro b h l;have a:=Sw.start h;have p:=awL;have q:=aqF;have n:=cfE;have o:=cfB;try simp only[dh,Fo.sz_app,Fo.sz]at l
  try have r:=fC.2 (by assumption:(E.tk _).k≠15)
  go_in
  repeat' (go_wp2_with (at_builtin;apply sAp a R (by have:=sLn a;simp only[Fo.sz_app,Fo.sz,aG,dD,jl]at this⊢;omega) R _ _ R R R;intro c g d b a;have m:=sRd a);(first
   |(go_at_call 152;first|refine dd (qC (by first|exact a|exact sLt a) O) λb a=>?_|refine dd (qC (by exact sLt a) R) λb a=>?_)
   |(go_at_call 153;refine dd (mi (by first|exact a|exact sBx a) byA O (by first|assumption|decide)) λb a=>?_)
   |(go_at_call 55;refine dd (Ia a O O O) λb a=>?_)|(go_at_call 302;first|refine dd (Au a O) λb a=>?_|refine dd (Fp a O) λb a=>?_)
   |(go_at_call 306;refine dd (axG O O (by exact sBx a)) λb a=>?_)|(go_at_call 301;apply(axF (by first|exact a|exact sBx a) O).mono;rintro e b ⟨c,g,d,rfl,a⟩)
   |(go_at_call 304;refine dd (vh (by first|exact a|exact sLt a) byA O O _ _ _ _) λb a=>?_)
   |((first|go_at_call 303|go_at_call 54);apply(ahl (by first|exact a|exact sBx a) O).mono;rintro e b ⟨c,g,d,_,rfl,a,_⟩)
   |(refine(Ba (by first|exact a|exact sBx a) byA).mono ?_;rintro e b ⟨_,_,rfl,a⟩));(try have m:=sRd a))
  all_goals
   go_wp2;go_ret;first
    |exact⟨_,R,a⟩|exact⟨_,R,azA _ (by exact a) byR byR byR⟩|exact⟨_,R,ade a _ byR byR byR byR⟩
section
variable {E : Pe} {i j k k1 : Nat} {x y R1 Ex : Fo}
def amD{h k D args}(S:Hid (Sw E W w i kv h D k T M))(C:CR E f args i R1 j)(m:R1.sz<=50000000):Calls N f args w λe g=>∃a n c b,e= .returned (Y a n c)/\Hid (Sw E W g j kv h (D.app R1) (k++b) T M)/\Hid (g.ownsRow w.heap.size 64 1 (Y a n c) b.length b/\(∀u∈b,u.oneCell'=true)/\b.length=R1.len):=by
 apply(C w S.pp m).mono;rintro e g ⟨_,b,l,d⟩;obtain⟨a,c,rfl⟩:=aF d.ro;exact⟨a,_,c,b,l,S.sub d,d.ro,Gi.cell _ _ d.nn,Gi.len _ _ d.nn⟩
def setP{q}(w:q=1\/q=40)(d:(E.tk i).k=q)(y:i<E.n)(s:cL E 253 i x k)(g:(E.tk k).k=47)(B:k<E.n)(h:cL E 252 (k+1) Ex j)(z:k+1<=j)(A:j<=E.n):CN E 255 #[pV E] i (one (nd 5 (E.tk i) (E.tk<|j-1).t 0 (x.len:Nat) z0 [])<|x.app Ex) j:=by
 intro b f o;have a:=Sw.start f;simp only[dh,Fo.sz_app]at o;go_in;go_wp21
 refine dd (Ia a d O O) λb a=>?_;go_wp21
 apply(ahl (sBx a) s).mono;rintro e b ⟨_,_,_,v,rfl,a,rfl⟩;have p:v.length=x.len:=Gi.len _ _ a.nn;rw[p]at a⊢;have F:=x.len_le;have C:=Ex.len_le;go_wp21
 refine dd (Au a g) λb a=>?_;go_wp21
 apply(amD a h O).mono;rintro e b ⟨_,_,_,_,rfl,a,c⟩;go_wp2_with (at_builtin;apply wJ R _ _ R R a.ro R c.1 c.2.1 (by have:=c.2.2;omega) (by have:=a.gr.size;omega);intro _ n _ b u r m l;clear r;have a:=ah<|a.out.put u m l;have G:=sRd a);refine dd (vh a d O O _ _ _ _) λb a=>?_;go_wp21
 go_ret;exact⟨_,R,ade a _ byR byR byR byR⟩
end
inductive Dp (E:Pe):Int->FuncId->FuncId->zAV->Prop|s22:Dp E 22 154 242 #[pV E]|s13:Dp E 13 154 243 #[pV E]|s18:Dp E 18 154 244 #[pV E]|s20:Dp E 20 154 245 #[pV E]|s31:Dp E 31 154 246 #[pV E]|s19:Dp E 19 154 247 #[pV E]|s11:Dp E 11 154 248 #[pV E,zI 11]|s23:Dp E 23 154 248 #[pV E,zI 12]|s27:Dp E 27 154 249 #[pV E]|s30:Dp E 30 154 250 #[pV E]|s28:Dp E 28 154 251 #[pV E,zI 15,.func (.func 252) #[pV E] #[]]|s14:Dp E 14 154 251 #[pV E,zI 16,.func (.func 253) #[pV E] #[]]|s42:Dp E 42 154 254 #[pV E]|s1:Dp E 1 154 255 #[pV E]|s40:Dp E 40 154 255 #[pV E]|u25:Dp E 25 342 366 #[pV E,zI 21]|u62:Dp E 62 342 366 #[pV E,zI 19]|u50:Dp E 50 342 366 #[pV E,zI 22]|u69:Dp E 69 342 366 #[pV E,zI 20]|u3:Dp E 3 342 309 #[pV E,zI 24]|u4:Dp E 4 342 309 #[pV E,zI 25]|u24:Dp E 24 342 248 #[pV E,zI 20]|u29:Dp E 29 342 248 #[pV E,zI 21]|u17:Dp E 17 342 248 #[pV E,zI 22]|u49:Dp E 49 342 248 #[pV E,zI 27]|u42:Dp E 42 342 367 #[pV E]|u1:Dp E 1 342 253 #[pV E]|u40:Dp E 40 342 253 #[pV E]
def Ae{j q g args R1}(h:Dp E q g f args)(c:(E.tk i).k=q)(l:i<E.n)(e:CN E f args i R1 j):CN E g #[pV E] i R1 j:=by
 cases h;all_goals
  intro b h d;have a:=Sw.start h;go_in;go_wp2_with fail;refine dd (qC a c) λb a=>?_;go_wp2_with fail;refine(Ba a e d).mono ?_;rintro _ b ⟨_,_,rfl,a⟩;go_wp2;go_ret;exact⟨_,R,a⟩
