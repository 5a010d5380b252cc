import Derived.Test.YthjpdjibdnecoaaGreatDoorHQk51
import Derived.Test.YthjpdjibdnecoaaGreatDoorHQk31
set_option linter.all false
set_option maxRecDepth 100000
set_option maxHeartbeats 1600000
namespace Go.Proofs.YthjpdjibdnecoaaGreatDoor
open Go.RowKit Go.Maps Go.WideMaps
def wG(z:Int):Prop:= -9223372036854775808<=z/\z<=9223372036854775807
theorem mG(z:Int)(a:0<=z)(b:z<=1000000):wG z:=⟨by omega,by omega⟩
def TkI(T:Tk):Prop:=(0<=T.k/\T.k<=78)/\wG T.f/\wG T.t/\wG T.l/\wG T.n
def NiB(N:Nd):Prop:=wG N.k/\wG N.f/\wG N.t/\wG N.l/\wG N.op/\wG N.n
def al6:wF->Prop
 | .more _ s x=>TkI s/\x.all NiB
 | .post s B=>TkI s/\B.all NiB
 | .body s=>TkI s
 |_=>True
theorem nib{k e b m:Int}{s:Tk}{x:ByteArray}{nm:List ByteArray}(a:TkI s)(d:wG k)(c:wG e)(g:wG b)(f:wG m):NiB (nd k s e b m x nm):=⟨d,a.2.1,c,a.2.2.2.1,g,f⟩
theorem ah6{k e:Int}{s:Tk}(c:TkI s)(b:wG e)(d:0<=k)(f:k<=78):NiB (qx k s e):=by
 have a:wG 0:=mG _ (by decide) (by decide);unfold qx fp;split
 ·exact nib c (mG _ (by decide) (by decide)) b a a
 split
 ·exact nib c (mG _ (by decide) (by decide)) b a a
 ·exact nib c (mG _ (by decide) (by decide)) b ⟨by omega,by omega⟩ a
theorem akr(k:Int):wG (abt k):=by
 unfold abt;split
 ·exact mG _ (by decide) (by decide)
 split
 ·exact mG _ (by decide) (by decide)
 split<;>exact mG _ (by decide) (by decide)
theorem afG{N:Nd}{ks:Fo}{s:Tk}{e:Int}(d:TkI s)(c:wG e)(h:NiB N)(a:ks.all NiB):(jn N ks s e).all NiB:=by
 have b:wG 0:=mG _ (by decide) (by decide);unfold jn;split
 ·rw[eL,eL];exact⟨nib d (mG _ (by decide) (by decide)) c b b,h,a⟩
 ·rw[eL];exact⟨h,a⟩
theorem P.ni{tk:Nat->Tk}{n:Nat}(g:n<=100000)(a:∀q,TkI (tk q)){t:wF}{i j:Nat}{R:Fo}(h:P tk n t i R j):al6 t->R.all NiB:=by
 have c:∀q,wG (tk q).t:=fun q=>(a q).2.2.1;have f:∀q,wG (tk q).n:=fun q=>(a q).2.2.2.2
 induction h
 case mgo s x y R k k1 j h1 h2 h3 h4 h5 i1 i2=>intro b;exact i2 ⟨b.1,(eL _ _ _).2 ⟨ah6 b.1 (c _) (a k).1.1 (a k).1.2,(od _ _ _).2 ⟨b.2,i1 trivial⟩⟩⟩
 case bopen h1 h2 h3 h4 h5 h6 i1 i2=>intro _;have:=i1 trivial;rw[eL]at this;exact i2 ⟨a _,afG (a _) (c _) this.1 this.2⟩
 case body nm r B h1 h2 h3 h4 ih=>
  intro b;rw[eL];exact⟨nib b (mG _ (by decide) (by decide)) (c _) (by split<;>exact mG _ (by decide) (by decide)) (mG _ (by decide) (by decide)),ih trivial⟩
 case tset x R E h1 h2 h3 h4 h5 h6 h7 i1 i2 i3=>
  intro _;have e:=h3.pos;have p2:=h4.pos;have d:=(x.app R).len_le;rw[Fo.sz_app]at d;simp only[eK,slk,bas]at e p2;rw[eL,od,od];exact⟨nib (a _) (mG _ (by decide) (by decide)) (c _) (mG _ (by decide) (by decide)) (mG _ (by omega) (by omega)),⟨i1 trivial,i2 trivial⟩,i3 trivial⟩
 all_goals
  intro b
  simp_all [eL,od,al6,Fo.all,nib,akr,fp,mG]
theorem ain(s:ByteArray)(p:Nat):wG (rdI s p).n:=by
 have a:wG 0:=mG _ (by decide) (by decide);unfold rdI;split
 ·exact a
 split
 ·split
  ·show wG (vI s p).2.1;unfold vI;split
   ·show wG (wrap64 _);unfold wrap64 wG;omega
   ·split
    ·rename_i c b;split at b
     ·cases b
     ·have:=acI _ _ _ _ b;exact⟨by show _<=(c:Int);omega,by show(c:Int)<=_;omega⟩
    ·exact a
  ·exact a
 split
 ·split<;>exact a
 split<;>exact a
theorem aa4(s:ByteArray)(n:s.size<=65536):∀(f:Nat)(st:List Int)(p:Nat)(l:Int)(c:List Tk),p<=s.size->0<=l->l+f<=1000000->(∀T∈c,TkI T)->∀T∈(uy s f st p l c).1,TkI T
 |0,st,p,l,c,m,b,t,h=>fun T hT=>by cases hT
 |f+1,st,p,l,c,m,b,t,h=>by
  have j:∀(i:Tk),TkI i->∀T∈c++[i],TkI T:=fun i b T hT=>by
   rcases List.mem_append.1 hT with hT|hT
   ·exact h T hT
   ·rw[List.mem_singleton.1 hT];exact b
  have o:∀(e:Int)(p d:Nat)(q:Int)(r:ByteArray),p<=s.size->0<=e->e<=78->d<=s.size->wG q->TkI ⟨e,(p:Nat),(d:Nat),l,q,r⟩:=fun e p d q r x z A B v=>⟨⟨z,A⟩,mG (p:Int) (by omega) (by omega),mG (d:Int) (by omega) (by omega),mG l b (by omega),v⟩;have k:∀g,g<=s.size->blk s (s.size+1) g<=s.size:=fun g y=>(mJ s (s.size+1) g y).2;rw[uy];split
  ·exact j _ (o _ _ _ _ _ (ae _) (by decide) (by decide) (ae _) (mG _ (by decide) (by decide)))
  ·rename_i x;split
   ·rename_i u;have a:=mq s p (by omega) (aeq s p u).1;split
    ·exact aa4 s n f _ _ _ _ (k _ a.2.1) (by omega) (by omega) (j _ (o _ _ _ _ _ m (by decide) (by decide) a.2.1 (ain s p)))
    ·exact aa4 s n f _ _ _ _ (k _ a.2.1) (by omega) (by omega) h
   ·split
    ·split
     ·rename_i w;have a:=mq s p (by omega) w;exact aa4 s n f _ _ _ _ (k _ a.2.1) b (by omega) (j _ (o _ _ _ _ _ m (Kl s p).1 (Kl s p).2 a.2.1 (ain s p)))
     ·exact fun T hT=>by cases hT
    ·exact fun T hT=>by cases hT
theorem aa5:∀(R:Fo)(b:Nat),∀z∈R.tops b,0<=z/\z<=((b+R.sz:Nat):Int)
 | .nil,b=>fun z hz=>by cases hz
 | .cons N k r,b=>fun z hz=>by
  rw[Fo.sz];rcases List.mem_cons.1 hz with rfl|hz
  ·exact⟨by omega,by omega⟩
  ·have:=aa5 r _ z hz;exact⟨by omega,by omega⟩
theorem Gm:∀(R:Fo)(b:Nat),∀N∈R.flat b,∀z∈N.ks,0<=z/\z<=((b+R.sz:Nat):Int)
 | .nil,b=>fun N hN=>by cases hN
 | .cons c k r,b=>fun N hN z a=>by
  rw[Fo.flat,AB,kG]at hN;rw[Fo.sz];rcases hN with hN|rfl|hN
  ·have:=Gm k b N hN z a;exact⟨by omega,by omega⟩
  ·have:=aa5 k b z a;exact⟨by omega,by omega⟩
  ·have:=Gm r _ N hN z a;exact⟨by omega,by omega⟩
theorem Jg:∀(l:List ByteArray),(∀s∈l,s.size<=1048576)->abc l<=1048576*l.length
 |[],_=>aL _
 |s::l,h=>by
  have c:=Jg l fun b a=>h b (dC _ a);have d:=h s bK;show s.size+abc l<=1048576*(l.length+1);omega
theorem Jh:∀(l:List Nd)(K:Nat),(∀N∈l,iA N)->abB l+1048577*K<=1048577*Gq K l
 |[],K,_=>by simp[abB,Gq]
 |N::l,K,h=>by
  have b:=Jh l (nxt K N) fun d c=>h d (dC _ c);have a:=h N bK;have e:=Jg N.nm a.ls;have f:=a.lx;show Ds N+abB l+1048577*K<=1048577*Gq (nxt K N) l;unfold nxt at b⊢;unfold Ds acD;omega
structure al7 (s:ByteArray) (c a:Int) (ns:List Nd):Prop where
 len:ns.length<=1048576
 sm:∀N∈ns,iA N
 int:∀N∈ns,xG N
 dz:(gy ns).size<=70368744177664
 cs:c=0\/c=1\/c=2
theorem CJ(s:ByteArray)(c a:Int)(h:c=0\/c=1\/c=2):al7 s c a []:=⟨aL _,fun d b=>(by cases b),fun d b=>(by cases b),(by decide),h⟩
theorem Gt.nn{s:ByteArray}{c a:Int}{ns:List Nd}(h:Gt s c a ns):al7 s c a ns:=by
 cases h with
 |big _=>exact CJ _ _ _ (.inr (.inr rfl))
 |at_ _ _ _=>exact CJ _ _ _ (.inr (.inl rfl))
 |@ok m af d ad F f b=>
  by_cases j:(dA (og s d)).1=0
  ·have k:okC (og s d)=0:=by unfold okC;rw[ab j]
   have e:okN (og s d)=og s d:=by unfold okN;rw[ab j]
   rw[k,e];have K:(og s d).length<=200001:=by
    have:=b.sz;unfold og;rw[Fo.flat_len,aA];omega
   have G:m=(jb s).1:=by
    unfold qk at f;split at f
    ·simp at f<;>omega
    split at f
    ·simp at f;exact f.symm
    ·simp at f<;>omega
   have B:∀l,TkI (uC m l):=fun l=>by
    unfold uC;rw[cp];cases hq:m[l]? with
    |none=>
     have i:wG (0:Int):=mG _ (by decide) (by decide);exact⟨⟨(by decide:(0:Int)<=0),(by decide:(0:Int)<=78)⟩,i,i,i,i⟩
    |some n=>
     have r:=cJ hq;rw[G]at r;exact aa4 s F _ _ _ _ _ (mJ s (s.size+1) 0 (aL _)).2 (by decide) (by omega) (fun n f=>by cases f) n r
   have E:=b.p.ni (by have:=b.le;omega) B trivial;have q:∀g∈og s d,xG g:=fun g e=>by
    have i:wG 0:=mG _ (by decide) (by decide);have C:=Gm _ _ g e;obtain⟨t,_⟩:=Bi NiB (fun g L h=>h) _ 0 ((eL _ _ d).2 ⟨⟨mG (1:Int) (by decide) (by decide),i,mG (s.size:Int) (by omega) (by omega),mG (1:Int) (by decide) (by decide),i,i⟩,E⟩) g e;obtain⟨u,v,w,x,y,z⟩:=t;refine⟨u,v,w,x,y,z,fun I H=>?_⟩;have o:=C I H;have A:=b.sz;rw[aA]at o;exact⟨by omega,by omega⟩
   refine⟨by omega,b.sm,q,?_,.inl rfl⟩;have o:=Kb _ q fun g e=>⟨(b.sm g e).l1,(b.sm g e).l2⟩;have A:=Jh _ 1 b.sm;have J:=b.ct;omega
  ·have e:okN (og s d)=[]:=by unfold okN;rw[aa j]
   have k:okC (og s d)=2:=by unfold okC;rw[aa j]
   rw[k,e];exact CJ _ _ _ (.inr (.inr rfl))
theorem afH(s:ByteArray)(p:Nat)(ks:List Int):∀(f n:Nat),p+n<=s.size->p+wrL s p ks f n<=s.size
 |0,n,h=>h
 |f+1,n,h=>by
  rw[wrL];split
  ·rename_i a;split
   ·omega
   ·exact afH s p ks f (n+1) (by omega)
  ·exact h
theorem afI(s:ByteArray):∀(f:Nat)(st:List Int)(p:Nat)(l:Int)(b:List Tk),p<=s.size->(uy s f st p l b).2.2<=(s.size:Int)
 |0,st,p,l,b,h=>by show(0:Int)<=_;omega
 |f+1,st,p,l,b,h=>by
  have c:∀q,q<=s.size->blk s (s.size+1) q<=s.size:=fun q e=>(mJ s (s.size+1) q e).2;rw[uy];split
  ·show(-1:Int)<=_;omega
  ·rename_i g;have d:=F8 s p (by omega);split
   ·split<;>exact afI s f _ _ _ _ (c _ d.2)
   ·split
    ·split
     ·exact afI s f _ _ _ _ (c _ d.2)
     ·show((rdI s p).a:Int)<=_;omega
    ·have:=afH s p (wh st) (s.size+1) 0 h;show((wrongF s p (wh st):Nat):Int)<=_;unfold wrongF;omega
theorem Gt.le{s:ByteArray}{c a:Int}{ns:List Nd}(h:Gt s c a ns):0<=a/\a<=(s.size:Int):=by
 cases h with
 |big _=>exact⟨by decide,by omega⟩
 |@at_ f _ d b=>
  refine⟨d,?_⟩;have e:(jb s).2.2<=(s.size:Int):=afI s _ _ _ _ _ (mJ s (s.size+1) 0 (aL _)).2;unfold qk at b;split at b
  ·simp at b<;>omega
  split at b<;>simp at b<;>omega
 |ok _ _ _=>exact⟨by decide,by omega⟩
theorem Gt.c1{s:ByteArray}{c a:Int}{ns:List Nd}(h:Gt s c a ns):c=1->s.size<=65536:=by
 cases h with
 |big _=>intro h;cases h
 |at_ h _ _=>exact fun _=>h
 |ok h _ _=>exact fun _=>h
theorem AnL.below{w W:World}(h:AnL w)(a:Below w.heap.size w W):AnL W:=by
 obtain⟨c,b,d,e⟩:=h;exact⟨ai a c,b,ai a d,ai a e⟩
theorem Ji(w:World)(s:ByteArray)(af:s.size<=9223372036854775807)(n:PL w)(u:AnL w)(o:zJ w):
  Calls Tryz.prog 3 #[.string s] w fun e J=>e= .returned (.bool true)/\Below w.heap.size w J:=by
 by_cases ad:1048576<s.size
 ·have H:(1048576:Int)<(s.size:Int):=by omega
  go_in;go_wp2_with fail;go_ret;exact⟨rfl,ag _ _⟩
 ·have H:¬(1048576:Int)<(s.size:Int):=by omega
  obtain⟨A,y,ns,f⟩:=akn s;have a:=f.nn;have i:=f.le;have m:(pi ns).size<=70368744177664:=by
   unfold pi;split
   ·exact a.dz
   ·exact aL _
  have p:=Ii w s (by omega) (ns:=ns) (D:=pi ns) a.cs i.1 i.2 m (Dn w s (by omega) f) (fun b j c=>Gk b j ns c a.len a.sm a.int a.dz) (fun q b C E=>jr q (by omega) (by omega) b);have g:=fun (b:World) (c:Below w.heap.size w b)=>Ih b s (ns:=ns) (D:=pi ns) a.cs i.1 i.2 f.c1 m (u.below c)
   (fun h d=>Dm h s (by omega) ((n.below c (ae _)).below d (ae _)) f)
   (fun h j d v=>Gl h j ns v a.len a.sm a.int a.dz ((o.below c).below d) (fun x t=>by
    have k:=((n.below c (ae _)).below d (ae _)).below t (ae _);obtain⟨I,B,F⟩:=k.lay.tabs.word;exact zK x j ns (v.below t) a.len a.sm k.lay.errs I B F (fun b G=>qu k.asc G (ae _))))
   (fun q h C E d=>tD q (by omega) (by omega) h ((o.below c).below d))
  generalize aeh s A y (pi ns)=L at p g;have r:=aw g;clear g f a i m n u o;go_in;go_wp2_with fail;refine aJ p fun K l=>?_;have g:=r.out K l;clear p r;go_wp2_with fail;refine aJ g fun ak z=>?_;clear g;go_wp2_with fail;go_ret;exact⟨rfl,l.trans (z.mono l.size)⟩
