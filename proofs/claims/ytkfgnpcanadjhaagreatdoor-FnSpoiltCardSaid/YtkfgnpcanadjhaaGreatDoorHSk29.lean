import Derived.Test.YtkfgnpcanadjhaaGreatDoorHSk26
import Derived.Test.YtkfgnpcanadjhaaGreatDoorHSk27
set_option linter.all false
set_option maxRecDepth 100000
set_option maxHeartbeats 6400000
namespace Go.Proofs.YtkfgnpcanadjhaaGreatDoor
open Go.RowKit
def PM(E:Pe):ul->Nat->Fo->Nat->Prop
 | .unit,i,R,j=>CU E i R j
 | .expr p,i,R,j=>CX E p i R j
 | .more p s x,i,R,j=>∃m,Ms E (CX E) p s m x i R j
 | .base,i,R,j=>CB E i R j
 | .post s x,i,R,j=>∃m,Je E (CX E 0) (CLx E) s m x i R j
 | .exprs,i,R,j=>CLx E i R j
 | .moreE,i,R,j=>∃m,Ls E (CX E 0) m i R j
 | .moreB,i,R,j=>∃m,Ls E (CB E) m i R j
 | .stat,i,R,j=>CI E 201 #[pV E] i R j
 | .stats,i,R,j=>∃m,Ss E (CI E 201 #[pV E]) m i R j
 | .block,i,R,j=>CK E i R j
 | .body s,i,R,j=>CBd E s i R j
 | .entry,i,R,j=>CI E 273 #[pV E] i R j
 | .entries,i,R,j=>∃m,Es E (CI E 273 #[pV E]) m i R j
 | .branch,i,R,j=>CBr E (E.tk i).k i R j
theorem ahE{k:Int}(a:k=5\/k=6\/k=43):dw k=false:=by rcases a with rfl|rfl|rfl<;>decide
theorem ahF{k:Int}(a:kC k=true):k=25\/k=50\/k=62\/k=69:=by
 have:=bi a
 omega
theorem brK{E:Pe}{k:Int}{i j:Nat}{R:Fo}(a:CBr E (E.tk i).k i R j)(e:(E.tk i).k=k):CBr E k i R j:=e ▸ a
theorem K5{E:Pe}(A:∀q,(E.tk q).k<=78){t:ul}{i j:Nat}{R:Fo}(u:P E.tk E.n t i R j):PM E t i R j:=by
 induction u with
 |upre a b d c=>have:=d.pos;simp only[ij]at this;exact mw (.pre (ahF a) rfl b c (by omega) (by omega))
 |uint a b=>exact mw (.int a b)
 |uflt a b=>exact mw (.word (.inl ⟨rfl,rfl⟩) a b)
 |ustr a b=>exact mw (.word (.inr ⟨rfl,rfl⟩) a b)
 |unil a b=>exact mw (.leaf (.inl ⟨rfl,rfl⟩) a b)
 |utru a b=>exact mw (.leaf (.inr (.inl ⟨rfl,rfl⟩)) a b)
 |ufls a b=>exact mw (.leaf (.inr (.inr (.inl ⟨rfl,rfl⟩))) a b)
 |urst a b=>exact mw (.leaf (.inr (.inr (.inr ⟨rfl,rfl⟩))) a b)
 |ufn a b d c=>exact mw (.fn a b c)
 |utab a b d e f c=>obtain⟨g,c⟩:=c;exact acu a b c e f
 |ubas a b d c=>exact mw (.base a rfl b c)
 |ex a b d e h m=>obtain⟨g,c⟩:=m;exact ahs a b A h c
 |mstop a b=>exact⟨0,.stop a b⟩
 |mgo a b d e f m w=>obtain⟨g,c⟩:=w;have:=e.pos;simp only[ij]at this;exact⟨g+1,.go a b d m (by omega) (by omega) c⟩
 |bname a b d c=>obtain⟨g,c⟩:=c;have:=d.pos;simp only[ij]at this;exact act a b .name (by omega) c
 |@bopen i k j s z R a b d e f l h p=>
  obtain⟨g,c⟩:=p
  have:=d.pos
  have:=l.pos
  simp only[ij]at *
  by_cases v:s.k=34\/s.k=27
  ·rw[show od s z (E.tk i) (E.tk k).t=_ from ab v]at c
   exact act a b (.held h e (by omega) v rfl) (by omega) c
  ·rw[show od s z (E.tk i) (E.tk k).t=_ from aa v]at c
   exact act a b (.par h e (by omega) (by simp;omega) (by simp;omega)) (by omega) c
 |pstop a b=>exact⟨0,.stop a b⟩
 |pdot a b d e c=>obtain⟨g,c⟩:=c;have:=e.pos;exact⟨g+1,.dot a b (by omega) c⟩
 |psq a b d e f l h p=>obtain⟨g,c⟩:=p;have:=d.pos;simp only[ij]at this;have:=l.pos;exact⟨g+1,.sq a b h e (by omega) c⟩
 |pcall0 a b d e c=>obtain⟨g,c⟩:=c;have:=e.pos;exact⟨g+1,.call0 a b (by omega) c⟩
 |pcall a b d e f l o m r=>obtain⟨g,c⟩:=r;have:=e.pos;simp only[ij]at this;have:=o.pos;exact⟨g+1,.call a b d m f (by omega) c⟩
 |es a b C F=>obtain⟨g,c⟩:=F;exact ae5 C c
 |estop a b=>exact⟨0,.stop a b⟩
 |ego a b d e h m=>obtain⟨g,c⟩:=m;exact⟨g+1,.go a b h c⟩
 |bstop a b=>exact⟨0,.stop a b⟩
 |bgo a b d e h m=>obtain⟨g,c⟩:=m;exact⟨g+1,.go a b h c⟩
 |@body i k j al ad ak L a b d e c=>
  obtain⟨g,I,J,af,K⟩:=Pt.of d
  have:=e.pos
  simp only[ij]at this
  obtain⟨y,rfl⟩:∃y,k=y+1:=⟨k-1,by omega⟩
  exact ahq a b I J K c (by omega) (by omega)
 |block a b d e f c=>obtain⟨g,c⟩:=c;exact mw (.block a b (Jf (.inl rfl) e c) e f)
 |sstop a b=>exact⟨0,.stop b⟩
 |ssep a b d c=>obtain⟨g,c⟩:=c;exact⟨g+1,.sep a b c⟩
 |sgo a b d e f l w p=>obtain⟨g,c⟩:=p;exact⟨g+1,.go a b d e w c⟩
 |nstop a b=>exact⟨0,.stop a b⟩
 |ncom a b d e f l h p=>obtain⟨g,c⟩:=p;exact⟨g+1,.com a b h e f c⟩
 |nlast a b d e f l h p=>obtain⟨g,c⟩:=p;exact⟨g+1,.last a b h e f c⟩
 |item a b d e f c=>have:=f.pos;simp only[ij]at this;exact Di d e (.item a b c (by omega) (by omega))
 |pair a b d e f l o h r=>have:=d.pos;have:=o.pos;simp only[ij]at *;exact Di (by omega) (by omega) (.pair a h e f l r (by omega) (by omega))
 |named a b d e f c=>have:=f.pos;simp only[ij]at this;exact Di (by omega) (by omega) (.named a b d e c (by omega) (by omega))
 |belif a b d e f l o h m r=>have:=d.pos;have:=e.pos;have:=o.pos;simp only[ij]at *;exact gb (.belif a rfl b h m l f (brK r f) (by omega) (by omega))
 |belse a b d e f l o h m r=>have:=d.pos;have:=e.pos;have:=o.pos;simp only[ij]at *;exact gb (.belse a rfl b h m l f r (by omega) (by omega))
 |bno a b d e f l o h m=>have:=d.pos;have:=e.pos;simp only[ij]at *;exact gb (.bno a rfl b h m (by omega) o f l)
 |tlet0 a b d e f=>have:=e.pos;exact gb (.let0 a (by omega) (rt d b e) (by omega) (by omega) f)
 |tlet a b d e f l c=>have:=e.pos;have:=l.pos;simp only[ij]at *;exact gb (.let1 a (by omega) (rt d b e) (by omega) f c (by omega) (by omega))
 |@tcon i j am a b d e f c=>have:=f.pos;simp only[ij]at *;exact gb (.con a (by omega) (rt b (by omega) (.stop (by rw[d];decide) (by omega))) (by omega) d c (by omega) (by omega))
 |tfn a b d e f c=>have:=f.pos;simp only[ij]at *;exact ae6 a b d e c (by omega) (by omega)
 |tif a b d c=>exact gb (.iff a b (brK c a))
 |twhile a b d e h m=>have:=d.pos;have:=e.pos;simp only[ij]at *;exact gb (.whl a b h m (by omega) (by omega))
 |tfor a b d e f l o p r=>have:=e.pos;have:=l.pos;have:=o.pos;simp only[ij]at *;exact gb (.for_ a (by omega) (gb (.lfor a (by omega) (rt d b e) (by omega) f p r (by omega) (by omega))))
 |teach a b d e f l o x B p H=>have:=e.pos;have:=l.pos;have:=B.pos;simp only[ij]at *;exact gb (.for_ a (by omega) (gb (.leach a (by omega) (rt d b e) (by omega) f p H (by omega) (by omega))))
 |tbreak a b=>exact gb (.leaf (.inl ⟨rfl,rfl⟩) a b)
 |tnext a b=>exact gb (.leaf (.inr ⟨rfl,rfl⟩) a b)
 |tret0 a b d=>exact gb (.ret0 a b (ahE d))
 |tret a b d e c=>have:=e.pos;simp only[ij]at *;exact gb (.ret1 a b d c (by omega) (by omega))
 |ttry a b d e f l o x h G=>have:=d.pos;have:=o.pos;have:=x.pos;simp only[ij]at *;exact gb (.try_ a b h e (by omega) (rt l f o) G (by omega) (by omega))
 |tthrow a b d c=>have:=d.pos;simp only[ij]at *;exact gb (.thr a b c (by omega) (by omega))
 |tdefer a b d c=>have:=d.pos;simp only[ij]at *;exact gb (.dfr a b c (by omega) (by omega))
 |tblock a b d c=>exact gb (.blk a b c)
 |tdo a b d e f l c=>have:=d.pos;simp only[ij]at *;exact gb (.smp a rfl b (Ff a rfl b c (.inl ⟨e,f,l,rfl,rfl⟩) (by omega)))
 |tset a b d e f l o h m r=>obtain⟨g,m⟩:=m;have:=d.pos;have:=e.pos;have:=o.pos;simp only[ij]at *;exact gb (.smp a rfl b (Ff a rfl b h (.inr ⟨_,_,_,g,by cases m with|stop _ _=>exact .inr f|go u _ _ _=>exact .inl u,m,f,l,r,by omega,by omega,rfl⟩) (by omega)))
open Go.Maps Go.WideMaps
theorem Am(w:World)(s:ByteArray)(c:65536<s.size)(b:s.size<=1048576):Calls Tryz.prog 36 #[.string s] w (PsP w 2 0 []):=by
 have d:∀w:World,(zeroValue 90).run Tryz.prog w= .ok (.agg #[.int .i64 0,.int .i64 0,.slice none 0 0]) w:=fun w=>by kernel_rfl
 have a:(65536:Int)<(s.size:Int):=by omega
 go_in
 go_wp2_with fail
 exact aH (du rfl _ _ w.heap.size _ _ _ _ rfl (ay w _) Tryz.underlying90 rfl (by kernel_rfl)) rfl (show PsP _ _ _ _ _ _ from⟨_,rfl,G1 _,dh w _⟩)
theorem Do(w:World)(s:ByteArray)(h:s.size<=65536){z:Int}(u:0<=z)(e:kJ s=([],z)):Calls Tryz.prog 36 #[.string s] w (PsP w 1 z []):=by
 have t:∀w:World,(zeroValue 90).run Tryz.prog w= .ok (.agg #[.int .i64 0,.int .i64 0,.slice none 0 0]) w:=fun w=>by kernel_rfl
 have r:¬(65536:Int)<(s.size:Int):=by omega
 have a:=fun w=>pF w s h
 unfold TkP at a
 rw[e]at a
 clear e
 have b:=dh w (.cells #[.int .i64 0,.int .i64 0,.slice none 0 0] 90)
 have c:=ay w (.cells #[.int .i64 0,.int .i64 0,.slice none 0 0] 90)
 go_in
 go_wp2_with fail
 generalize w.alloc (.cells #[.int .i64 0,.int .i64 0,.slice none 0 0] 90)=j at b c⊢
 refine(a _).mono ?_
 rintro p i ⟨k,l,rfl,_,d⟩
 have f:=(d.block _ (aw c)).trans c
 have g:Below w.heap.size w i:=b.trans (d.mono b.size)
 obtain⟨m,n,o,q⟩:=row3 f
 clear a
 go_wp2_with fail
 exact aH (du rfl _ _ w.heap.size _ _ _ _ rfl (set3 f _ _ _) Tryz.underlying90 rfl (by kernel_rfl)) rfl (show PsP _ _ _ _ _ _ from⟨_,rfl,G1 _,ab0 g _ _ _⟩)
theorem Dp(w:World)(s:ByteArray)(b4:s.size<=65536){toks:List Tk}{m:Nat}{R:Fo}{b8:Int}(a7:kJ s=(toks, -1))(a2:PF s toks m R b8):Calls Tryz.prog 36 #[.string s] w (PsP w (okC (rF s R)) 0 (okN (rF s R))):=by
 have cp:∀w:World,(zeroValue 90).run Tryz.prog w= .ok (.agg #[.int .i64 0,.int .i64 0,.slice none 0 0]) w:=fun w=>by kernel_rfl
 have cm:¬(65536:Int)<(s.size:Int):=by omega
 have y:=fun w=>pF w s b4
 unfold TkP at y
 rw[a7]at y
 clear a7
 obtain⟨f,al⟩:=aE toks.length
 have a:=eJ a2 al
 simp only[al]at y
 clear a2 al
 have L:=dh w (.cells #[.int .i64 0,.int .i64 0,.slice none 0 0] 90)
 have am:=ay w (.cells #[.int .i64 0,.int .i64 0,.slice none 0 0] 90)
 go_in
 go_wp2_with fail
 generalize w.alloc (.cells #[.int .i64 0,.int .i64 0,.slice none 0 0] 90)=cb at L am⊢
 refine(y _).mono ?_
 rintro bw b ⟨o,e,rfl,bn,a4⟩
 have an:=(a4.block _ (aw am)).trans am
 have a6:Below w.heap.size w b:=L.trans (a4.mono L.size)
 have bc:f=m+1:=by rw[<-a.out.2];exact a.out.1.len
 obtain⟨i,C,rfl,bb,a8⟩:∃i C,o=some ⟨i,0,none⟩/\b.heap[i]?=some (.cells C 205 (0,0))/\TkR C (rE toks) f:=by
  rcases bn.2 with⟨_,j⟩|⟨bA,cc,bv,b7,cl,bF,ce,cg,ck,bE⟩
  ·omega
  ·cases b7
   exact⟨bA,bv,rfl,bF,ahe bE a.out.2 (fun b9 ca bd=>by rw[GC bd];exact⟨rfl,fun _=>rfl⟩)⟩
 obtain⟨b9,hS⟩:PM ⟨b.heap.size,b.heap.size+1,i,e,f,rE toks⟩ .stats 0 R m:=K5 (E:=⟨b.heap.size,b.heap.size+1,i,e,f,rE toks⟩) a.out.1.k78 (bc ▸ a.out.1.p)
 have bl:=ae7 s b i e f m (rE toks) C (0,0) bb a8 (by have:=a.out.1.le;omega) (by omega) (R:=R) (Jf (E:=⟨b.heap.size,b.heap.size+1,i,e,f,rE toks⟩) (.inr rfl) (by show(rE toks m).k=6;rw[a.out.1.end_]) hS) (by have:=a.out.1.sz;omega)
 clear hS
 clear y bn bb a8 bc
 go_wp2_with fail
 refine bl.mono ?_
 rintro bw d ⟨bo,I,rfl,ar,ak,a5⟩
 have a0:dK d bo (rF s R):=by have:=ar.nds;rw[ak]at this;exact this
 have v:=(a5.block _ (aw an)).trans an
 have ad:Below w.heap.size w d:=a6.trans (a5.mono a6.size)
 obtain⟨q,z,t,rfl⟩:∃o f e,bo= .slice o f e:=by obtain⟨o,e,F⟩:=a0.form;exact⟨o,_,e,F⟩
 have b0:=a.out.1.ct
 have b1:(rF s R).length<=1048576:=by
  have:=a.out.1.sz
  unfold rF
  rw[Fo.flat_len,dq]
  omega
 have ap:=fun k=>so (d.alloc k) (.slice q z t) (rF s R) (a0.below (dh d k)) b1 a.out.1.sm
 have a3:Hid (Lw d b.heap.size (.slice q z t) I/\I.map Mb.N=rF s R):=⟨ar,ak⟩
 have l:Hid (okC (rF s R)=(if(bu (rF s R)).1=0 then 0 else 2)/\okN (rF s R)=(if(bu (rF s R)).1=0 then rF s R else [])):=⟨rfl,rfl⟩
 obtain⟨H,ao⟩:=aE ((bu (rF s R)).1)
 obtain⟨B,bk⟩:=aE ((bu (rF s R)).2)
 rw[ao]at l
 simp only[ao,bk]at ap
 have a9:=ay d (.cells #[.slice q z t] 25)
 have u:=dh d (.cells #[.slice q z t] 25)
 have b5:=u.size
 clear bl a0 ao bk b0 ar ak
 go_wp2_with fail
 refine dG (ap _) fun c r=>?_
 have ba:=(r.block _ (aw a9)).trans a9
 have bf:=(r.block _ (aw ((u.block _ (aw v)).trans v))).trans ((u.block _ (aw v)).trans v)
 have G:Below w.heap.size w c:=(ad.trans (u.mono ad.size)).trans (r.mono (ch ad.size b5))
 have cf:=aw ba
 clear ap
 have A:∀(h:Nat)(J:Array Value)(a1:TypeId)(K:Nat×Nat)(k:Obj),c.heap[h]?=some (.cells J a1 K)->(c.alloc k).heap[h]?=some (.cells J a1 K):=fun h J a1 K k F=>((dh c k).block _ (aw F)).trans F
 have cn:w.heap.size≠d.heap.size:=by have:=aw v;omega
 by_cases j:H=0
 ·subst j
  have x:=A _ _ _ _ (.cells #[.int .i64 0,.int .i64 B] 28) bf
  obtain⟨br,bs,bt,bx⟩:=row3 x
  have cq:(c.alloc (.cells #[.int .i64 0,.int .i64 B] 28)).cell? ⟨d.heap.size,0,none⟩=some (.slice q z t):=by rw[au _ _ _ _ _ _ (A _ _ _ _ _ ba)];rfl
  have g:=l.out
  rw[ab rfl,ab rfl]at g
  have n:=aj g
  have af:Below w.heap.size w (c.alloc (.cells #[.int .i64 0,.int .i64 B] 28)):=G.trans ((dh c _).mono G.size)
  clear g l A
  go_wp2_with fail
  exact aH (du rfl _ _ w.heap.size _ _ _ _ rfl (set3 x _ _ _) Tryz.underlying90 rfl (by kernel_rfl)) rfl (show PsP w (okC (rF s R)) 0 (okN (rF s R)) _ _ from by rw[n.out.1,n.out.2];exact⟨_,rfl,⟨I,_,a3.out.2,a3.out.1.mono fun h cd bD=>(aiE (by have:=aw an;omega) _ _ _).trans (((dh c _).block h (by have:=r.size;omega)).trans ((r.block h (by omega)).trans (u.block h bD)))⟩,ab0 af _ _ _⟩)
 ·have x:=A _ _ _ _ (.cells #[.int .i64 H,.int .i64 B] 28) bf
  obtain⟨br,bs,bt,bx⟩:=row3 x
  have g:=l.out
  rw[aa j,aa j]at g
  have n:=aj g
  have bd:(H==0)=false:=by simpa using j
  have af:Below w.heap.size w (c.alloc (.cells #[.int .i64 H,.int .i64 B] 28)):=G.trans ((dh c _).mono G.size)
  clear g l j A
  go_wp2_with fail
  exact aH (du rfl _ _ w.heap.size _ _ _ _ rfl (set3 x _ _ _) Tryz.underlying90 rfl (by kernel_rfl)) rfl (show PsP w (okC (rF s R)) 0 (okN (rF s R)) _ _ from by rw[n.out.1,n.out.2];exact⟨_,rfl,G1 _,ab0 af _ _ _⟩)
theorem Ao(w:World)(s:ByteArray)(i:s.size<=1048576){c a:Int}{e:List Nd}(h:Out s c a e):Calls Tryz.prog 36 #[.string s] w (PsP w c a e):=by
 cases h with
 |big b=>exact Am w s b i
 |at_ b g d=>exact Do w s b g d
 |ok b d f=>exact Dp w s b d f
def K6(T:Tk):Prop:=(0<=T.k/\T.k<=78)/\sy T.f/\sy T.t/\sy T.l/\sy T.n
def NiB(N:Nd):Prop:=sy N.k/\sy N.f/\sy N.t/\sy N.l/\sy N.op/\sy N.n
def ajf:ul->Prop
 | .more _ s x=>K6 s/\x.all NiB
 | .post s a=>K6 s/\a.all NiB
 | .body s=>K6 s
 |_=>True
theorem nib{k e op m:Int}{s:Tk}{x:ByteArray}{nm:List ByteArray}(a:K6 s)(c:sy k)(b:sy e)(f:sy op)(d:sy m):NiB (nd k s e op m x nm):=⟨c,a.2.1,b,a.2.2.2.1,f,d⟩
theorem afg{k e:Int}{s:Tk}(c:K6 s)(b:sy e)(d:0<=k)(f:k<=78):NiB (uB k s e):=by
 have a:sy 0:=kK _ (by decide) (by decide)
 unfold uB kD
 split
 ·exact nib c (kK _ (by decide) (by decide)) b a a
 split
 ·exact nib c (kK _ (by decide) (by decide)) b a a
 ·exact nib c (kK _ (by decide) (by decide)) b ⟨by omega,by omega⟩ a
theorem ahG(k:Int):sy (J3 k):=by
 unfold J3
 split
 ·exact kK _ (by decide) (by decide)
 split
 ·exact kK _ (by decide) (by decide)
 split<;>exact kK _ (by decide) (by decide)
theorem acI{N:Nd}{ks:Fo}{s:Tk}{e:Int}(f:K6 s)(d:sy e)(a:NiB N)(b:ks.all NiB):(od N ks s e).all NiB:=by
 have c:sy 0:=kK _ (by decide) (by decide)
 unfold od
 split
 ·rw[eE,eE];exact⟨nib f (kK _ (by decide) (by decide)) d c c,a,b⟩
 ·rw[eE];exact⟨a,b⟩
theorem P.ni{tk:Nat->Tk}{n:Nat}(h:n<=100000)(a:∀q,K6 (tk q)){t:ul}{i j:Nat}{R:Fo}(d:P tk n t i R j):ajf t->R.all NiB:=by
 have c:∀q,sy (tk q).t:=fun q=>(a q).2.2.1
 have g:∀q,sy (tk q).n:=fun q=>(a q).2.2.2.2
 induction d
 case mgo s x y R k k1 j h1 h2 h3 h4 h5 i1 i2=>intro b;exact i2 ⟨b.1,(eE _ _ _).2 ⟨afg b.1 (c _) (a k).1.1 (a k).1.2,(ly _ _ _).2 ⟨b.2,i1 trivial⟩⟩⟩
 case bopen h1 h2 h3 h4 h5 h6 i1 i2=>intro _;have:=i1 trivial;rw[eE]at this;exact i2 ⟨a _,acI (a _) (c _) this.1 this.2⟩
 case body nm r B h1 h2 h3 h4 ih=>
  intro b
  rw[eE]
  exact⟨nib b (kK _ (by decide) (by decide)) (c _) (by split<;>exact kK _ (by decide) (by decide)) (kK _ (by decide) (by decide)),ih trivial⟩
 case tset x R E h1 h2 h3 h4 h5 h6 h7 i1 i2 i3=>
  intro _
  have f:=h3.pos
  have p2:=h4.pos
  have e:=(x.app R).len_le
  rw[Fo.sz_app]at e
  simp only[ij,slk,bas]at f p2
  rw[eE,ly,ly]
  exact⟨nib (a _) (kK _ (by decide) (by decide)) (c _) (kK _ (by decide) (by decide)) (kK _ (by omega) (by omega)),⟨i1 trivial,i2 trivial⟩,i3 trivial⟩
 all_goals
  intro b
  simp_all [eE,ly,ajf,Fo.all,nib,ahG,kD,kK]
theorem Jl(s:ByteArray)(n:s.size<=65536):∀(f:Nat)(st:List Int)(p:Nat)(l:Int)(c:List Tk),p<=s.size->0<=l->l+f<=1000000->(∀T∈c,K6 T)->∀T∈(tF s f st p l c).1,K6 T
 |0,st,p,l,c,m,b,t,j=>fun T hT=>by cases hT
 |f+1,st,p,l,c,m,b,t,j=>by
  have i:∀(h:Tk),K6 h->∀T∈c++[h],K6 T:=fun h b T hT=>by
   rcases List.mem_append.1 hT with hT|hT
   ·exact j T hT
   ·rw[List.mem_singleton.1 hT];exact b
  have o:∀(e:Int)(p d:Nat)(q:Int)(r:ByteArray),p<=s.size->0<=e->e<=78->d<=s.size->sy q->K6 ⟨e,(p:Nat),(d:Nat),l,q,r⟩:=fun e p d q r x z A B v=>⟨⟨z,A⟩,kK (p:Int) (by omega) (by omega),kK (d:Int) (by omega) (by omega),kK l b (by omega),v⟩
  have k:∀g,g<=s.size->blk s (s.size+1) g<=s.size:=fun g y=>(jH s (s.size+1) g y).2
  rw[tF]
  split
  ·exact i _ (o _ _ _ _ _ (ah _) (by decide) (by decide) (ah _) (kK _ (by decide) (by decide)))
  ·rename_i x
   split
   ·rename_i u
    have a:=jB s p (by omega) (abn s p u).1
    split
    ·exact Jl s n f _ _ _ _ (k _ a.2.1) (by omega) (by omega) (i _ (o _ _ _ _ _ m (by decide) (by decide) a.2.1 (afJ s p)))
    ·exact Jl s n f _ _ _ _ (k _ a.2.1) (by omega) (by omega) j
   ·split
    ·split
     ·rename_i w
      have a:=jB s p (by omega) w
      exact Jl s n f _ _ _ _ (k _ a.2.1) b (by omega) (i _ (o _ _ _ _ _ m (GA s p).1 (GA s p).2 a.2.1 (afJ s p)))
     ·exact fun T hT=>by cases hT
    ·exact fun T hT=>by cases hT
theorem Jm:∀(R:Fo)(b:Nat),∀z∈R.tops b,0<=z/\z<=((b+R.sz:Nat):Int)
 | .nil,b=>fun z hz=>by cases hz
 | .cons N k r,b=>fun z hz=>by
  rw[Fo.sz]
  rcases List.mem_cons.1 hz with rfl|hz
  ·exact⟨by omega,by omega⟩
  ·have:=Jm r _ z hz;exact⟨by omega,by omega⟩
theorem Dq:∀(R:Fo)(b:Nat),∀N∈R.flat b,∀z∈N.ks,0<=z/\z<=((b+R.sz:Nat):Int)
 | .nil,b=>fun N hN=>by cases hN
 | .cons c k r,b=>fun N hN z a=>by
  rw[Fo.flat,BC,gi]at hN
  rw[Fo.sz]
  rcases hN with hN|rfl|hN
  ·have:=Dq k b N hN z a;exact⟨by omega,by omega⟩
  ·have:=Jm k b z a;exact⟨by omega,by omega⟩
  ·have:=Dq r _ N hN z a;exact⟨by omega,by omega⟩
theorem Ft:∀(l:List ByteArray),(∀s∈l,s.size<=1048576)->Jt l<=1048576*l.length
 |[],_=>aJ _
 |s::l,a=>by
  have d:=Ft l fun c b=>a c (ep _ b)
  have e:=a s da
  show s.size+Jt l<=1048576*(l.length+1)
  omega
theorem Fu:∀(l:List Nd)(a:Nat),(∀N∈l,fm N)->Jz l+1048577*a<=1048577*Fy a l
 |[],a,_=>by simp[Jz,Fy]
 |N::l,a,b=>by
  have d:=Fu l (nxt a N) fun f e=>b f (ep _ e)
  have c:=b N da
  have g:=Ft N.nm c.ls
  have h:=c.lx
  show Aw N+Jz l+1048577*a<=1048577*Fy (nxt a N) l
  unfold nxt at d⊢
  unfold Aw aaf
  omega
structure ajg (s:ByteArray) (c a:Int) (ns:List Nd):Prop where
 len:ns.length<=1048576
 sm:∀N∈ns,fm N
 int:∀N∈ns,rA N
 dz:(Ig ns).size<=70368744177664
 cs:c=0\/c=1\/c=2
theorem zD(s:ByteArray)(c a:Int)(e:c=0\/c=1\/c=2):ajg s c a []:=⟨aJ _,fun d b=>(by cases b),fun d b=>(by cases b),(by decide),e⟩
theorem Out.nn{s:ByteArray}{c a:Int}{t:List Nd}(j:Out s c a t):ajg s c a t:=by
 cases j with
 |big _=>exact zD _ _ _ (.inr (.inr rfl))
 |at_ _ _ _=>exact zD _ _ _ (.inr (.inl rfl))
 |@ok m ak d af G f b=>
  by_cases i:(bu (rF s d)).1=0
  ·have k:okC (rF s d)=0:=by unfold okC;rw[ab i]
   have e:okN (rF s d)=rF s d:=by unfold okN;rw[ab i]
   rw[k,e]
   have L:(rF s d).length<=200001:=by
    have:=b.sz
    unfold rF
    rw[Fo.flat_len,dq]
    omega
   have H:m=(js s).1:=by
    unfold kJ at f
    split at f
    ·simp at f<;>omega
    split at f
    ·simp at f;exact f.symm
    ·simp at f<;>omega
   have C:∀l,K6 (rE m l):=fun l=>by
    unfold rE
    rw[aL]
    cases hq:m[l]? with
    |none=>
     have h:sy (0:Int):=kK _ (by decide) (by decide)
     exact⟨⟨(by decide:(0:Int)<=0),(by decide:(0:Int)<=78)⟩,h,h,h,h⟩
    |some n=>
     have r:=bJ hq
     rw[H]at r
     exact Jl s G _ _ _ _ _ (jH s (s.size+1) 0 (aJ _)).2 (by decide) (by omega) (fun n f=>by cases f) n r
   have F:=b.p.ni (by have:=b.le;omega) C trivial
   have q:∀g∈rF s d,rA g:=fun g e=>by
    have h:sy 0:=kK _ (by decide) (by decide)
    have E:=Dq _ _ g e
    obtain⟨u,_⟩:=xy NiB (fun g ad j=>j) _ 0 ((eE _ _ d).2 ⟨⟨kK (1:Int) (by decide) (by decide),h,kK (s.size:Int) (by omega) (by omega),kK (1:Int) (by decide) (by decide),h,h⟩,F⟩) g e
    obtain⟨v,w,x,y,z,A⟩:=u
    refine⟨v,w,x,y,z,A,fun J I=>?_⟩
    have o:=E J I
    have B:=b.sz
    rw[dq]at o
    exact⟨by omega,by omega⟩
   refine⟨by omega,b.sm,q,?_,.inl rfl⟩
   have o:=Ge _ q fun g e=>⟨(b.sm g e).l1,(b.sm g e).l2⟩
   have B:=Fu _ 1 b.sm
   have K:=b.ct
   omega
  ·have e:okN (rF s d)=[]:=by unfold okN;rw[aa i]
   have k:okC (rF s d)=2:=by unfold okC;rw[aa i]
   rw[k,e]
   exact zD _ _ _ (.inr (.inr rfl))
theorem afh(a:World)(c:Nat)(an:List Nd)(L:List Im)(base:Nat)(bF:Value)(bs:Tp a an L base bF)(t:Nat)(ht:t<=100000)(i:Nat)(bx:i<an.length)(N:Nd)(bv:ae an i=N)(b6:N.ks.length<=1048576)(S:Int->Nat->ByteArray)(hS:∀z∈N.ks,zH a c L (t+1) z (S z (t+1))):
  Pw a c 48 #[vP c,fJ a t,nV (jo L i)] (wA S N.ks t):=by
 intro h b r
 obtain⟨J,cf,a4,j,a5,ak,q⟩:=rx bs bx
 rw[bv]at ak q
 have E:=fun b=>de J b
 have ca:=fun b=>mj a.heap.size (ek t) b
 have b8:=fun b=>CJ a.heap.size (ek t) b
 have b7:=fun b=>ID a.heap.size (ek t) b
 have b9:=fun b=>CJ a.heap.size (ek (t+1)) b
 have B:=q.hn
 have bD:=fun b=>mq (dL N.k) J b
 have a2:Hid (Pw a c 306 #[kF a t,.string ⟨#[123]⟩] ⟨#[123]⟩):=iw a c t _ (by decide)
 have bl:Hid (Pw a c 305 #[kF a (t+1)] (fK (t+1))):=C5 a c (t+1) (by omega)
 have bn:Hid (Pw a c 305 #[kF a t] (fK t)):=C5 a c t (by omega)
 have bo:Hid (∀l:World,Calls Tryz.prog 304 #[kF a t] l fun g k=>g= .returned (fJ a (t+1))/\Below l.heap.size l k):=fun l=>Kh a t (by omega) l
 have bk:Hid (∀z∈N.ks,Pw a c 83 #[vP c,fJ a (t+1),nV (jo L z)] (S z (t+1))):=hS
 have a3:Hid (∀h b,Ps a c h b->∀G,CallsD Tryz.prog 306 #[kF a t,.string ⟨#[125]⟩] G b fun g ao k=>ao=G/\(g= .returned (.tuple #[])/\Ps a c (h++⟨#[125]⟩) k/\Kq a.heap.size b k)):=fun h b r G=>jC a c t _ h (by decide) G b r
 have K:Hid (∀l,Below a.heap.size a l->l.cell? ⟨J,5,none⟩=some (.slice a4 j a5)):=fun l bw=>(q.cells bw).2.1
 have a0:Hid (Ps a c h b):=r
 have ar:=K.out _ r.pg.bel
 rw[ak]
 obtain⟨e,A⟩:∃e,(N.ks.map fun d=>fK (t+1)++S d (t+1))=e:=⟨_,rfl⟩
 have a7:e.length=j:=by rw[<-A,aI];exact B
 have H:Hid (wA S N.ks t=if N.ks=[] then⟨#[123,125]⟩ else⟨#[123]⟩++fC e++fK t++⟨#[125]⟩):=by show _=_;unfold wA;rw[A]
 have y:Hid (nK a L (.slice a4 j a5) N.ks/\N.ks.length=j/\e.length=j/\(N.ks.map fun d=>fK (t+1)++S d (t+1))=e):=⟨q.ks,B,a7,A⟩
 generalize jd (dL N.k)=ce at bD⊢
 unfold fJ kF at *
 generalize ek t=cd at *
 generalize ek (t+1)=bE at *
 clear r q ak A a7 hS
 by_cases ad:j=0
 ·have s:N.ks=[]:=fj (by omega)
  rw[H.out,ab s]
  subst ad
  clear s
  go_enter_defers Tryz.func48,Tryz.ntmps48
  go_wp2_with (first|(go_at_call 307;refine(E _).mono ?_;rintro g k ⟨rfl,al⟩;subst k)|(go_at_call 306;fail))
  refine(a2.out _ _ a0.out).mono ?_
  rintro g w ⟨rfl,m,v⟩
  have p:Hid (Ps a c (h++⟨#[123]⟩) w/\Kq a.heap.size b w):=⟨m,v⟩
  have ar:=K.out _ m.pg.bel
  clear m v
  go_wp2_with (first|(go_at_call 307;refine(E _).mono ?_;rintro g k ⟨rfl,al⟩;subst k))
  refine pf (f:=306) (by simp) (pE _ _ _ _) ?_
  refine(a3.out _ _ p.out.1 .returning).mono ?_
  rintro g ao b1 ⟨rfl,rfl,F,am⟩
  refine⟨_,gx rfl _ _ _,rfl,?_,p.out.2.trans am⟩
  rw[be]at F
  exact F
 ·have s:N.ks≠[]:=fun g=>ad (by rw[g]at B;simpa using B.symm)
  have bf:Hid (wA S N.ks t=⟨#[123]⟩++fC e++fK t++⟨#[125]⟩):=by show _=_;rw[H.out,aa s]
  have cb:¬(j:Int)=0:=by omega
  have cc:((j:Int)==0)=false:=by simpa using ad
  clear s H
  go_enter_defers Tryz.func48,Tryz.ntmps48
  go_wp2_with (first|(go_at_call 307;refine(E _).mono ?_;rintro g k ⟨rfl,al⟩;subst k)|(go_at_call 306;fail))
  refine(a2.out _ _ a0.out).mono ?_
  rintro g w ⟨rfl,m,v⟩
  have p:Hid (Ps a c (h++⟨#[123]⟩) w/\Kq a.heap.size b w):=⟨m,v⟩
  have ar:=K.out _ m.pg.bel
  clear m v
  go_wp2_with (first|(go_at_call 307;refine(E _).mono ?_;rintro g k ⟨rfl,al⟩;subst k)|(go_at_call 304;fail))
  refine(bo.out _).mono ?_
  rintro g bb ⟨rfl,af⟩
  have a1:Hid (Ps a c (h++⟨#[123]⟩) bb/\Kq a.heap.size b bb):=⟨p.out.1.below af,p.out.2.trans (Kq.of_below af)⟩
  clear af
  go_wp2_with fail
  go_loopw [26] (fun ap wr=>∃d:Nat,d<=j/\ap= .int .i64 d/\Hid (Ps a c (h++⟨#[123]⟩++fC (e.take d)) wr/\Kq a.heap.size b wr)) (fun ap _=>j-(intOf ap).toNat)
  case atStart=>exact⟨0,by omega,rfl,by rw[show h++⟨#[123]⟩++fC (e.take 0)=h++⟨#[123]⟩ from ByteArray.append_empty];exact a1.out.1,a1.out.2⟩
  case round=>
   clear ar
   obtain⟨d,b3,rfl,n⟩:=hrel
   by_cases bA:d<j
   ·obtain⟨z,C⟩:=bC y.out.2.1 bA
    obtain⟨b2,rfl,_,bt⟩:=(y.out.1.below n.out.1.pg.bel).get C
    have b5:(d:Int)<(j:Int):=by omega
    have b4:(0:Int)<=(d:Int):=by omega
    have a8:e[d]?=some (fK (t+1)++S z (t+1)):=by rw[<-y.out.2.2.2,bq,C];rfl
    have bd:Hid (fC (e.take (d+1))=fC (e.take d)++(fK (t+1)++S z (t+1))):=oB e d _ a8
    have I:=bk.out z (bJ C)
    generalize nV (jo L z)=b0 at bt I
    have br:Hid (Pw a c 83 #[vP c,.iface 60 (.agg #[.pointer (some ⟨a.heap.size,0,none⟩),.string bE]),b0] (S z (t+1))):=I
    clear C a8 I
    go_wp2_with (go_at_call 305;fail)
    refine(bl.out _ _ n.out.1).mono ?_
    rintro g x ⟨rfl,p2,u⟩
    have o:Hid (Ps a c (h++⟨#[123]⟩++fC (e.take d)++fK (t+1)) x/\Kq a.heap.size b x):=⟨p2,n.out.2.trans u⟩
    clear p2 u
    go_wp2_with (go_at_call 83;fail)
    refine(br.out _ _ o.out.1).mono ?_
    rintro g bc ⟨rfl,ba,a9⟩
    have av:Hid (Ps a c (h++⟨#[123]⟩++fC (e.take d)++fK (t+1)++S z (t+1)) bc/\Kq a.heap.size b bc):=⟨ba,o.out.2.trans a9⟩
    clear ba a9
    go_wp2_with fail
    refine⟨⟨d+1,by omega,by go_num,?_,av.out.2⟩,by simp[intOf];omega⟩
    rw[bd.out]
    have:=av.out.1
    simpa only[be] using this
   ·obtain rfl:d=j:=by omega
    have a6:e.take d=e:=bH (by rw[y.out.2.2.1];exact ah _)
    rw[a6]at n
    clear a6
    go_wp2_with (go_at_call 305;fail)
    refine(bn.out _ _ n.out.1).mono ?_
    rintro g x ⟨rfl,p2,u⟩
    have o:Hid (Ps a c (h++⟨#[123]⟩++fC e++fK t) x/\Kq a.heap.size b x):=⟨p2,n.out.2.trans u⟩
    clear p2 u
    go_wp2_with fail
    refine pf (f:=306) (by simp) (pE _ _ _ _) ?_
    refine(a3.out _ _ o.out.1 .returning).mono ?_
    rintro g ao b1 ⟨rfl,rfl,F,am⟩
    refine⟨_,gx rfl _ _ _,rfl,?_,o.out.2.trans am⟩
    rw[bf.out]
    simpa only[be] using F
theorem afi(a:World)(c:Nat)(s:List Nd)(L:List Im)(base:Nat)(a4:Value)(am:Tp a s L base a4)(i:Nat)(av:i<s.length)(N:Nd)(ap:ae s i=N)(bc:N.ks.length<=1048576)(S:Int->ByteArray)(hS:∀z∈N.ks,zH a c L 0 z (S z)):
  Pw a c 21 #[vP c,fJ a 0,nV (jo L i)] (fC (N.ks.map fun k=>S k++⟨#[10]⟩)):=by
 intro g e q
 obtain⟨p,bl,w,d,x,r,h⟩:=rx am av
 rw[ap]at r h
 have a2:=fun e=>de p e
 have bd:=fun e=>CJ a.heap.size (ek 0) e
 have C:=h.hn
 have a1:=fun e=>mq (dL N.k) p e
 have ak:Hid (Pw a c 305 #[kF a 0] ⟨#[10]⟩):=C5 a c 0 (by omega)
 have ad:Hid (∀z∈N.ks,Pw a c 83 #[vP c,fJ a 0,nV (jo L z)] (S z)):=hS
 have an:Hid (∀o,Below a.heap.size a o->o.cell? ⟨p,5,none⟩=some (.slice w d x)):=fun o ar=>(h.cells ar).2.1
 have af:Hid (Ps a c g e):=q
 have a7:=an.out _ q.pg.bel
 rw[r]
 obtain⟨b,l⟩:∃b,(N.ks.map fun k=>S k++(⟨#[10]⟩:ByteArray))=b:=⟨_,rfl⟩
 have B:b.length=d:=by rw[<-l,aI];exact C
 have j:Hid (nK a L (.slice w d x) N.ks/\N.ks.length=d/\b.length=d/\(N.ks.map fun k=>S k++(⟨#[10]⟩:ByteArray))=b):=⟨h.ks,C,B,l⟩
 rw[l]
 generalize jd (dL N.k)=bk at a1⊢
 unfold fJ kF at *
 generalize ek 0=a3 at *
 clear q h r l B hS
 go_enter Tryz.func21,Tryz.ntmps21
 go_wp2_with (first|(go_at_call 307;refine(a2 _).mono ?_;rintro y a6 ⟨rfl,bf⟩;subst a6))
 go_loopw [14] (fun t wr=>∃k:Nat,k<=d/\t= .int .i64 k/\Hid (Ps a c (g++fC (b.take k)) wr/\Kq a.heap.size e wr)) (fun t _=>d-(intOf t).toNat)
 case atStart=>exact⟨0,by omega,rfl,by rw[show g++fC (b.take 0)=g from ByteArray.append_empty];exact af.out,Kq.refl _ _⟩
 case round=>
  clear a7
  obtain⟨k,a9,rfl,f⟩:=hrel
  by_cases a0:k<d
  ·obtain⟨z,m⟩:=bC j.out.2.1 a0
   obtain⟨a8,rfl,_,ao⟩:=(j.out.1.below f.out.1.pg.bel).get m
   have bb:(k:Int)<(d:Int):=by omega
   have ba:(0:Int)<=(k:Int):=by omega
   have E:b[k]?=some (S z++⟨#[10]⟩):=by rw[<-j.out.2.2.2,bq,m];rfl
   have K:Hid (fC (b.take (k+1))=fC (b.take k)++(S z++⟨#[10]⟩)):=oB b k _ E
   have n:=ad.out z (bJ m)
   generalize nV (jo L z)=a5 at ao n
   have al:Hid (Pw a c 83 #[vP c,.iface 60 (.agg #[.pointer (some ⟨a.heap.size,0,none⟩),.string a3]),a5] (S z)):=n
   clear m E n
   go_wp2_with (go_at_call 83;fail)
   refine(al.out _ _ f.out.1).mono ?_
   rintro y I ⟨rfl,p2,F⟩
   have u:Hid (Ps a c (g++fC (b.take k)++S z) I/\Kq a.heap.size e I):=⟨p2,f.out.2.trans F⟩
   clear p2 F
   go_wp2_with (go_at_call 305;fail)
   refine(ak.out _ _ u.out.1).mono ?_
   rintro y J ⟨rfl,H,G⟩
   have v:Hid (Ps a c (g++fC (b.take k)++S z++⟨#[10]⟩) J/\Kq a.heap.size e J):=⟨H,u.out.2.trans G⟩
   clear H G
   go_wp2_with fail
   refine⟨⟨k+1,by omega,by go_num,?_,v.out.2⟩,by simp[intOf];omega⟩
   rw[K.out]
   have:=v.out.1
   simpa only[be] using this
  ·obtain rfl:k=d:=by omega
   have A:=bH (by rw[j.out.2.2.1];exact ah _)
   rw[A]at f
   clear A
   go_wp2_with fail
   go_end0
   exact⟨rfl,f.out.1,f.out.2⟩
