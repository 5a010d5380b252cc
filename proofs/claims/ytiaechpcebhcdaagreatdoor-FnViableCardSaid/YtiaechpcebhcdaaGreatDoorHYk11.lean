import Derived.Test.YtiaechpcebhcdaaGreatDoorHYk08
set_option linter.all false
set_option maxRecDepth 100000
set_option maxHeartbeats 6400000
open ByteArray renaming empty->M
open Go.Value renaming int->Q,pointer->A2,string->A3
open Go.IntKind renaming i64->S
open Option renaming none->T,some->Ax
open Bool renaming true->W,false->X
open Go.Proofs.Tryz renaming prog->Y
open Go.Calls renaming quiet_of_same->A0
namespace Go.Proofs.YtiaechpcebhcdaaGreatDoor
open Go.RowKit Go.Maps Go.WideMaps
variable{b:Nat}{k:Bool}{l p:Int}{m:Value}{s:Bz}{w:World}
def sJ.setCell(h:sJ w){a:Addr}(l:12<=a.block)(v:Value):sJ (w.setCell a v):=by
 obtain⟨⟨i,b,e⟩,⟨j,c,f⟩,⟨k,d,g⟩⟩:=h;exact⟨⟨i,b,(az w a _ v O).trans e⟩,⟨j,c,(az w a _ v O).trans f⟩,⟨k,d,(az w a _ v O).trans g⟩⟩
def sJ.drewN(h:sJ w)(n:Nat):sJ (w.drewN n):=⟨h.word,h.mark,h.bin⟩
def Jf:∀k:Fin 79,(fJ (k.val:Int)).size<=6:=by decide+kernel
theorem aib(k:Int):(fJ k).size<=6:=by
 by_cases a:0<=k/\k<=78
 .have:=Jf ⟨k.toNat,O⟩;grind
 .unfold fJ;rw[aa O,aa O,aa O,aa O,aa O];decide
theorem acg(V:Array Value)(base:Int)(r:Bz)(d:0<=base)(N:Int):∀(f i:Nat)(a:Int×Nat),0<=a.1->a.1<=N->base+((i+f:Nat):Int)<=N+1->0<=(xG V base r f i a).1/\(xG V base r f i a).1<=N
 |0,i,a,b,c,_=>⟨b,c⟩
 |f+1,i,a,b,c,e=>by
  unfold xG;refine acg V base r d N f (i+1) _ ?_ ?_ O;all_goals grind
def aic(r:Bz):0<=lH r/\lH r<=78:=by
 unfold lH;split
 .omega
 split
 .omega
 have a:=acg je 40 r O 50 11 0 (0,0) I I I;exact acg lK 61 r O 78 18 0 _ a.1 O I
def ach(b t:Nat)(a:World)(s:Bz)(m:Value)(fr:Int)(p:Nat)(l c k:Int):Prop:=
 if k=0 then ir b a s m fr p l W/\dL t a 0 p 0 c 0 M else ir b a s m fr ((p:Int)+((fJ k).size:Int)) (if k=7 then l+1 else l) X/\dL t a k p 0 c 0 M
theorem Jg{fr:Int}(s:Bz)(aL:s.size<=70000)(b t:Nat)(w:World)(m:Value)(p:Nat)(l ad:Int)(a0:p<s.size)(av:0<=l)(ar:l<=100000)(h:b≠t)(hS:ir b w s m fr p l X)(j:dL t w 0 p 0 ad 0 M)(d:sJ w)(an:12<=b)(ao:12<=t):
  Calls Y 120 #[A2 (Ax ⟨b,0,T⟩),A2 (Ax ⟨t,0,T⟩)] w λe q=>e= .returned (.tuple #[])/\sD b t w q/\ach b t q s m fr p l ad (lH (s.extract p s.size)):=by
 have ap:b<w.heap.size:=ah hS;have a2:t<w.heap.size:=ah j;have a1:(s.extract p s.size).size=s.size-p:=ey s p s.size cJ;have o:=λw d=>I5 (s.extract p s.size) O O w d;have ak:=aic (s.extract p s.size);generalize lH (s.extract p s.size)=c at o ak;have⟨z,A,B,C,E,F,G,H⟩:=gl hS;have⟨a3,a4,a5,a6,a7,a8,a9⟩:=aE j;unfold ach;by_cases K:c=0
 .subst K;simp only[nA];go_in;go_upto_region 0 with fail
  go_quiet ((go_at_call 188;exact A0 (o _ (d.drewN _))))
  go_wp2;refine aD (iI rfl _ _ _) rfl ?_;exact⟨rfl,((sD.refl b t w).drewN _).setB 5 _,(hS.drewN _).setK _,(j.drewN _).other (dy h) _⟩
 have al:(c==0)=X:=U;have x:=λw d=>xL c O O w d;have af:=aib c;generalize fJ c=r at x af;simp only[aa K];by_cases L:c=7
 .subst L;simp only[nA];go_in;go_upto_region 0 with fail
  go_quiet ((go_at_call 188;exact A0 (o _ (d.drewN _))))
  have g:=((hS.drewN nq).setL (l+1)).other (a:=⟨t,0,T⟩) h (Q S 7);have k:=((j.drewN nq).other (a:=⟨b,4,T⟩) (dy h) (Q S (l+1))).setKind 7;have n:=(((sD.refl b t w).drewN nq).setB 4 (Q S (l+1))).setT 0 (Q S 7);have f:=((d.drewN nq).setCell (a:=⟨b,4,T⟩) O (Q S (l+1))).setCell (a:=⟨t,0,T⟩) O (Q S 7);go_upto_region 6 with fail
  generalize ((w.drewN nq).setCell ⟨b,4,T⟩ (Q S (l+1))).setCell ⟨t,0,T⟩ (Q S 7)=i at g k n f⊢;have⟨z,A,B,C,E,F,G,H⟩:=gl g;have u:sJ i.drew:=⟨f.word,f.mark,f.bin⟩;have y:=x i.drew u;have ag:IntKind.i64.wrap ((p:Int)+(r.size:Int))=(p:Int)+(r.size:Int):=by rw[bJ];omega
  go_region_with (first|(go_at_call 123;refine y.mono ?_;rintro e q ⟨rfl,v⟩;obtain rfl:=v.symm))
  all_goals
   go_end0
   exact⟨rfl,(n.setB 3 _).drew,g.setP _,k.other (dy h) _⟩
 .have am:(c==7)=X:=U;simp only[aa L];go_in;go_upto_region 0 with fail
  go_quiet ((go_at_call 188;exact A0 (o _ (d.drewN _))))
  have g:=(hS.drewN nq).other (a:=⟨t,0,T⟩) h (Q S c);have k:=(j.drewN nq).setKind c;have n:=((sD.refl b t w).drewN nq).setT 0 (Q S c);have f:=(d.drewN nq).setCell (a:=⟨t,0,T⟩) O (Q S c);go_upto_region 6 with fail
  generalize (w.drewN nq).setCell ⟨t,0,T⟩ (Q S c)=i at g k n f⊢;have⟨z,A,B,C,E,F,G,H⟩:=gl g;have u:sJ i.drew:=⟨f.word,f.mark,f.bin⟩;have y:=x i.drew u;have ag:IntKind.i64.wrap ((p:Int)+(r.size:Int))=(p:Int)+(r.size:Int):=by rw[bJ];omega
  go_region_with (first|(go_at_call 123;refine y.mono ?_;rintro e q ⟨rfl,v⟩;obtain rfl:=v.symm))
  all_goals
   go_end0
   exact⟨rfl,(n.setB 3 _).drew,g.setP _,k.other (dy h) _⟩
structure Rd where
 ok:Bool
 a:Nat
 d:Int
 k:Int
 n:Int
 x:Bz
def rdI(s:Bz)(p:Nat):Rd:=
 if aJ (ae s p)=W then⟨W,mh s (s.size+1) p,0,(vK s p).1,0,(vK s p).2⟩
 else if aC (ae s p)=W then(if(ci s p).2=W then⟨W,(ci s p).1,0,(th s p).1,(th s p).2.1,(th s p).2.2⟩ else⟨X,(ci s p).1,0,0,0,M⟩)
 else if ae s p=34 then(if(bC s (s.size+1) (p+1) []).1=W then⟨W,(bC s (s.size+1) (p+1) []).2.1,0,4,0,gL (bC s (s.size+1) (p+1) []).2.2⟩ else⟨X,(bC s (s.size+1) (p+1) []).2.1,0,0,0,M⟩)
 else if lH (s.extract p s.size)=0 then⟨X,p,0,0,0,M⟩ else⟨W,p+(fJ (lH (s.extract p s.size))).size,if lH (s.extract p s.size)=7 then 1 else 0,lH (s.extract p s.size),0,M⟩
def arG(b t:Nat)(w c:World)(s:Bz)(m:Value)(fr:Int)(p:Nat)(l:Int)(R:Rd):Prop:=sD b t w c/\ir b c s m fr (R.a:Int) (l+R.d) (!R.ok)/\dL t c R.k p 0 l R.n R.x
theorem Kv.blocks{c:World}(h:Kv w)(a:∀k,k<12->c.heap[k]?=w.heap[k]?):Kv c:=by
 obtain⟨⟨⟨q,d,j⟩,⟨r,e,l⟩,⟨s,f,m⟩⟩,⟨⟨t,g,n⟩,⟨u,i,o⟩⟩,b,p⟩:=h;refine⟨⟨⟨q,d,(a _ Z).trans j⟩,⟨r,e,(a _ Z).trans l⟩,⟨s,f,(a _ Z).trans m⟩⟩,⟨⟨t,g,?_⟩,⟨u,i,?_⟩⟩,?_,?_⟩
 .unfold World.cell? at n⊢;grind
 .unfold World.cell? at o⊢;grind
 .unfold Lib.TabIs World.var? at b⊢;rw[show Tryz.prog.globalNamed "internal/strconv.uint64pow10" =Ax 9 by rfl]at b⊢;grind
 .unfold World.cell? at p⊢;grind
def oc{x e z:World}{b:Option Nat}(h:x.grownBy e b)(k:e.grownBy z b):x.grownBy z b:=
 ⟨k.os.trans h.os,k.tape.trans h.tape,k.output.trans h.output,aK h.size k.size,λd a c=>(k.block d (gF a h.size) c).trans (h.block d a c)⟩
theorem af8{fr:Int}(s:Bz)(K:s.size<=70000)(b mb:Nat)(w:World)(p:Nat)(l:Int)(B:p<s.size)(cb:0<=l)(ca:l<=100000)(a3:mb≠b)(b7:12<=b)(hS:ir b w s (.map (Ax mb)) fr p l X)(av:w.ownsMap Y 9 (plainElem (H:=Unit) Y 3) mb 22 (zG 22))(a9:Kv w):
  Calls Y 76 #[A2 (Ax ⟨b,0,T⟩)] w λe m=>e= .returned (.agg #[Q S (rdI s p).k,Q S p,Q S ((rdI s p).a:Int),Q S l,Q S (rdI s p).n,A3 (rdI s p).x])/\w.grownBy m (Ax b)/\ir b m s (.map (Ax mb)) (p:Int) ((rdI s p).a:Int) (l+(rdI s p).d) (!(rdI s p).ok):=by
 have a1:b<w.heap.size:=ah hS;have bl:mb<w.heap.size:=av.lt;have cq:=λw=>dx B w;have⟨ad,af,ag,ak,al,am,an,ao⟩:=gl hS;have⟨bD,b3⟩:=IA hS;have⟨a5,bd⟩:=aw (rdI s p);rw[bd];have br:=aj bd;go_in;go_wp2_with fail;have E:=hS.setF (p:Int);have bb:=adJ (t:=b) av ((sD.refl b b w).setB 2 (Q S (p:Int))) a3 a3;have ba:Kv (w.setCell ⟨b,2,T⟩ (Q S (p:Int))):=a9.blocks (λk G=>az _ _ _ _ U);have a2:w.grownBy (w.setCell ⟨b,2,T⟩ (Q S (p:Int))) (Ax b):=⟨rfl,rfl,rfl,byS,λk G r=>az _ _ _ _ (λe=>r (by rw[e]))⟩;have L:(w.setCell ⟨b,2,T⟩ (Q S (p:Int))).heap.size=w.heap.size:=byS;have⟨bt,bv,bw,bx,bA,b0,b1,b2⟩:=gl E;obtain⟨bE,b4⟩:=IA E;rw[<-L];rw[<-L]at a1 bl;generalize w.setCell ⟨b,2,T⟩ (Q S (p:Int))=wN at E bb ba a2 L a1 bl bt bv bw bx bA b0 b1 b2 bE b4⊢;have bp:=aj a2;clear hS av a9 a2 L ad af ag ak al am an ao bD b3;go_region
 generalize bh:(wN.alloc _).alloc _=f;obtain⟨F,a0,ar, -⟩:=Da bh;replace F:dL wN.heap.size f 0 0 0 0 0 M:=F;replace a0:dL (wN.heap.size+1) f 0 p 0 l 0 M:=a0;have bf:=E.below ar a1;have y:=ba.below ar cJ;have b8:f.ownsMap Y 9 (plainElem (H:=Unit) Y 3) mb 22 (zG 22):=by rw[<-bh];exact(bb.alloc _).alloc _
 have⟨ad,af,ag,ak,al,am,an,ao⟩:=gl bf;have r:b≠wN.heap.size+1:=O;go_wp2_with fail;go_quiet (fail)
 go_upto_block 0 with fail
 have z:ir b (f.drew.drewN nq) s (.map (Ax mb)) p p l X:=bf;have A:dL (wN.heap.size+1) (f.drew.drewN nq) 0 p 0 l 0 M:=a0;have q:sD b (wN.heap.size+1) f (f.drew.drewN nq):=((sD.refl _ _ _).drew).drewN nq;have bc:(f.drew.drewN nq).ownsMap Y 9 (plainElem (H:=Unit) Y 3) mb 22 (zG 22):=b8;have a7:sJ (f.drew.drewN nq):=⟨y.tabs.word,y.tabs.mark,y.tabs.bin⟩;have a8:oH (f.drew.drewN nq):=⟨y.errs.syn,y.errs.rng⟩;generalize f.drew.drewN nq=C at z A q bc a7 a8⊢;go_cut [] from 4 (λcg=>arG b (wN.heap.size+1) f cg s (.map (Ax mb)) p p l a5)
 case first=>
  have cd:=I4 s K b (wN.heap.size+1) mb C p l l B r a3 O z A bc;have ce:=λb9=>Eb s K b (wN.heap.size+1) C (.map (Ax mb)) p l l B b9 r z A a8 O O;have bn:=DA s K b (wN.heap.size+1) C (.map (Ax mb)) p l p l B r z A;have bo:=Jg s K b (wN.heap.size+1) C (.map (Ax mb)) p l l B cb ca r z A a7 b7 O;have g:=br.out;unfold rdI at g;cases hlt:aJ (ae s p) with
  |true=>
   rw[hlt,ab rfl]at g;have o:=aj g;have h:=λw=>nC (ae s p) w;rw[hlt]at h;generalize ae s p=a6 at h⊢;go_wp2_with (first|(go_at_call 115;refine(h _).mono ?_;rintro e m ⟨rfl,rfl⟩)|(go_at_call 116;refine cd.mono ?_;rintro e a4 ⟨rfl,i,c,b5⟩));go_meet
   case rel=>rw[<-o.out];exact⟨q.trans i,U,b5⟩
  |false=>
   rw[hlt,aa I]at g;have h:=λw=>nC (ae s p) w;rw[hlt]at h;cases hdg:aC (ae s p) with
   |true=>
    rw[hdg,ab rfl]at g;have j:=λw=>jC (ae s p) w;rw[hdg]at j;have o:=aj g;have cc:=ce hdg;generalize ae s p=a6 at h j⊢;go_wp2_with (first|(go_at_call 115;refine(h _).mono ?_;rintro e m ⟨rfl,rfl⟩)|(go_at_call 117;refine(j _).mono ?_;rintro e m ⟨rfl,rfl⟩)|(go_at_call 118;refine cc.mono ?_;rintro e a4 ⟨rfl,i,c⟩;have u:Hid _:=c));go_meet
    case rel=>
     rw[<-o.out];have c:=u.out;cases hok:(ci s p).2 with
     |true=>rw[hok]at c;simp only[nA]at c⊢;exact⟨q.trans i,U,c.2⟩
     |false=>rw[hok]at c;simp only[C3,if_false]at c⊢;exact⟨q.trans i,U,c.2⟩
   |false=>
    rw[hdg,aa I]at g;have j:=λw=>jC (ae s p) w;rw[hdg]at j;by_cases ap:ae s p=34
    .rw[ab ap]at g;have o:=aj g;rw[ap]at h j⊢;generalize bC s (s.size+1) (p+1) []=bs at bn o;go_wp2_with (first|(go_at_call 115;refine(h _).mono ?_;rintro e m ⟨rfl,rfl⟩)|(go_at_call 117;refine(j _).mono ?_;rintro e m ⟨rfl,rfl⟩)|(go_at_call 119;refine bn.mono ?_;rintro e a4 ⟨rfl,i,c⟩;have u:Hid _:=c));go_meet
     case rel=>
      rw[<-o.out];have c:=u.out;unfold nJ at c;obtain⟨cf,cs,ct⟩:=bs;cases cf with
      |true=>simp only[nA]at c⊢;exact⟨q.trans i,U,c.2⟩
      |false=>simp only[C3,if_false]at c⊢;exact⟨q.trans i,U,c.2⟩
    .rw[aa ap]at g;have b6:(ae s p==34)=X:=U;generalize lH (s.extract p s.size)=k at bo g;have o:=aj g;generalize ae s p=a6 at h j b6⊢;go_wp2_with (first|(go_at_call 115;refine(h _).mono ?_;rintro e m ⟨rfl,rfl⟩)|(go_at_call 117;refine(j _).mono ?_;rintro e m ⟨rfl,rfl⟩)|(go_at_call 120;refine bo.mono ?_;rintro e a4 ⟨rfl,i,c⟩;have u:Hid _:=c));go_meet
     case rel=>
      rw[<-o.out];have c:=u.out;unfold ach at c;by_cases G:k=0
      .rw[ab G]at c⊢;exact⟨q.trans i,U,c.2⟩
      .rw[aa G]at c⊢;refine⟨q.trans i,?_,c.2⟩;grind
 case rest=>
  obtain⟨bk,aL,bg⟩:=hcut;have bj:dL wN.heap.size wc 0 0 0 0 0 M:=(bk.block wN.heap.size (ah F) O O).trans F;obtain⟨cr,a,d,k,n,x⟩:=a5;simp only at aL bg⊢;have⟨ad,af,ag,ak,al,am,an,ao⟩:=gl aL;have⟨cu,cv,cw,cx,cy,cz,cA⟩:=aE bg;have⟨z0,ch,ck,cl,cm,cn,cB⟩:=aE bj;have cp:wN.heap.size<wc.heap.size:=ah bj;go_wp2;refine aD (v:= .agg #[Q S k,Q S p,Q S (a:Int),Q S l,Q S n,A3 x]) (by simp[results,Tryz.results76,go_sem,z0,ch,ck,cl,cm,cn]) rfl ⟨rfl,?_,?_⟩
  .refine oc bp ?_;exact yp (yp (yp (yp (yp (yp (yp (aos ar bk O) _ I) _ I) _ I) _ I) _ I) _ I) _ I
  .exact((((((aL.other O _).other U _).other U _).other U _).other U _).other U _).other U _
def yA(b:Nat)(w:World)(s:Bz)(m:Value)(p l:Int)(k:Bool):Prop:=∃a,ir b w s m a p l k
def yA.cells(h:yA b w s m p l k):w.cell? ⟨b,0,T⟩=Ax (A3 s)/\w.cell? ⟨b,1,T⟩=Ax m/\w.cell? ⟨b,3,T⟩=Ax (Q S p)/\w.cell? ⟨b,4,T⟩=Ax (Q S l)/\w.cell? ⟨b,5,T⟩=Ax (.bool k)/\
  w.frozen? ⟨b,3,T⟩=X/\w.frozen? ⟨b,4,T⟩=X/\w.frozen? ⟨b,5,T⟩=X:=by obtain⟨a,h⟩:=h;exact gl h
def yA.pos{p:Nat}(h:yA b w s m p l k):GC b w=p:=by obtain⟨a,h⟩:=h;exact vA h
def yA.lt(h:yA b w s m p l k):b<w.heap.size:=by obtain⟨a,h⟩:=h;exact ah h
def yA.setP(h:yA b w s m p l k)(x:Int):yA b (w.setCell ⟨b,3,T⟩ (Q S x)) s m x l k:=by obtain⟨a,h⟩:=h;exact⟨a,h.setP x⟩
def yA.heap{a:World}(h:yA b w s m p l k)(d:a.heap[b]?=w.heap[b]?):yA b a s m p l k:=by obtain⟨c,h⟩:=h;exact⟨c,d.trans h⟩
theorem Jh(i:Nat)(h:i<11):fJ (40+(i:Int))=bq je i:=by
 unfold fJ;grind
theorem Ji(i:Nat)(h:i<18):fJ (61+(i:Int))=bq lK i:=by
 unfold fJ;grind
def Sgn(r:Bz)(k:Int)(n:Nat):Prop:=(k=0/\n=0)\/(n=(fJ k).size/\1<=n/\Lib.hasPrefix r.data.toList (fJ k).data.toList=W/\k≠0)
theorem uw(V:Array Value)(base:Int)(r:Bz)(N:Nat)(c:0<base)(b:∀i,i<N->fJ (base+(i:Int))=bq V i):∀(f i:Nat)(a:Int×Nat),i+f<=N->Sgn r a.1 a.2->Sgn r (xG V base r f i a).1 (xG V base r f i a).2
 |0,i,a,_,h=>h
 |f+1,i,a,e,h=>by
  unfold xG;refine uw V base r N c b f (i+1) _ O ?_;split
  .rename_i d;refine .inr ⟨?_,?_,?_,?_⟩;all_goals grind
  omega
theorem alJ(r x:Bz)(h:Lib.hasPrefix r.data.toList x.data.toList=W):x.size<=r.size:=by
 unfold Lib.hasPrefix at h;rw[zm]at h;have:=h.length_le
 simp_all
def Jj(r:Bz)(h:0<r.size)(a:lH r≠0):1<=(fJ (lH r)).size/\(fJ (lH r)).size<=r.size:=by
 unfold lH at a⊢;split
 .exact⟨Z,by show 1<=r.size;omega⟩
 split
 .exact⟨Z,by show 1<=r.size;omega⟩
 rename_i c d;rw[aa c,aa d]at a;have f:=uw je 40 r 11 O Jh 11 0 (0,0) O (.inl ⟨rfl,rfl⟩);have g:=uw lK 61 r 18 O Ji 18 0 _ O f;rcases g with⟨b,_⟩|⟨b,i,e,_⟩
 .omega
 .exact⟨O,alJ r _ e⟩
def Dj(s:Bz)(p:Nat)(h:aJ (ae s p)=W):p<mh s (s.size+1) p:=by
 have a:p<s.size:=by
  rcases aH p s.size with h1|h1
  .exact h1
  .exact absurd (.inl h) (D0 O)
 rw[mh,ab (.inl h)];have:=sa s s.size (p+1) O;omega
theorem eD(s:Bz)(p:Nat)(i:p<s.size)(e:(rdI s p).ok=W):p<(rdI s p).a/\(rdI s p).a<=s.size/\0<=(rdI s p).d/\(rdI s p).d<=1:=by
 unfold rdI at e⊢;split
 .rename_i g;exact⟨Dj s p g,(sa s _ p O).2,I,I⟩
 split
 .rename_i b c;rw[aa b,ab c]at e;have:=kG s p i;grind
 split
 .rename_i b c f;rw[aa b,aa c,ab f]at e;have:=sE s (s.size+1) (p+1) [] O;grind
 .rename_i b c f;rw[aa b,aa c,aa f]at e;split
  .grind
  .rename_i h;have j:=ey s p s.size cJ;have:=Jj (s.extract p s.size) O h;grind
def Ct(c:Int):Bool:=decide (c≠10/\c≠ -1)
def Bh:Ct (-1)=X:=Z
def vh(s:Bz)(p:Nat):Nat:=gB Ct s (s.size+1) p
def blk(s:Bz):Nat->Nat->Nat
 |0,p=>p
 |f+1,p=>if s.size<=p then p else if ic (ae s p)=W then blk s f (p+1) else if ae s p=45/\ae s (p+1)=45 then blk s f (vh s p) else p
def pj(s:Bz)(p:Nat)(h:p<=s.size):p<=vh s p/\vh s p<=s.size:=kF Ct Bh s _ p h
def pK(s:Bz)(p:Nat)(h:ae s p=45):p<vh s p:=by
 have a:=aF h;unfold vh;rw[gB,ab (by rw[h];decide)];have:=kF Ct Bh s s.size (p+1) O;omega
def qC(s:Bz):∀(f g p:Nat),p<=s.size->s.size<p+f->s.size<p+g->blk s f p=blk s g p
 |0,g,p,h,a,b=>O
 |f+1,0,p,h,a,b=>O
 |f+1,g+1,p,h,a,b=>by
  unfold blk;split
  .rfl
  split
  .exact qC s f g (p+1) O O O
  split
  .rename_i d;have e:=pK s p d.1;have c:=pj s p h;exact qC s f g _ c.2 O O
  .rfl
def ft(s:Bz):∀(f p:Nat),p<=s.size->p<=blk s f p/\blk s f p<=s.size
 |0,p,h=>⟨cJ,h⟩
 |f+1,p,h=>by
  unfold blk;split
  .omega
  split
  .have:=ft s f (p+1) O;omega
  split
  .have a:=pj s p h;have:=ft s f (vh s p) a.2;omega
  omega
def scn(s:Bz):Nat->Nat->Int->Bool×Nat×List Tk
 |0,_,_=>(W,0,[])
 |f+1,p,l=>
  if s.size<=blk s (s.size+1) p then(W,0,[])
  else if(rdI s (blk s (s.size+1) p)).ok=W then
   ((scn s f (rdI s (blk s (s.size+1) p)).a (l+(rdI s (blk s (s.size+1) p)).d)).1,(scn s f (rdI s (blk s (s.size+1) p)).a (l+(rdI s (blk s (s.size+1) p)).d)).2.1,
    ⟨(rdI s (blk s (s.size+1) p)).k,(blk s (s.size+1) p:Nat),((rdI s (blk s (s.size+1) p)).a:Nat),l,(rdI s (blk s (s.size+1) p)).n,(rdI s (blk s (s.size+1) p)).x⟩::(scn s f (rdI s (blk s (s.size+1) p)).a (l+(rdI s (blk s (s.size+1) p)).d)).2.2)
  else(X,(rdI s (blk s (s.size+1) p)).a,[])
structure Rel (s:Bz) (E:Bool×Nat×List Tk) (pre:List Tk) (p:Nat) (l:Int) (f:Nat):Prop where
 fu:s.size<p+f
 le:p<=s.size
 l0:0<=l
 l1:l<=(p:Int)+1
 cn:pre.length<=p
 eq:E=((scn s f p l).1,(scn s f p l).2.1,pre++(scn s f p l).2.2)
def alK(s:Bz)(p q:Nat)(h:blk s (s.size+1) p=blk s (s.size+1) q):∀(f:Nat)(l:Int),scn s f p l=scn s f q l
 |0,_=>rfl
 |f+1,l=>by rw[scn,scn,h]
def qj(s:Bz)(p:Nat)(a:p<s.size)(h:ic (ae s p)=W):blk s (s.size+1) p=blk s (s.size+1) (p+1):=by
 rw[blk,aa O,ab h];exact qC s _ _ _ O O O
def aid(c:Int)(h:c=45):¬ic c=W:=by subst h;decide
def Ep(s:Bz)(p:Nat)(h:ae s p=45)(a:ae s (p+1)=45):blk s (s.size+1) p=blk s (s.size+1) (vh s p):=by
 have d:=aF h;have c:=pK s p h;have b:=pj s p O;rw[blk,aa O,aa (aid _ h),ab ⟨h,a⟩];exact qC s _ _ _ b.2 O O
theorem ux(s:Bz)(p:Nat)(a:¬ic (ae s p)=W)(b:¬(ae s p=45/\ae s (p+1)=45)):blk s (s.size+1) p=p:=by
 rw[blk,aa a,aa b];grind
def oA(s:Bz)(p:Nat)(h:s.size<=p):blk s (s.size+1) p=p:=by rw[blk,ab h]
def Rel.blank{s:Bz}{E:Bool×Nat×List Tk}{pre:List Tk}{p f:Nat}{l:Int}(h:Rel s E pre p l f)(b:p<s.size)(a:ic (ae s p)=W):Rel s E pre (p+1) l f:=
 ⟨by have:=h.fu;omega,O,h.l0,by have:=h.l1;omega,by have:=h.cn;omega,by rw[h.eq,alK s p (p+1) (qj s p b a)]⟩
theorem Rel.tok{s:Bz}{E:Bool×Nat×List Tk}{pre:List Tk}{p f:Nat}{l:Int}(h:Rel s E pre p l f)(i:p<s.size)(e:¬ic (ae s p)=W)(g:¬(ae s p=45/\ae s (p+1)=45))(b:(rdI s p).ok=W):
  Rel s E (pre++[⟨(rdI s p).k,(p:Nat),((rdI s p).a:Nat),l,(rdI s p).n,(rdI s p).x⟩]) (rdI s p).a (l+(rdI s p).d) (f-1):=by
 have j:=eD s p i b;have m:=h.fu;obtain⟨f,rfl⟩:∃c,f=c+1:=⟨f-1,O⟩;refine⟨O,j.2.1,by have:=h.l0;omega,by have:=h.l1;omega,by have:=h.cn;grind,?_⟩;rw[h.eq,scn,ux s p e g,aa O,ab b];simp
theorem Rel.bad{E:Bool×Nat×List Tk}{pre:List Tk}{p f:Nat}(h:Rel s E pre p l f)(i:p<s.size)(c:¬ic (ae s p)=W)(d:¬(ae s p=45/\ae s (p+1)=45))(g:(rdI s p).ok=X):
  E=(X,(rdI s p).a,pre):=by
 have e:=h.fu;obtain⟨f,rfl⟩:∃b,f=b+1:=⟨f-1,O⟩;rw[h.eq,scn,ux s p c d,aa O,aa U];simp
