import Derived.Test.YtnoojdbdapljoaaGreatDoorHOk48
import Derived.Test.YtnoojdbdapljoaaGreatDoorHOk44
set_option linter.all false
set_option maxRecDepth 100000
set_option maxHeartbeats 6400000
open Go.RowKit renaming Below->M,Hid->U,intOf->A0
open Go.Value renaming slice->O,pointer->Y
open Go.Proofs.Tryz renaming prog->Q
open Go.Obj renaming cells->S
open Option renaming none->V,some->X
open Go renaming World->W,Value->Z,Calls->Ax
namespace Go.Proofs.YtnoojdbdapljoaaGreatDoor
open Go.RowKit Go.Maps Go.WideMaps
def ai7(N:Nd):List Int:=if N.k=36 then [N.f] else []
def Fo.fns:Fo->List Int
 | .nil=>[]
 | .cons N k r=>ai7 N++(k.fns++r.fns)
theorem Ka:∀(a b:Fo),(a.app b).fns=a.fns++b.fns
 | .nil,b=>rfl
 | .cons N k r,b=>by simp only[Fo.app,Fo.fns,Ka r b,cI]
theorem DC(N:Nd)(k:Fo):(one N k).fns=ai7 N++k.fns:=by simp[one,Fo.fns]
structure tr (tk:Nat->Tk) (lo:Nat) (R:Fo) (hi:Nat):Prop where
 le:lo<=hi
 ex:∃L:List Nat,R.fns=L.map (fun q=>(tk q).f)/\L.Pairwise (· <·)/\∀q∈L,lo<=q/\q<hi
section
variable {tk : Nat → Tk} {lo hi a b c d e f : Nat} {x y z : Fo} {N : Nd}
theorem Kc(h:lo<=hi):tr tk lo .nil hi:=⟨h,[],rfl,.nil,fun i g=>by cases g⟩
theorem tr.wide(h:tr tk a x b)(m:lo<=a)(n:b<=hi):tr tk lo x hi:=by
 obtain⟨o,g,e,k,j⟩:=h;exact⟨by omega,g,e,k,fun l i=>by have:=j l i;omega⟩
theorem uL(h:tr tk a x b)(g:tr tk c y d)(u:lo<=a)(v:b<=c)(w:d<=hi):tr tk lo (x.app y) hi:=by
 obtain⟨A,l,n,r,i⟩:=h;obtain⟨B,m,o,p2,j⟩:=g;refine⟨by omega,l++m,by rw[Ka,n,o,en],List.pairwise_append.2 ⟨r,p2,fun s p t q=>?_⟩,fun k hq=>?_⟩
 ·have:=i s p;have:=j t q;omega
 ·rcases List.mem_append.1 hq with hq|hq
  ·have:=i k hq;omega
  ·have:=j k hq;omega
theorem lL{k E op n:Int}{s:Tk}{t:ByteArray}{nm:List ByteArray}(l:k≠36)(h:tr tk a x b)(i:lo<=a)(j:b<=hi):tr tk lo (one (nd k s E op n t nm) x) hi:=by
 obtain⟨m,g,e,p,o⟩:=h.wide i j;exact⟨m,g,by rw[DC,e];show(if k=36 then _ else _)++_=_;rw[aa l];rfl,p,o⟩
theorem DD{k E op n:Int}{s:Tk}{t:ByteArray}{nm:List ByteArray}(g:k≠36)(h:lo<=hi):tr tk lo (one (nd k s E op n t nm) .nil) hi:=lL g (Kc h) (ah _) (ah _)
theorem sa{k E op n:Int}{s:Tk}{t:ByteArray}{nm:List ByteArray}(m:k≠36)(h:tr tk a x b)(g:tr tk c y d)(i:lo<=a)(j:b<=c)(l:d<=hi):tr tk lo (one (nd k s E op n t nm) (x.app y)) hi:=lL m (uL h g i j l) (ah _) (ah _)
theorem agF{k E op n:Int}{s:Tk}{t:ByteArray}{nm:List ByteArray}(p:k≠36)(h:tr tk a x b)(g:tr tk c y d)(i:tr tk e z f)(j:lo<=a)(l:b<=c)(m:d<=e)(o:f<=hi):tr tk lo (one (nd k s E op n t nm) ((x.app y).app z)) hi:=lL p (uL (uL h g j l (ah _)) i (ah _) m o) (ah _) (ah _)
theorem agG{k E:Int}{s:Tk}(h:tr tk lo x hi):tr tk lo (one (pd k s E) x) hi:=by
 unfold pd im;split
 ·exact lL (by decide) h (ah _) (ah _)
 split
 ·exact lL (by decide) h (ah _) (ah _)
 ·exact lL (by decide) h (ah _) (ah _)
theorem aem{E:Int}{s:Tk}(h:tr tk a (one N x) b)(g:lo<=a)(i:b<=hi):tr tk lo (jG N x s E) hi:=by
 unfold jG;split
 ·exact lL (by decide) h g i
 ·exact h.wide g i
end
def akD(tk:Nat->Tk)(R:Fo)(i j:Nat):tq->Prop
 | .more _ _ x=>∀lo,tr tk lo x i->tr tk lo R j
 | .post _ x=>∀lo,tr tk lo x i->tr tk lo R j
 | .body s=>∀q,q<=i->s=tk q->tr tk q R j
 |_=>tr tk i R j
theorem P.inc{tk:Nat->Tk}{n i j:Nat}{t:tq}{R:Fo}(h:P tk n t i R j):akD tk R i j t:=by
 induction h
 case ex i1 i2=>exact i2 _ i1
 case mstop=>exact fun lo h=>h
 case mgo i1 i2=>exact fun lo h=>i2 lo (agG (uL h i1 (ah _) (by omega) (ah _)))
 case bname g=>exact g _ (DD (by decide) (by omega))
 case bopen i1 i2=>exact i2 _ (aem i1 (by omega) (by omega))
 case pstop=>exact fun lo h=>h
 case pdot g=>exact fun lo h=>g lo (lL (by decide) h (ah _) (by omega))
 case psq i1 i2=>exact fun lo h=>i2 lo (sa (by decide) h i1 (ah _) (by omega) (by omega))
 case pcall0 g=>exact fun lo h=>g lo (lL (by decide) h (ah _) (by omega))
 case pcall i1 i2=>exact fun lo h=>i2 lo (sa (by decide) h i1 (ah _) (by omega) (by omega))
 case ufn g=>exact g _ (by omega) rfl
 case tfn g=>exact lL (by decide) (g _ (ah _) rfl) (by omega) (by omega)
 case body h3 h4 g=>
  intro q s o;have r:=h3.gd;have g:tr _ _ _ _:=g;obtain⟨u,m,e,p,l⟩:=g;refine⟨by omega,q::m,?_,List.pairwise_cons.2 ⟨fun k hu=>?_,p⟩,fun k hu=>?_⟩
  ·rw[DC,e,o];rfl
  ·have:=l k hu;omega
  ·rcases List.mem_cons.1 hu with rfl|hu
   ·omega
   ·have:=l k hu;omega
 case tlet0 h4 h5=>have:=h4.gd;exact DD (by decide) (by omega)
 case tlet h4 h5 h6 g=>have:=h4.gd;exact lL (by decide) g (by omega) (by omega)
 case tfor h4 h5 h6 h7 i1 i2=>have:=h4.gd;exact sa (by decide) i1 i2 (by omega) (by omega) (by omega)
 case teach h4 h5 h6 h7 h8 h9 i1 i2=>have:=h4.gd;exact sa (by decide) i1 i2 (by omega) (by omega) (by omega)
 case ttry h7 h8 i1 i2=>have:=h7.gd;exact sa (by decide) i1 i2 (by omega) (by omega) (by omega)
 all_goals first
  |exact Kc (by omega)
  |exact DD (by decide) (by omega)
  |exact lL (by decide) (by assumption) (by omega) (by omega)
  |exact sa (by decide) (by assumption) (by assumption) (by omega) (by omega) (by omega)
  |exact agF (by decide) (by assumption) (by assumption) (by assumption) (by omega) (by omega) (by omega) (by omega)
  |exact uL (by assumption) (by assumption) (by omega) (by omega) (by omega)
  |exact tr.wide (by assumption) (by omega) (by omega)
  |assumption
def Fo.out:Fo->Nat->ByteArray->Int->List En
 | .nil,_,_,_=>[]
 | .cons N k r,b,h,g=>nD N (b+k.sz) h g++(k.out b (jb N) (xB N g)++r.out (b+k.sz+1) h g)
def Iy(h:List Nd)(b:Nat)(R:Fo):Prop:=∀g,g<R.sz->h[b+g]?=(R.flat b)[g]?
theorem Iy.kid{i:List Nd}{b:Nat}{N:Nd}{k r:Fo}(h:Iy i b (.cons N k r)):Iy i b k/\i[b+k.sz]?=X {N with ks:=k.tops b}/\Iy i (b+k.sz+1) r:=by
 refine⟨fun g j=>?_,?_,fun g j=>?_⟩
 ·rw[h g (by rw[Fo.sz];omega),Fo.flat,ie (by rw[Fo.flat_len];exact j)]
 ·rw[h k.sz (by rw[Fo.sz];omega),Fo.flat,gc (by rw[Fo.flat_len];exact ah _),Fo.flat_len,gj];rfl
 ·have:=h (k.sz+1+g) (by rw[Fo.sz];omega);rw[show b+(k.sz+1+g)=b+k.sz+1+g by omega]at this;rw[this,Fo.flat,gc (by rw[Fo.flat_len];omega),Fo.flat_len,show k.sz+1+g-k.sz=g+1 by omega,List.getElem?_cons_succ]
theorem Iz(j:List Nd):∀(R:Fo)(b f:Nat)(i:ByteArray)(g:Int),Iy j b R->R.sz<=f->((R.tops b).flatMap fun k=>cG j f k.toNat i g)=R.out b i g
 | .nil,b,f,i,g,_,_=>rfl
 | .cons N k r,b,f,i,g,h,p=>by
  obtain⟨m,n,o⟩:=h.kid;rw[Fo.sz]at p;obtain⟨f,rfl⟩:∃l,f=l+1:=⟨f-1,by omega⟩;rw[Fo.tops,rt,Iz j r _ _ i g o (by omega),Fo.out];have e:cG j (f+1) (((b+k.sz:Nat):Int)).toNat i g=nD N (b+k.sz) i g++k.out b (jb N) (xB N g):=by
   rw[show(((b+k.sz:Nat):Int)).toNat=b+k.sz by omega,cG,uI n];exact congrArg (nD N (b+k.sz) i g++·) (Iz j k b f (jb N) (xB N g) m (by omega))
  rw[e,cI]
theorem IA(l:List Nd):∀(R:Fo)(b:Nat)(i:ByteArray)(g:Int),Iy l b R->(∀e∈R.out b i g,ajD l e)/\(R.out b i g).map (Ll l)=R.fns/\(R.out b i g).length=(R.flat b).countP xw
 | .nil,b,i,g,_=>⟨fun e he=>(by cases he),rfl,rfl⟩
 | .cons N k r,b,i,g,h=>by
  obtain⟨u,m,v⟩:=h.kid;obtain⟨n,o,p⟩:=IA l k b (jb N) (xB N g) u;obtain⟨q,s,t⟩:=IA l r (b+k.sz+1) i g v;rw[Fo.out];refine⟨fun e he=>?_,?_,?_⟩
  ·rcases List.mem_append.1 he with he|he
   ·unfold nD at he;split at he
    ·rename_i j;obtain rfl:=List.mem_singleton.1 he;exact⟨b+k.sz,_,rfl,m,j,rfl⟩
    ·cases he
   ·rcases List.mem_append.1 he with he|he
    ·exact n e he
    ·exact q e he
  ·rw[en,en,o,s,Fo.fns];refine congrArg (· ++(k.fns++r.fns)) ?_;unfold nD ai7;split
   ·show [Ll l _]=_;unfold Ll;rw[show(((b+k.sz:Nat):Int)).toNat=b+k.sz by omega,uI m]
   ·rfl
  ·rw[aC,aC,p,t,Fo.flat,List.countP_append,List.countP_cons];have:(nD N (b+k.sz) i g).length=if xw {N with ks:=k.tops b}=true then 1 else 0:=by
    unfold nD xw;by_cases j:N.k=36
    ·rw[ab j,ab (by simp[j])];rfl
    ·rw[aa j,aa (by simp[j])];rfl
   omega
theorem aav{g:List Nd}(h:(cF g).1=0):∀(i:Nat) N,g[i]?=X N->gG g i N=true:=by
 unfold cF at h;by_cases m:gB g=true
 ·rw[ab m]at h;exact absurd h (by decide)
 rw[aa m]at h;obtain⟨n,l⟩:=aA (gA (eu g) g.length 0);rw[l]at h;cases n with
 |some i=>rw[tf2]at h;exact absurd h (by simp)
 |none=>
  have o:=ng l;intro i N k;have hi:i<g.length:=(List.getElem?_eq_some_iff.1 k).1;have j:=o i (be _) (by omega);unfold eu at j;rw[bm,k,gl]at j;simpa using j
theorem Kd{n:List Nd}(h:(cF n).1=0):∀(i:Nat) N,n[i]?=X N->N.k=4->1<=N.nm.length:=fun i N o m=>by
 have j:=aav h i N o;unfold gG at j;rw[aB,aB]at j;have g:=j.2.2;unfold nc at g;have p:iw N.k=true:=by rw[m];decide
 rw[ab p]at g;unfold stB at g;rw[aa (by omega),aa (by omega),aa (by omega),ab m]at g;simp only[aB]at g;have l:=g.1.1.2;unfold dD at l;rw[aB]at l;have:=bc l.1;omega
theorem Ar{g:List Nd}(h:(cF g).1=0):∀f,OkO g f
 |0=>fun i j v l k hi=>by omega
 |f+1=>DA g h (Kd h) f (Ar h f)
theorem xC(w:W)(v:Z)(i:List Nd)(h:cg w v i)(ao:i.length<=1048576)(K:∀N∈i,fx N):
  Ax Q 7 #[.agg #[v]] w fun e L=>∃A,e= .returned A/\ez w.heap.size L A (sn i)/\M w.heap.size w L:=by
 obtain⟨a,c,rfl⟩:=h.form;obtain⟨k,t⟩:=aA i.length;rw[t]at h ao⊢;have F:∀g,M w.heap.size w (w.alloc g):=fun g=>(aj _ w).alloc (ah _) g;have n:=dx h t;have u:=fun g=>qc (w.alloc g) (O a k c) i (h.below (F g)) (by omega) K;obtain⟨C,r⟩:=aA ((cF i).1);obtain⟨ar,E⟩:=aA ((cF i).2);rw[r,E]at u;have m:=aq r;clear h K t r E;go_in;go_wp2_with fail;have B:=aw w (S #[O a k c] 25);have a3:(w.alloc (S #[O a k c] 25)).heap.size=w.heap.size+1:=ba _ _;refine cd (u _) fun w1 s=>?_;have q:=(s.block _ (by omega)).trans B;have l:M w.heap.size w w1:=(F _).trans (s.mono (by omega));have a0:=ax q;clear B s u;have o:∀g,M w1.heap.size w1 (w1.alloc g):=fun g=>(aj _ w1).alloc (ah _) _;by_cases p:C=0
 ·subst p;have ak:=ch q;have am:((0:Int)!=0)=false:=rfl;have J:=lC m.out;have H:=J.len;rw[n.out.2]at H;obtain⟨j,G⟩:∃j,k=j+1:=⟨k-1,by omega⟩;have I:=fun g=>Ar m.out k j (w1.alloc g) (O a k c) pL 0 (by omega) (by rw[n.out.2];omega) ((n.out.1.below l).below (o g)) (by omega) (by omega);have af:U (sn i=cG i k j pL 0):=by show _=_;unfold sn;rw[ab m.out,n.out.2,G];rfl
  have av:((j:Int)+1)-1=(j:Int):=by omega
  have a1:(j:Int)<=3000:=by omega
  have a2:(0:Int)<=(j:Int):=by omega
  unfold pL at I;subst G;clear J H;go_wp2_with (go_at_call 19;refine(I _).mono ?_;rintro e a4 ⟨A,rfl,ap,an⟩);go_ret;refine⟨_,rfl,?_,l.trans (((o _).trans (an.mono (o _).size)).mono l.size)⟩;rw[af.out];exact ap.le (by have:=l.size;simp;omega)
 ·have am:(C !=0)=true:=by rw[mo];exact p
  have ak:=ch q;have ad:U (sn i=[]):=by show _=_;unfold sn;rw[aa (by rw[m.out];exact p)]
  clear p;go_wp2_with fail;go_ret;exact⟨_,rfl,by rw[ad.out];exact ez.nil _ _,l.trans ((o _).mono l.size)⟩
open Go.Lib (strCells strCells_length wpList_append_own_string)
theorem Bn(a b:ByteArray):strCells (a++b)=strCells a++strCells b:=by
 unfold strCells;rw[jj,Cy,en]
theorem Gi(T:ByteArray):strCells T=B8 (nJ T.data.toList):=by
 unfold strCells B8 nJ;rw[List.map_map];rfl
theorem aen{w:W}{base g n cap:Nat}{T:ByteArray}(h:w.ownsRow base 5 1 (O (X ⟨g,0,V⟩) n cap) n (strCells T)):
  (convert 22 9 (O (X ⟨g,0,V⟩) n cap)).run Q w= .ok (.string T) w:=by
 rw[Gi]at h;rw[je h,po]
theorem aaw{g:W}{base e size n m c:Nat}{a:Option Addr}{i:List Z}(h:g.ownsRow base e size (O a n c) m i):n=m:=by
 obtain⟨j,k,e⟩:=bI h;cases e;rfl
def ri(g:List Nd):ByteArray:=if(cF g).1=0 then gp g else⟨#[]⟩
theorem DF(w:W)(v:Z)(g:List Nd)(h:cg w v g)(am:g.length<=1048576)(p:∀N∈g,fx N)(hi:∀N∈g,qA N)(b5:(gp g).size<=70368744177664):
  Ax Q 9 #[.agg #[v]] w fun e c4=>e= .returned (.string (ri g))/\M w.heap.size w c4:=by
 obtain⟨a,c,rfl⟩:=h.form;obtain⟨m,ao⟩:=aA g.length;rw[ao]at h am⊢;have bD:∀j,M w.heap.size w (w.alloc j):=fun j=>(aj _ w).alloc (ah _) j;have q:=aey h p hi b5 ao;have a0:=fun j=>qc (w.alloc j) (.slice a m c) g (h.below (bD j)) (by omega) p;obtain⟨a5,K⟩:=aA ((cF g).1);obtain⟨a6,bs⟩:=aA ((cF g).2);rw[K,bs]at a0;have G:=aq K;clear h p hi b5 ao K bs;go_in;go_wp2_with fail;have a4:=aw w (.cells #[.slice a m c] 25);have cx:(w.alloc (.cells #[.slice a m c] 25)).heap.size=w.heap.size+1:=ba _ _;refine cd (a0 _) fun w1 L=>?_;have E:=(L.block _ (by omega)).trans a4;have B:M w.heap.size w w1:=(bD _).trans (L.mono (by omega));clear a4 L a0;by_cases u:a5=0
 ·subst u;have bd:=ch E;have cs:=ax E;have bp:((0:Int)!=0)=false:=rfl;go_wp2_with fail;have ad:M w1.heap.size w1 (w1.alloc (.cells #[.int .i64 0,.int .i64 a6] 45)):=(aj _ w1).alloc (ah _) _;generalize w1.alloc (.cells #[.int .i64 0,.int .i64 a6] 45)=s at ad⊢;have F:U (M w.heap.size w s):=B.trans (ad.mono B.size);have a8:=Am G.out;have b9:U (∀(o:Nat) N,g[o]?=X N->N.x.size<=4000):=fun o N l=>An (a8 o N l);obtain⟨cz,cB,c0,c2,c3⟩:=dC (show(Tryz.prog.info? 5).map (fun o=>(o.zero,o.size,o.bytes))=X (X (.int .u8 0),1,1) by kernel_rfl);clear a8 ad bd cs E B cx bp;go_loopw [4,15] (fun b6 a3 wr=>∃i:Nat,i<=m/\a3= .int .i64 i/\(∃bb bf,∃a1:Nat,b6= .slice bb a1 bf)/\U (wr.ownsRow s.heap.size 5 1 b6 (gp (g.take i)).size (strCells (gp (g.take i)))/\M s.heap.size s wr)) (fun _ a3 _=>m-(A0 a3).toNat)
  case atStart=>exact⟨0,by omega,rfl,⟨V,0,0,rfl⟩,bk _ _ _ _,aj _ _⟩
  case round=>
   obtain⟨i,b1,rfl,⟨bb,bf,a1,rfl⟩,k⟩:=hrel;by_cases cr:i<m
   ·obtain⟨N,l⟩:=bj q.out.2.2.2.2 cr;have H:M w.heap.size w wr:=F.out.trans (k.out.2.mono F.out.size);obtain⟨c7,co,ei,eh,cp⟩:=(q.out.1.below H).get l;subst co;obtain⟨ca,cb,cc,ce,cf,cl,cm,bl,bn,ap,af⟩:=cp;obtain⟨c9,dp,rfl⟩:=ap.form;obtain⟨c8,dn,rfl⟩:=af.form;have p:=q.out.2.1 N (bC l);have bt:=q.out.2.2.1 N (bC l);have I:=zt g i N l;have ar:=ql g (i+1);have cy:=q.out.2.2.2.1;rw[I]at ar;simp only[ag]at ar;have b4:(kH N).size<=70368744177664:=by omega
    have t:∀j,M wr.heap.size wr (wr.alloc j):=fun j=>(aj _ wr).alloc (ah _) j;have r:=fun j=>Ie (wr.alloc j) N _ _ (ap.below (t j)) (af.below (t j)) bt (b9.out i N l) p.l1 p.l2 b4;obtain⟨a9,n⟩:=aA (gp (g.take i));obtain⟨J,A⟩:=aA (kH N++xl);have ds:J.size<=70368744177664:=by rw[<-A,ag];omega
    have dz:a9.size+J.size<=70368744177664:=by rw[<-A,<-n,ag];omega
    rw[n]at k;rw[n,A]at I;rw[A]at r;have b8:=aq I;have ct:a1=a9.size:=aaw k.out.1;subst ct;have ea:(i:Int)<(m:Int):=by omega
    have d9:(0:Int)<=(i:Int):=by omega
    unfold dj at r;obtain⟨c5,bx⟩:=aA N.nm.length;obtain⟨c6,bA⟩:=aA N.ks.length;rw[bx]at r bl;rw[bA]at r bn;clear I ar cy b4 n A p bt l H ap af bx bA;go_wp2_with fail;refine cd (r _) fun el b0=>?_;have bE:=(t _).trans (b0.mono (t _).size);have b2:=aG k.out.1 bE;have bF:=k.out.2.trans (bE.mono k.out.2.size);have ec:=bF.size;clear r b0 t ca cb cc ce cf cl cm bl bn;go_wp2_with (at_builtin;refine wpList_append_own_string _ rfl _ _ 22 9 rfl s.heap.size 5 cz Tryz.underlying22 Tryz.underlying9 cB c0 c2 c3 _ _ _ rfl b2 J rfl (by unfold maxLen;omega) (by omega) (by omega) ?_;intro eg em b3 cq eb;obtain⟨dd,dk,rfl⟩:=bI b3);refine⟨⟨i+1,by omega,by go_num,⟨_,_,_,rfl⟩,by rw[b8.out,ag,Bn];exact b3,bF.grown cq (by omega) (fun i b1=>(b2.lt i b1).1)⟩,by simp[A0];omega⟩
   ·obtain rfl:i=m:=by omega
    have n:g.take i=g:=cw (by rw[q.out.2.2.2.2];exact ah _);rw[n]at k;have a7:U (ri g=gp g):=by show _=_;unfold ri;rw[ab G.out]
    have H:M w.heap.size w wr:=F.out.trans (k.out.2.mono F.out.size);have cu:1<=(gp g).size:=by
     obtain⟨N,C,am⟩:∃N C,g=N::C:=by
      cases g with
      |nil=>have:=G.out;simp[cF,gB]at this
      |cons N C=>exact⟨N,C,rfl⟩
     rw[am];show 1<=((kH N++xl)++gp C).size;rw[ag,ag];show 1<=(kH N).size+1+_;omega
    obtain⟨D,br⟩:=aA (gp g);rw[br]at k a7 cu;rcases bq k.out.1 with⟨u,_⟩|⟨dq,df,e⟩
    ·omega
    ·cases e;have ef:=aen k.out.1;clear n br;go_wp2_with fail;go_ret;exact⟨by rw[a7.out];rfl,H⟩
 ·have bp:(a5 !=0)=true:=by rw[mo];exact u
  have bd:=ch E;have b7:U (ri g=⟨#[]⟩):=by show _=_;unfold ri;rw[aa (by rw[G.out];exact u)]
  clear u;go_wp2_with fail;go_ret;exact⟨by rw[b7.out];rfl,B.trans (((aj _ w1).alloc (ah _) _).mono B.size)⟩
end Go.Proofs.YtnoojdbdapljoaaGreatDoor
namespace Go.Proofs.YtnoojdbdapljoaaGreatDoor
open Go.RowKit Go.Maps Go.WideMaps
theorem Bu.below{i b:Nat}{T:ByteArray}{j k:W}(h:Bu i b T j)(g:M j.heap.size j k):Bu i b T k:=by
 have n:∀l,Lib.BuilderAtF 68 5 i b l (Lib.strCells T) j->Lib.BuilderAtF 68 5 i b l (Lib.strCells T) k:=by
  rintro l ⟨p,o,m,q,r⟩;exact⟨p,o,(g.block _ (ax m)).trans m,q.kept (row:=V) ⟨g.os,g.tape,g.output,g.size,fun t s _=>g.block t s⟩ (by cases o.ownBlock<;>simp),r⟩
 rcases h with h|h
 ·exact .inl (n _ h)
 ·exact .inr (n _ h)
theorem DH(h:W)(g i:Int):(Instr.field 45 (.agg #[.int .i64 g,.int .i64 i]) 0).run Q h= .ok (.int .i64 g) h:=by
 simp[Instr.field,Cz Tryz.underlying45,asAgg,part,Tryz.isAgg3]
theorem DI(w:W)(v:Z)(g:List Nd)(h:cg w v g)(cy:g.length<=1048576)(A:∀N∈g,fx N)(hi:∀N∈g,qA N)(b1:(gp g).size<=70368744177664)(bF:wL w)
  (a4:∀r,M w.heap.size w r->Ax Q 20 #[.agg #[v]] r fun e a6=>e= .returned (.agg #[.int .i64 (cF g).1,.int .i64 (cF g).2])/\M r.heap.size r a6):
  Ax Q 8 #[.agg #[v]] w fun e a6=>e= .returned (.string (ri g))/\M w.heap.size w a6:=by
 obtain⟨a,c,rfl⟩:=h.form;obtain⟨o,ar⟩:=aA g.length;rw[ar]at h cy a4⊢;have bt:∀j,M w.heap.size w (w.alloc j):=fun j=>(aj _ w).alloc (ah _) j;have m:=aez h A hi b1 ar bF;have a3:=fun j=>a4 (w.alloc j) (bt j);obtain⟨H,L⟩:=aA ((cF g).1);obtain⟨b8,bn⟩:=aA ((cF g).2);rw[L,bn]at a3;have K:=aq L;clear h A hi b1 ar L bn bF a4;have ds:=fun r=>DH r H b8;go_in;go_wp2_with fail;have a7:=aw w (S #[O a o c] 25);have c0:(w.alloc (S #[O a o c] 25)).heap.size=w.heap.size+1:=ba _ _;refine cd (a3 _) fun w1 af=>?_;have G:=(af.block _ (by omega)).trans a7;have ao:M w.heap.size w w1:=(bt _).trans (af.mono (by omega));clear a7 af a3;by_cases C:H=0
 ·subst C;have cm:=ch G;have cB:=ax G;have bl:((0:Int)!=0)=false:=rfl;go_wp2_with fail;have p:U (M w.heap.size w w1/\Bu w1.heap.size w1.heap.size ⟨#[]⟩ (w1.alloc (S #[Y V,O V 0 0] 68))):=⟨ao,aif _ w1 (ah _)⟩;have am:M w1.heap.size w1 (w1.alloc (S #[Y V,O V 0 0] 68)):=(aj _ w1).alloc (ah _) _;have a8:=Am K.out;have cf:U (∀(a1:Nat) N,g[a1]?=X N->N.x.size<=4000):=fun a1 N l=>An (a8 a1 N l);generalize w1.alloc (S #[Y V,O V 0 0] 68)=c6 at am p⊢;have b9:=aq am;clear a8 am cm cB G ao c0 bl;go_loopw [13] (fun a5 wr=>∃i:Nat,i<=o/\a5= .int .i64 i/\U (Bu w1.heap.size w1.heap.size (gp (g.take i)) wr/\M w1.heap.size w1 wr)) (fun a5 _=>o-(A0 a5).toNat)
  case atStart=>exact⟨0,by omega,rfl,p.out.2,b9.out⟩
  case round=>
   obtain⟨i,dn,rfl,k⟩:=hrel;by_cases cz:i<o
   ·obtain⟨N,l⟩:=bj m.out.2.2.2.2.1 cz;have t:M w.heap.size w wr:=p.out.1.trans (k.out.2.mono p.out.1.size);obtain⟨c7,cv,d9,dz,cx⟩:=(m.out.1.below t).get l;subst cv;obtain⟨co,cp,cq,cr,cs,ct,cu,bd,bf,av,ap⟩:=cx;obtain⟨c9,df,rfl⟩:=av.form;obtain⟨c8,dd,rfl⟩:=ap.form;have A:=m.out.2.1 N (bC l);have bp:=m.out.2.2.1 N (bC l);have F:=zt g i N l;have a0:=ql g (i+1);have c2:=m.out.2.2.2.1;rw[F]at a0;simp only[ag]at a0;have b0:(kH N).size<=70368744177664:=by omega
    have s:∀j,M wr.heap.size wr (wr.alloc j):=fun j=>(aj _ wr).alloc (ah _) j;have u:=fun j=>FC (wr.alloc j) N _ _ (av.below (s j)) (ap.below (s j)) bp (cf.out i N l) A.l1 A.l2 b0 (m.out.2.2.2.2.2.below (t.trans ((s j).mono t.size)));obtain⟨q,n⟩:=aA (gp (g.take i));obtain⟨B,E⟩:=aA (kH N);have dk:q.size+B.size+1<=70368744177664:=by rw[<-E,<-n];have:xl.size=1:=rfl;omega
    rw[n]at k;rw[n,E]at F;rw[E]at u;have ce:=aq F;have dq:(i:Int)<(o:Int):=by omega
    have dp:(0:Int)<=(i:Int):=by omega
    unfold dj at u;obtain⟨c4,br⟩:=aA N.nm.length;obtain⟨c5,bs⟩:=aA N.ks.length;rw[br]at u bd;rw[bs]at u bf;clear F a0 c2 b0 n E A bp l t av ap br bs;go_wp2_with fail;refine cd (u _) fun b2 bx=>?_;have ad:=(s _).trans (bx.mono (s _).size);have I:U (Bu w1.heap.size w1.heap.size q b2/\M w1.heap.size w1 b2):=⟨k.out.1.below ad,k.out.2.trans (ad.mono k.out.2.size)⟩;clear u bx s co cp cq cr cs ct cu bd bf ad;go_wp2_with fail;refine(kJ _ _ q B _ I.out.1 (by omega) I.out.2.size).mono ?_;rintro e b3 ⟨rfl,a9,bA⟩;have J:U (Bu w1.heap.size w1.heap.size (q++B) b3/\M w1.heap.size w1 b3):=⟨a9,I.out.2.trans bA⟩;clear a9 bA;go_wp2_with fail;refine(kJ _ _ (q++B) xl _ J.out.1 (by rw[ag];show q.size+B.size+1<=_;omega) J.out.2.size).mono ?_;rintro e b7 ⟨rfl,bb,bD⟩;have ca:U (Bu w1.heap.size w1.heap.size (gp (g.take (i+1))) b7/\M w1.heap.size w1 b7):=⟨by rw[ce.out,<-aF];exact bb,J.out.2.trans bD⟩;clear bb bD;go_wp2_with fail;exact⟨⟨i+1,by omega,by go_num,ca⟩,by simp[A0];omega⟩
   ·obtain rfl:i=o:=by omega
    have n:g.take i=g:=cw (by rw[m.out.2.2.2.2.1];exact ah _);rw[n]at k;have cb:U (ri g=gp g):=by show _=_;unfold ri;rw[ab K.out]
    clear n;go_wp2_with fail;refine(ta _ _ _ _ k.out.1 k.out.2.size).mono ?_;rintro e c3 ⟨rfl,cl,bE⟩;have t:M w.heap.size w c3:=p.out.1.trans ((k.out.2.trans bE).mono p.out.1.size);clear cl bE;go_wp2_with fail;go_ret;exact⟨by rw[cb.out];rfl,t⟩
 ·have bl:(H !=0)=true:=by rw[mo];exact C
  have cc:U (ri g=⟨#[]⟩):=by show _=_;unfold ri;rw[aa (by rw[K.out];exact C)]
  clear C;go_wp2_with fail;go_ret;exact⟨by rw[cc.out];rfl,ao⟩
