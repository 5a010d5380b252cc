import Derived.Test.YtnlhhmlcjbohbaaGreatDoorHNk26
import Derived.Test.YtnlhhmlcjbohbaaGreatDoorHNk23
set_option linter.all false
set_option maxRecDepth 100000
set_option maxHeartbeats 12800000
open Bool renaming false->M,true->O
open Go.Value renaming slice->Q
namespace Go.Proofs.YtnlhhmlcjbohbaaGreatDoor
open Go.RowKit
variable{c:Int}{p:Nat}{s:ByteArray}
theorem aiu{S:List Int}{n:Nat}(hS:Dy S)(b:S.length=n)(e:1<=n):S.getD (n-1) 0≠(n:Int)↔S.getD (n-1) 0<(n:Int):=by
 obtain⟨c,a⟩:=co b (show n-1<n by omega);have d:=hS _ c a;rw[aK,a,gj];omega
open Go.Maps Go.WideMaps
theorem abv(x:ByteArray):Ar x=decide (x=⟨#[]⟩):=by
 unfold Ar;rw[fC];by_cases a:x=⟨#[]⟩
 ·subst a;rfl
 ·rw[aD a,aD];intro b;apply a;cases x;simp only at b
  congr 1
  exact Array.toList_inj.1 b
theorem ye(N:Nd):Bl (ny N (ez N.k)) N=(match ez N.k with
  |0=>bC N M M M O
  |1=>bC N M O M M
  |2=>bC N M O M M
  |3=>bC N M M O M
  |4=>bC N O M M M
  |5=>bC N O M M O&&(N.op==0||N.op==1)
  |_=>bC N M M M M):=by
 have p:∀(l m o:Bool)(P f g h:Prop) [Decidable P] [Decidable f] [Decidable g] [Decidable h],decide (P/\f/\g/\h)=(decide P&&decide f&&decide g&&decide h):=fun l m o P f g h _ _ _ _=>by
  by_cases c:P<;>by_cases q:f<;>by_cases r:g<;>by_cases s:h<;>simp[c,q,r,s]
 have d:decide ((0:Int)=N.op)=(N.op==0):=by
  by_cases a:N.op=0
  ·rw[bv a.symm,a];rfl
  ·rw[aD (fun b=>a b.symm)];exact(beq_eq_false_iff_ne.2 a).symm
 have j:decide ((0:Int)=N.n)=(N.n==0):=by
  by_cases a:N.n=0
  ·rw[bv a.symm,a];rfl
  ·rw[aD (fun b=>a b.symm)];exact(beq_eq_false_iff_ne.2 a).symm
 have e:decide ((⟨#[]⟩:ByteArray)=N.x)=Ar N.x:=by
  rw[abv];by_cases a:N.x=⟨#[]⟩
  ·rw[bv a.symm,bv a]
  ·rw[aD (fun b=>a b.symm),aD a]
 have i:decide (([]:List ByteArray)=N.nm)=decide (N.nm.length=0):=by
  by_cases a:N.nm=[]
  ·rw[bv a.symm,bv (by rw[a];rfl)]
  ·rw[aD (fun b=>a b.symm),aD (fun b=>a (nK b))]
 unfold Bl bC;rw[p O O O];rcases DA N.k with hc|hc|hc|hc|hc|hc|hc
 ·rw[hc];simp only[ny,d,j,e];simp
 ·rw[hc];simp only[ny,d,e,i];simp
 ·rw[hc];simp only[ny,d,e,i];simp
 ·rw[hc];simp only[ny,d,j,i];simp
 ·rw[hc];simp only[ny,j,e,i];simp
 ·rw[hc];simp only[ny,j,e];have b:decide ((if N.op=1 then(1:Int) else 0)=N.op)=(N.op==0||N.op==1):=by
   by_cases c:N.op=1
   ·rw[ab c,c];rfl
   ·rw[aa c,d];rw[beq_eq_false_iff_ne.2 c,Cc]
  rw[b];simp;cases (N.op==0||N.op==1)<;>cases (N.n==0)<;>cases Ar N.x<;>rfl
 ·rw[hc];simp only[ny,d,j,e,i];simp
theorem mh(ns:List Nd)(ks:List Int):(kinds ns ks).length=ks.length:=by simp[kinds]
theorem aiv(ns:List Nd)(N:Nd)(j:Nat)(h:j<N.ks.length):(kinds ns N.ks)[j]?=some (gc ns N j):=by
 unfold kinds gc;rw[bK,aE h];simp[List.getD,aE h]
theorem abw(K:List Int):fH [] K=K.isEmpty:=rfl
theorem ado(i:Nat)(K:List Int):fH [(i,1)] K=K.all (ms i):=by
 rw[fH,aa (by omega),abw];have b:Jb i 1 K=(K.takeWhile (ms i)).length:=by unfold Jb;rw[ab rfl]
 rw[b]
 induction K with
 |nil=>rfl
 |cons a d c=>
  cases h:ms i a with
  |false=>rw[Gq (by simp[h])];simp[h]
  |true=>
   rw[Gr (by simp[h]),GG,h,fI,bi,List.drop_succ_cons];exact c (by unfold Jb;rw[ab rfl])
theorem aqK(i f:Nat)(b:f≠1)(a:Int)(r:List Int):Jb i f (a::r)=if ms i a=O then 1 else 0:=by
 unfold Jb;rw[aa b];cases h:ms i a with
 |false=>rw[Gq (by simp[h])];simp
 |true=>rw[Gr (by simp[h]),bi,ab rfl];omega
theorem I1(i:Nat)(b:List (Nat×Nat))(a:Int)(r:List Int):fH ((i,0)::b) (a::r)=(ms i a&&fH b r):=by
 rw[fH,aqK i 0 (by omega)];cases h:ms i a with
 |false=>simp
 |true=>simp
theorem adp(i:Nat)(a:List (Nat×Nat)):fH ((i,0)::a) []=M:=by
 rw[fH];simp[Jb]
theorem aoK(i:Nat)(b:List (Nat×Nat))(a:Int)(r:List Int):fH ((i,2)::b) (a::r)=if ms i a=O then fH b r else fH b (a::r):=by
 rw[fH,aqK i 2 (by omega)];cases h:ms i a with
 |false=>simp
 |true=>simp
theorem alm(i:Nat)(a:List (Nat×Nat)):fH ((i,2)::a) []=fH a []:=by
 rw[fH];simp[Jb]
theorem aoL(n:Nat):∀(K:List Int),n<K.length->fH (E3 n) K=((K.take n).all (ms 5)&&(K.drop n).all (ms 3)):=by
 induction n with
 |zero=>
  intro K b
  match K,b with
  |a::c,_=>
   show fH ((3,0)::[(3,1)]) (a::c)=_;rw[I1,ado];simp
 |succ n d=>
  intro K b
  match K,b with
  |a::c,b=>
   show fH ((5,0)::E3 n) (a::c)=_;rw[I1,d c (by simpa using b)];simp[Bool.and_assoc]
theorem sH(ns:List Nd)(N:Nd)(j:Nat)(h:j<N.ks.length):gc ns N j=(kinds ns N.ks).getD j 0:=by
 rw[aK,aiv ns N j h];rfl
theorem zC(K:List Int)(p:Int->Bool)(f j:Nat)(h:j+(f+1)<=K.length):((K.drop j).take (f+1)).all p=(p (K.getD j 0)&&((K.drop (j+1)).take f).all p):=by
 have a:j<K.length:=by omega
 rw[iH a,List.take_succ_cons,GG,aK,aE a];rfl
theorem abx(ns:List Nd)(N:Nd):∀(f j:Nat),j+f<=N.ks.length->lF ns N f j=(((kinds ns N.ks).drop j).take f).all gF
 |0,j,_=>by simp[lF]
 |f+1,j,h=>by
  rw[lF,abx ns N f (j+1) (by omega),zC _ _ _ _ (by rw[mh];exact h),sH ns N j (by omega)]
theorem aiw(ns:List Nd)(N:Nd):∀(f j:Nat),j+f<=N.ks.length->sbB ns N f j=(((kinds ns N.ks).drop j).take f).all jJ
 |0,j,_=>by simp[sbB]
 |f+1,j,h=>by
  rw[sbB,aiw ns N f (j+1) (by omega),zC _ _ _ _ (by rw[mh];exact h),sH ns N j (by omega)]
theorem aix(ns:List Nd)(N:Nd):∀(f j:Nat),j+f<=N.ks.length->tgB ns N f j=(((kinds ns N.ks).drop j).take f).all Bm
 |0,j,_=>by simp[tgB]
 |f+1,j,h=>by
  rw[tgB,aix ns N f (j+1) (by omega),zC _ _ _ _ (by rw[mh];exact h),sH ns N j (by omega)]
theorem aiy(ns:List Nd)(N:Nd):∀(f j:Nat),j+f<=N.ks.length->enB ns N f j=(((kinds ns N.ks).drop j).take f).all (ms 9)
 |0,j,_=>by simp[enB]
 |f+1,j,h=>by
  rw[enB,aiy ns N f (j+1) (by omega),zC _ _ _ _ (by rw[mh];exact h),sH ns N j (by omega)];rfl
theorem aln(k:Int):ms 5 k=Bm k:=by
 unfold ms Bm;by_cases a:k=26<;>by_cases b:k=32<;>by_cases c:k=33<;>simp[a,b,c]
def xj(ns:List Nd)(N:Nd):Bool:=Bl (ny N (ez N.k)) N&&(ffB N N.ks.length (ez N.k)&&kfB N (kinds ns N.ks))
theorem aqL(ns:List Nd)(N:Nd)(hk:N.k=3\/N.k=4\/N.k=6\/N.k=7\/N.k=8\/N.k=9\/N.k=10\/N.k=11\/N.k=12\/N.k=14\/N.k=15\/N.k=16\/N.k=20\/N.k=21\/N.k=22\/N.k=23\/N.k=24\/N.k=25\/N.k=26\/N.k=27\/N.k=28\/N.k=29\/N.k=30\/N.k=31\/N.k=32\/N.k=33\/N.k=36\/N.k=37\/N.k=40\/N.k=41\/N.k=42)(j:N.nm.length<=200):xj ns N=pG ns N:=by
 have a:=mh ns N.ks;have b:=sH ns N;have h:gF 1=M:=rfl;unfold xj kfB rkB;rw[ye];revert a b;generalize kinds ns N.ks=c;intro a b;rcases hk with hk|hk|hk|hk|hk|hk|hk|hk|hk|hk|hk|hk|hk|hk|hk|hk|hk|hk|hk|hk|hk|hk|hk|hk|hk|hk|hk|hk|hk|hk|hk;all_goals
  rcases c with _|⟨d,_|⟨e,_|⟨f,_|⟨g,_|⟨i,l⟩⟩⟩⟩⟩;all_goals
   simp at a;simp[pG,jJ,stB,jB,ez,abt,ffB,txB,DD,hk,<-a,b,lF,fG,I1,adp,abw,aoK,alm,ms]<;>grind
theorem aq0(ns:List Nd)(N:Nd)(hk:N.k=1\/N.k=2\/N.k=13\/N.k=34\/N.k=35)(j:N.nm.length<=200):xj ns N=pG ns N:=by
 have b:=mh ns N.ks;have e:=sH ns N 0;have d:=abx ns N N.ks.length 0 (by omega);have c:=aiw ns N N.ks.length 0 (by omega);have a:=aiy ns N N.ks.length 0 (by omega);have g:ms 0=jJ:=rfl;have h:ms 3=gF:=rfl;rw[<-b]at d c a e;rw[jy,Cd]at d c a;unfold xj kfB rkB;rw[ye,<-b];revert b e d c a;generalize kinds ns N.ks=f;intro b e d c a;rcases hk with hk|hk|hk|hk|hk;all_goals
  rcases f with _|⟨i,l⟩;all_goals
   simp at b e;simp only[bi,GG,dH,List.all_nil]at d c a;simp[pG,jJ,stB,jB,ez,abt,ffB,txB,DD,hk,d,c,a,g,h,<-b,e,fG,ado,I1,adp,abw,ms]<;>grind
theorem aq1(ns:List Nd)(N:Nd)(a:N.k=5)(e:N.nm.length<=200):xj ns N=pG ns N:=by
 have c:ez N.k=1:=by rw[a];rfl
 have d:pG ns N=(bC N M O M M&&(decide (1<=N.n/\N.n<(N.ks.length:Int))&&(tgB ns N N.n.toNat 0&&lF ns N (N.ks.length-N.n.toNat) N.n.toNat))):=by
  unfold pG;rw[ab (by rw[a];rfl)];unfold stB;rw[aa (by rw[a];decide),aa (by rw[a];decide),aa (by rw[a];decide),aa (by rw[a];decide),ab a]
 unfold xj kfB;rw[ye,c,d,ab rfl];simp only[ffB];by_cases b:1<=N.n/\N.n<(N.ks.length:Int)
 ·rw[bv b,fI,fI,aoL _ _ (by rw[mh];omega),aix ns N _ _ (by omega),abx ns N _ _ (by omega)]
  congr 1
  congr 1
  ·rw[jy]
   congr 1
   funext k
   exact aln k
  ·have:(kinds ns N.ks).drop N.n.toNat=((kinds ns N.ks).drop N.n.toNat).take (N.ks.length-N.n.toNat):=by
    rw[dj (by rw[im,mh];exact ae _)]
   rw[<-this];rfl
 ·rw[aD b,eI,eI]
theorem ao0(ns:List Nd)(N:Nd)(h:N.k ∉ nI)(f:N.k≠5):xj ns N=pG ns N:=by
 have d:=(IL N.k h).1;simp only[nI,pd,ta,tm,not_or]at h;have e:jJ N.k=M:=by unfold jJ;exact aD (by omega)
 have b:pG ns N=M:=by
  unfold pG;rw[aa (by rw[e];decide)];unfold jB
  repeat rw[aa (by omega)]
 have a:ez N.k=6:=by
  unfold ez
  repeat rw[aa (by omega)]
 have c:rkB N.k (kinds ns N.ks)=M:=by unfold rkB;rw[d]
 unfold xj kfB;rw[b,a,aa (by decide),c,pf,pf]
theorem aiz(ns:List Nd)(N:Nd)(a:N.nm.length<=200):xj ns N=pG ns N:=by
 by_cases b:N.k∈nI
 ·simp only[nI,pd,ta,tm]at b;by_cases d:N.k=1\/N.k=2\/N.k=13\/N.k=34\/N.k=35
  ·exact aq0 ns N d a
  ·exact aqL ns N (by omega) a
 ·by_cases c:N.k=5
  ·exact aq1 ns N c a
  ·exact ao0 ns N b c
theorem aby(ns:List Nd)(N:Nd)(l:200<N.nm.length):pG ns N=M:=by
 have f:∀c d e,bC N c d e M=M:=fun c d e=>by unfold bC;rw[aD (by omega)];simp
 have a:∀g b,b<=200->fG N g b=M:=fun g b m=>by unfold fG;rw[aD (by omega)];rfl
 have h:=a 1 1 (by omega);have i:=a 1 2 (by omega);have j:=a 1 200 (by omega);have k:=a 0 200 (by omega);unfold pG;split
 ·unfold stB;simp only[f,h,i,j,eI,pf];simp
 ·unfold jB;simp only[f,k,eI,pf];simp
theorem alo(ns:List Nd)(i:Nat)(N:Nd):E6 ns i N=jf ns i N:=by
 unfold E6 jf;by_cases c:N.nm.length<=200
 ·have d:E5 N=abc N:=by
   unfold E5 abc;by_cases a:0<=N.f/\N.f<=N.t/\0<=N.l/\N.ks.length<=200
   ·rw[bv a,bv ⟨a.1,a.2.1,a.2.2.1,a.2.2.2,c⟩]
   ·rw[aD a,aD (fun b=>a ⟨b.1,b.2.1,b.2.2.1,b.2.2.2.1⟩)]
  have e:=aiz ns N c;unfold xj at e;rw[d,<-e];generalize Bl (ny N (ez N.k)) N=g;generalize Jc N.ks i N.ks.length 0=h;cases g<;>cases h<;>rfl
 ·have d:E5 N=M:=by unfold E5;exact aD (fun b=>c b.2.2.2.2)
  rw[d,aby ns N (by omega),eI,pf,pf]
theorem adq(s:ByteArray):∀(f:Nat)(st:List Int)(p:Nat)(l:Int)(c:List Tk),p<=s.size->c.Pairwise (fun a b=>a.f<b.f)->(∀T∈c,0<=T.f/\T.f<(p:Int))->(ov s f st p l c).1.Pairwise (fun a b=>a.f<b.f)/\∀T∈(ov s f st p l c).1,0<=T.f
 |0,st,p,l,c,_,_,_=>⟨.nil,fun T hT=>by cases hT⟩
 |f+1,st,p,l,c,z,r,k=>by
  have j:∀(g:Tk)(d:Nat),g.f=(p:Int)->p<d->(c++[g]).Pairwise (fun a b=>a.f<b.f)/\∀T∈c++[g],0<=T.f/\T.f<(d:Int):=fun g d q m=>by
   refine⟨List.pairwise_append.2 ⟨r,List.pairwise_singleton _ _,fun a u b h=>?_⟩,fun T hT=>?_⟩
   ·rw[List.mem_singleton.1 h,q];exact(k a u).2
   ·rcases List.mem_append.1 hT with hT|hT
    ·have:=k T hT;omega
    ·rw[List.mem_singleton.1 hT,q];omega
  have y:∀d,p<d->∀T∈c,0<=T.f/\T.f<(d:Int):=fun d m T hT=>by have:=k T hT;omega
  have h:∀e,e<=s.size->e<=blk s (s.size+1) e/\blk s (s.size+1) e<=s.size:=fun e w=>jm s (s.size+1) e w;rw[ov];split
  ·rename_i m;have:=j ⟨6,(s.size:Nat),(s.size:Nat),l,0,⟨#[]⟩⟩ (p+1) (by show((s.size:Nat):Int)=_;omega) (by omega);exact⟨this.1,fun T hT=>(this.2 T hT).1⟩
  ·rename_i m;split
   ·rename_i t;have o:=iA s p (by omega) (KE s p t).1;have i:=h _ o.2.1;split
    ·have:=j ⟨5,(p:Nat),((rdI s p).a:Nat),l,(rdI s p).n,(rdI s p).x⟩ (blk s (s.size+1) (rdI s p).a) rfl (by omega);exact adq s f _ _ _ _ i.2 this.1 this.2
    ·exact adq s f _ _ _ _ i.2 r (y _ (by omega))
   ·split
    ·split
     ·rename_i v;have o:=iA s p (by omega) v;have i:=h _ o.2.1;have:=j ⟨oI s p,(p:Nat),((rdI s p).a:Nat),l,(rdI s p).n,(rdI s p).x⟩ (blk s (s.size+1) (rdI s p).a) rfl (by omega);exact adq s f _ _ _ _ i.2 this.1 this.2
     ·exact⟨.nil,fun T hT=>by cases hT⟩
    ·exact⟨.nil,fun T hT=>by cases hT⟩
theorem LD(h:uq c=O):(97<=c/\c<=122)\/(65<=c/\c<=90)\/c=95\/(48<=c/\c<=57):=by
 unfold uq ba bc at h;simp at h;omega
theorem ao1(s:ByteArray):∀(f p i:Nat),p<=i->i<mi s f p->uq (aq s i)=O:=fun f p i b a=>by
 rw[zk]at a;exact mC _ s f p i b a
theorem alp(s:ByteArray)(p:Nat)(a:p<=s.size):uq (aq s (mi s (s.size+1) p))=M:=by
 rw[zk];exact qa _ (by decide) s _ p (by omega)
theorem aiA{q:Nat}(h:uq c=O):nC q c≠4/\nC q c≠3:=by
 have:=LD h;unfold nC;rw[aa (show ¬c=10 by omega),aa (show ¬c=92 by omega),aa (show ¬c=10 by omega),aa (show ¬c=9 by omega)]
 repeat' split
 all_goals omega
theorem ao2(d:lm s p≠4)(a:uq (aq s p)=M):Bnd s p/\crA s p=0:=by
 refine⟨⟨fun c=>absurd c d,fun _=>?_⟩,by unfold crA;rw[aa (fun b=>by rw[a]at b;cases b.2)]⟩;unfold uq at a;rw[Bool.or_eq_false_iff]at a;exact a.2
theorem alq:∀j:Fin 22,opn (10+(j.val:Int))=O->aq (bp eu j.val) 0=97\/aq (bp eu j.val) 0=110:=by decide+kernel
theorem ao3{a b:ByteArray}(h:a.toList=b.toList)(i:Nat):aq a i=aq b i:=by
 rw[qd,qd];rw[fC,fC]at h;rw[h]
def Stp(s:ByteArray)(p:Nat):Prop:=(uR s p (rdI s p).a+beK (rdI s p).k+gA s (rdI s p).a<=gA s p\/((rdI s p).k=7/\10+gA s (rdI s p).a<=gA s p))/\((rdI s p).k=5->10+gA s (rdI s p).a<=gA s p)/\Bnd s (rdI s p).a
theorem alr{q:Nat}(h:ba c=O)(f:q≠4):((q=1\/q=2)/\nA q c=2)\/(¬(q=1\/q=2)/\8<=nA q c/\(c=97\/c=110->nA q c=12)):=by
 have g:=pL h;have e:bc c=M:=by simp[bc];omega
 have d:c≠92:=fun a=>by subst a;revert h;decide
 unfold nA;rw[aa f,aa d,aa (by omega),aa (by omega),aa (by omega),aa (by omega),aa (by rw[e];simp),ab h];by_cases a:q=1\/q=2
 ·rw[ab a];exact .inl ⟨a,rfl⟩
 ·rw[aa a];refine .inr ⟨a,?_,fun b=>by rw[ab b]⟩;split<;>omega
theorem als(A:p<s.size)(t:Bnd s p)(h:ba (aq s p)=O):Stp s p:=by
 have B:=pL h;have x:lm s p≠4:=fun b=>by rcases t.bs b with e|e<;>omega
 obtain⟨a,d⟩:∃a,mi s (s.size+1) p=a:=⟨_,rfl⟩;have e:rdI s p=⟨O,a,0,(zH s p).1,0,(zH s p).2⟩:=by unfold rdI;rw[ab h,d]
 have l:=Cp s p h;have g:=tw s (s.size+1) p (by omega);have f:=ao1 s (s.size+1) p;have k:=alp s p (by omega);rw[d]at l g f k;have y:lm s a≠4:=by
  have:a=(a-1)+1:=by omega
  rw[this,jL (by omega)];exact(aiA (f (a-1) (by omega) (by omega))).1
 obtain⟨n,o⟩:=ao2 y k;have E:=Cy (s:=s) (p:=p) (a:=a) l g.2 (fun z i j=>by have:=LD (f z i j);omega) (by omega);have C:uw (aq s p)=2:=by unfold uw;rw[ab (by omega)]
 have w:opn (zH s p).1=O->aq s p=97\/aq s p=110:=by
  unfold zH;rw[d];cases ef:wg eu (s.extract p a) 22 0 with
  |none=>intro b;have c:opn 1=O:=b;exact absurd c (by decide)
  |some m=>
   intro b;obtain⟨i,j,r⟩:=qL eu _ 22 0 m ef;have:=alq ⟨m,by omega⟩ b;simp only at this;rw[ao3 r 0,fi s p a 0 g.2,iz]at this;exact this
 have v:(zH s p).1≠5:=by
  unfold zH;split
  ·simp only;omega
  ·simp
 unfold Stp;rw[e];simp only;unfold gA;rw[o];have u:crA s p=if(lm s p=1\/lm s p=2) then 10 else 0:=by
  unfold crA;have:uq (aq s p)=O:=by unfold uq;rw[h];rfl
  rw[this];simp
 rw[u];refine⟨.inl ?_,fun b=>absurd b v,n⟩;rcases alr h x with⟨b,c⟩|⟨b,c,q⟩
 ·rw[ab b];have:=ahF (zH s p).1;omega
 ·rw[aa b];unfold beK;by_cases go:opn (zH s p).1=O
  ·rw[ab go];have:=q (w go);omega
  ·rw[aa go];omega
theorem wA(s:ByteArray)(p i:Nat)(a:p<=i)(b:i<oD s p):bc (aq s i)=O:=mC bc s _ p i a b
theorem ae6(s:ByteArray)(p:Nat)(G:p<s.size)(k:bc (aq s p)=O):(∀i,p<=i->i<(cK s p).1->43<=aq s i)/\((cK s p).2=O->uq (aq s ((cK s p).1-1))=O/\(bc (aq s (cK s p).1)=O->(cK s p).1=p+1/\aq s p=48)):=by
 have l:∀a,a<=s.size->bc (aq s (oD s a))=M:=fun a u=>qa bc tB s _ a (by omega);unfold cK;by_cases m:aq s p=48/\aq s (p+1)=120
 ·rw[ab m];have c:=bz m.2;have w:=afr s (p+2) (by omega);have v:∀i,p+2<=i->i<ED s (p+2)->li (aq s i)=O:=fun i d c=>mC li s _ (p+2) i d c;have C:li (aq s (ED s (p+2)))=M:=qa li yC s _ (p+2) (by omega);have z:∀i,p<=i->i<ED s (p+2)->43<=aq s i:=fun i d c=>by
   rcases(show i=p\/i=p+1\/p+2<=i by omega) with rfl|rfl|g
   ·omega
   ·omega
   ·have:=(oC _).1 (v i g c);omega
  unfold mD;by_cases g:p+2+16<ED s (p+2)
  ·rw[ab g];exact⟨fun i d c=>z i d (by simp only at c;omega),fun f=>by cases f⟩
  ·rw[aa g];refine⟨z,fun f=>?_⟩;have A:p+2<ED s (p+2):=aG f;refine⟨?_,fun B=>?_⟩
   ·have:=(oC _).1 (v (ED s (p+2)-1) (by omega) (by omega));unfold uq ba bc;simp;omega
   ·have:=fe B;have:li (aq s (ED s (p+2)))=O:=(oC _).2 (.inl this);rw[C]at this;cases this
 ·rw[aa m];have y:∀{r:Int},bc r=O->uq r=O:=fun f=>by unfold uq;rw[f];simp
  have n:=Aa s p G;have j:=Ab s (nA0 s p) n.2;have o:=G5 s (nA1 s (nA0 s p)) j.2;have s0:(∀i,p<=i->i<nA0 s p->43<=aq s i)/\bc (aq s (nA0 s p-1))=O/\(bc (aq s (nA0 s p))=O->nA0 s p=p+1/\aq s p=48):=by
   unfold nA0;by_cases g:aq s p=48
   ·rw[ab g];exact⟨fun i d c=>by obtain rfl:i=p:=(by omega);omega,by rw[show p+1-1=p by omega];exact k,fun _=>⟨rfl,g⟩⟩
   ·rw[aa g];have x:=ou s (p+1) (by omega);refine⟨fun i d c=>?_,?_,fun e=>by rw[l (p+1) (by omega)]at e;cases e⟩
    ·rcases(show i=p\/p+1<=i by omega) with rfl|q
     ·have:=fe k;omega
     ·have:=fe (wA s (p+1) i q c);omega
    ·rcases(show oD s (p+1)=p+1\/p+1<oD s (p+1) by omega) with q|q
     ·rw[q,show p+1-1=p by omega];exact k
     ·exact wA s (p+1) _ (by omega) (by omega)
  obtain⟨a,u⟩:∃a,nA0 s p=a:=⟨_,rfl⟩;rw[u]at n j o s0⊢;have h:(∀i,p<=i->i<nA1 s a->43<=aq s i)/\bc (aq s (nA1 s a-1))=O/\(bc (aq s (nA1 s a))=O->nA1 s a=p+1/\aq s p=48):=by
   unfold nA1;by_cases g:aq s a=46/\bc (aq s (a+1))=O
   ·rw[ab g];have A:=qc g.2;have x:=ou s (a+1) (by omega);have E:a+1<oD s (a+1):=by
     unfold oD;rw[ic,ab g.2];have:=oq bc tB s s.size (a+1+1) (by omega);omega
    refine⟨fun i d c=>?_,wA s (a+1) _ (by omega) (by omega),fun e=>by rw[l (a+1) (by omega)]at e;cases e⟩;rcases(show i<a\/i=a\/a+1<=i by omega) with q|rfl|q
    ·exact s0.1 i d q
    ·omega
    ·have:=fe (wA s (a+1) i q c);omega
   ·rw[aa g];exact s0
  obtain⟨b,w⟩:∃b,nA1 s a=b:=⟨_,rfl⟩;rw[w]at j o h⊢;unfold ot;by_cases g:aq s b=101
  ·rw[ab g];have A:=bz g;have c:b+1<=nA2 s b/\nA2 s b<=s.size/\∀i,b+1<=i->i<nA2 s b->43<=aq s i:=by
    unfold nA2;by_cases q:aq s (b+1)=43\/aq s (b+1)=45
    ·have:b+1<s.size:=by rcases q with q|q<;>exact bz q
     rw[ab q];exact⟨by omega,by omega,fun i d c=>by obtain rfl:i=b+1:=(by omega);omega⟩
    ·rw[aa q];exact⟨by omega,by omega,fun i d c=>by omega⟩
   have x:=ou s (nA2 s b) c.2.1;refine⟨fun i d t=>?_,fun F=>?_⟩
   ·simp only at t;rcases(show i<b\/i=b\/(b+1<=i/\i<nA2 s b)\/nA2 s b<=i by omega) with q|rfl|q|q
    ·exact h.1 i d q
    ·omega
    ·exact c.2.2 i q.1 q.2
    ·have:=fe (wA s (nA2 s b) i q t);omega
   ·have E:nA2 s b<oD s (nA2 s b):=aG F;simp only;exact⟨y (wA s (nA2 s b) _ (by omega) (by omega)),fun e=>by rw[l _ c.2.1]at e;cases e⟩
  ·rw[aa g];exact⟨h.1,fun _=>⟨y h.2.1,h.2.2⟩⟩
theorem alt(d:p<s.size)(f:Bnd s p)(h:bc (aq s p)=O)(b:(rdI s p).ok=O):Stp s p:=by
 have G:=fe h;have i:ba (aq s p)=M:=by simp[ba];omega
 have w:lm s p≠4:=fun g=>by rcases f.bs g with e|e<;>omega
 have v:lm s p≠1:=fun g=>by have:=f.dg g;rw[h]at this;cases this
 have F:=ya s p;obtain⟨k,z⟩:=ae6 s p d h;have c:=rj s p d;have j:(cK s p).2=O:=by
  unfold rdI at b;rw[aa (by rw[i];simp),ab h]at b;split at b
  ·rename_i g;exact g
  ·cases b
 obtain⟨l,m⟩:=z j;have e:rdI s p=⟨O,(cK s p).1,0,(qz s p).1,(qz s p).2.1,(qz s p).2.2⟩:=by unfold rdI;rw[aa (by rw[i];simp),ab h,ab j]
 have u:(qz s p).1=2\/(qz s p).1=3:=by
  unfold qz;split
  ·exact .inl rfl
  ·split
   ·exact .inl rfl
   ·exact .inr rfl
 obtain⟨a,r⟩:∃a,(cK s p).1=a:=⟨_,rfl⟩;rw[r]at k l m c e;have I:=Cy (s:=s) (p:=p) (a:=a) c.1 c.2 (fun y n o=>by have:=k y n o;omega) (by omega);have x:lm s a≠4:=by
  have:a=(a-1)+1:=by omega
  rw[this,jL (by omega)];exact(aiA l).1
 have H:uw (aq s p)=2:=by unfold uw;rw[ab (by omega)]
 have E:crA s a<=10:=by unfold crA;split<;>omega
 have C:nA (lm s p) (aq s p)+crA s p ≥ 18:=by
  have:uq (aq s p)=O:=by unfold uq;rw[h];simp
  unfold nA crA;rw[this,aa w,aa (by omega),aa (by omega),aa (by omega),aa (by omega),aa (by omega),ab h,aa v];by_cases g:lm s p=2
  ·rw[ab g,ab ⟨.inr g,rfl⟩];decide
  ·rw[aa g,aa (fun q=>by rcases q.1 with q|q<;>omega)];decide
 have t:beK (qz s p).1=6:=by rcases u with g|g<;>rw[g]<;>decide
 unfold Stp;rw[e];simp only;rw[t];unfold gA;refine⟨.inl (by omega),fun g=>by omega,⟨fun g=>absurd g x,fun g=>?_⟩⟩;cases hd2:bc (aq s a) with
 |false=>rfl
 |true=>
  obtain⟨A,B⟩:=m hd2;rw[A,jL d,B]at g;have:nC (lm s p) 48=2:=by
   rcases(show lm s p=0\/lm s p=2\/lm s p=3 by omega) with q|q|q<;>rw[q]<;>decide
  omega
theorem abz(s:ByteArray):∀(f p:Nat)(d:List Int),(dI s f p d).1=O->p<=s.size->(∀i,p<=i->i<(dI s f p d).2.1->aq s i≠10)/\p<(dI s f p d).2.1/\aq s ((dI s f p d).2.1-1)=34
 |0,p,d,a,_=>by rw[dI]at a;cases a
 |f+1,p,d,a,A=>by
  rw[dI]at a⊢;by_cases t:s.size<=p
  ·rw[ab t]at a;cases a
  rw[aa t]at a⊢;by_cases j:aq s p=34
  ·rw[ab j];simp only;exact⟨fun i e c=>by obtain rfl:i=p:=(by omega);omega,by omega,by rw[show p+1-1=p by omega];exact j⟩
  rw[aa j]at a⊢;by_cases g:aq s p=10
  ·rw[ab g]at a;cases a
  rw[aa g]at a⊢;by_cases u:aq s p=92
  ·rw[ab u]at a⊢;by_cases b:(gJ s (p+1)).2.2=O
   ·rw[ab b]at a⊢;have y:=GJ s (p+1) (by omega);have B:=Jl s (p+1) (by omega) b;obtain⟨k,z,l⟩:=abz s f _ _ a y.2.1;refine⟨fun i e c=>?_,by omega,l⟩;rcases(show i=p\/(p+1<=i/\i<(gJ s (p+1)).2.1)\/(gJ s (p+1)).2.1<=i by omega) with rfl|q|q
    ·exact g
    ·revert q;unfold gJ at b⊢;by_cases e:aq s (p+1)=110
     ·rw[ab e];intro q;obtain rfl:i=p+1:=by simp only at q;omega
      omega
     rw[aa e]at b⊢;by_cases c:aq s (p+1)=116
     ·rw[ab c];intro q;obtain rfl:i=p+1:=by simp only at q;omega
      omega
     rw[aa c]at b⊢;by_cases o:aq s (p+1)=34\/aq s (p+1)=92
     ·rw[ab o];intro q;obtain rfl:i=p+1:=by simp only at q;omega
      omega
     rw[aa o]at b⊢;by_cases r:aq s (p+1)=120
     ·rw[ab r]at b⊢;unfold hexI at b⊢;by_cases m:gg (aq s (p+1+1))<0
      ·rw[ab m]at b;cases b
      rw[aa m]at b⊢;by_cases n:gg (aq s (p+1+1+1))<0
      ·rw[ab n]at b;cases b
      rw[aa n];intro q;have w:∀h:Int,¬gg h<0->h≠10:=fun h v x=>by rw[x]at v;exact v (by decide)
      rcases(show i=p+1\/i=p+1+1\/i=p+1+1+1 by simp only at q;omega) with rfl|rfl|rfl
      ·omega
      ·exact w _ m
      ·exact w _ n
     ·rw[aa r]at b;cases b
    ·exact k i q c
   ·rw[aa b]at a;cases a
  rw[aa u]at a⊢;obtain⟨k,z,l⟩:=abz s f _ _ a (by omega);refine⟨fun i e c=>?_,by omega,l⟩;rcases(show i=p\/p+1<=i by omega) with rfl|q
  ·exact g
  ·exact k i q c
theorem ar6{q:Nat}(h:q<=4)(a:q≠4):nA q 34=8:=by
 rcases(show q=0\/q=1\/q=2\/q=3 by omega) with rfl|rfl|rfl|rfl<;>decide
theorem n34{q:Nat}(h:q<=4):nC q 34=0:=by
 rcases(show q=0\/q=1\/q=2\/q=3\/q=4 by omega) with rfl|rfl|rfl|rfl|rfl<;>decide
theorem abA(h:lm s p=0\/lm s p=3):Bnd s p/\crA s p=0:=⟨⟨fun a=>by omega,fun a=>by omega⟩,by unfold crA;rw[aa (fun a=>by have:=a.1;omega)]⟩
theorem alu(B:p<s.size)(o:Bnd s p)(h:aq s p=34)(d:(rdI s p).ok=O):Stp s p:=by
 have u:lm s p≠4:=fun b=>by rcases o.bs b with e|e<;>omega
 have c:rdI s p=(if(dI s (s.size+1) (p+1) []).1=O then⟨O,(dI s (s.size+1) (p+1) []).2.1,0,4,0,ey (dI s (s.size+1) (p+1) []).2.2⟩ else⟨M,(dI s (s.size+1) (p+1) []).2.1,0,0,0,ByteArray.empty⟩):=by
  unfold rdI;rw[h,aa (by decide),aa (by decide),ab rfl]
 have i:(dI s (s.size+1) (p+1) []).1=O:=by
  rw[c]at d;split at d
  ·rename_i b;exact b
  ·cases d
 rw[ab i]at c;have g:=sa s (s.size+1) (p+1) [] (by omega);obtain⟨j,x,k⟩:=abz s _ _ _ i (by omega);obtain⟨a,r⟩:∃a,(dI s (s.size+1) (p+1) []).2.1=a:=⟨_,rfl⟩;rw[r]at g j x k c;have y:=Cy (s:=s) (p:=p) (a:=a) (by omega) g.2.1 (fun f z n=>by
  rcases(show f=p\/p+1<=f by omega) with rfl|q
  ·omega
  ·exact j f q n) (by omega)
 have v:lm s a=0:=by
  have:a=(a-1)+1:=by omega
  rw[this,jL (by omega),k];exact n34 (ya s _)
 obtain⟨l,m⟩:=abA (.inl v);have t:=ar6 (ya s p) u;have w:uw 34=2:=by decide
 rw[h,t,w]at y;unfold Stp;rw[c];simp only;unfold gA;rw[m];have A:beK 4=6:=by decide
 exact⟨.inl (by omega),fun b=>absurd b (by decide),l⟩
theorem ao4:∀k:Fin 79,(k.val=5\/40<=k.val)->∀j:Fin 3,j.val<(dB (k.val:Int)).size->33<=aq (dB (k.val:Int)) j.val/\aq (dB (k.val:Int)) j.val<=126/\uq (aq (dB (k.val:Int)) j.val)=M/\aq (dB (k.val:Int)) j.val≠34/\aq (dB (k.val:Int)) j.val≠92:=by decide+kernel
theorem alv:∀k:Fin 79,(k.val=5\/40<=k.val)->(dB (k.val:Int)).size<=3:=by decide+kernel
theorem alw{q:Nat}(b:q≠4)(h:33<=c/\c<=126/\uq c=M/\c≠34/\c≠92):nA q c=12:=by
 obtain⟨f,g,a,d,e⟩:=h;unfold uq at a;rw[Bool.or_eq_false_iff]at a;unfold nA;rw[aa b,aa e,aa (by omega),aa (by omega),aa (by omega),aa (by omega),aa (by rw[a.2];simp),aa (by rw[a.1];simp),aa d,ab (by omega)]
theorem alx{q:Nat}(h:33<=c/\c<=126/\uq c=M/\c≠34/\c≠92):nC q c=0:=by
 obtain⟨f,g,a,i,e⟩:=h;have d:=a;unfold uq at a;rw[Bool.or_eq_false_iff]at a;unfold nC;by_cases b:q=4
 ·rw[ab b,aa (by omega),aa (by rw[d];simp)]
 ·rw[aa b,aa e,aa (by omega),aa (by omega),aa (by rw[a.2];simp),aa (by rw[a.1];simp)]
theorem adr(y:p<s.size)(E:Bnd s p)(x:¬ba (aq s p)=O)(v:¬bc (aq s p)=O)(t:¬aq s p=34)(i:(rdI s p).ok=O):Stp s p:=by
 obtain⟨b,d⟩:∃b,na (s.extract p s.size)=b:=⟨_,rfl⟩;have am:=jp s p s.size (ae _);have j:b≠0:=fun g=>by
  unfold rdI at i;rw[aa x,aa v,aa t,ab (by rw[d];exact g)]at i;cases i
 have e:rdI s p=⟨O,p+(dB b).size,if b=7 then 1 else 0,b,0,ByteArray.empty⟩:=by
  unfold rdI;rw[aa x,aa v,aa t,d,aa j]
 obtain⟨B,n⟩:=KC (s.extract p s.size) (by omega) (by rw[d];exact j);have G:=Hn (s.extract p s.size) (by omega) (by rw[d];exact j);rw[d]at B n G;have o:∀c,c<(dB b).size->aq s (p+c)=aq (dB b) c:=fun c F=>by
  rw[<-n c F,fi s p s.size c (ae _)]
 have m:=o 0 (by omega);rw[iz]at m;unfold Stp;rw[e];simp only;by_cases C:b=7
 ·subst C;have J:(dB 7).size=1:=by decide
  have u:aq s p=10:=by rw[m];decide
  rw[J];have L:lm s (p+1)=3:=by
   rw[jL y,u];have:=ya s p;rcases(show lm s p=0\/lm s p=1\/lm s p=2\/lm s p=3\/lm s p=4 by omega) with g|g|g|g|g<;>rw[g]<;>decide
  obtain⟨k,l⟩:=abA (s:=s) (p:=p+1) (.inr L);have h:nA (lm s p) 10=12:=by
   have:=ya s p;rcases(show lm s p=0\/lm s p=1\/lm s p=2\/lm s p=3\/lm s p=4 by omega) with g|g|g|g|g<;>rw[g]<;>decide
  have I:=sF y;rw[u,h]at I;unfold gA;rw[l];exact⟨.inr ⟨rfl,by omega⟩,fun g=>absurd g (by decide),k⟩
 ·have al:0<=b/\b<=78/\(b=5\/40<=b):=by omega
  have A:((b.toNat:Nat):Int)=b:=by omega
  have z:=ao4 ⟨b.toNat,by omega⟩ (by simp only;omega);have ag:=alv ⟨b.toNat,by omega⟩ (by simp only;omega);simp only[A]at z ag;have f:∀c,p<=c->c<p+(dB b).size->33<=aq s c/\aq s c<=126/\uq (aq s c)=M/\aq s c≠34/\aq s c≠92:=fun c q r=>by
   have w:=o (c-p) (by omega);rw[show p+(c-p)=c by omega]at w;rw[w];exact z ⟨c-p,by omega⟩ (by simp only;omega)
  have first:=f p (ae _) (by omega)
  have H:lm s p≠4:=fun g=>by rcases E.bs g with e|e<;>omega
  have af:=Cy (s:=s) (p:=p) (a:=p+(dB b).size) (by omega) (by omega) (fun c q r=>by have:=f c q r;omega) (by omega);have K:lm s (p+(dB b).size)=0:=by
   have:p+(dB b).size=(p+(dB b).size-1)+1:=by omega
   rw[this,jL (by omega)];exact alx (f _ (by omega) (by omega))
  obtain⟨k,l⟩:=abA (s:=s) (p:=p+(dB b).size) (.inl K);have h:=alw H first
  have ad:uw (aq s p)=2:=by unfold uw;rw[ab (by omega)]
  have ak:=ahF b;have an:=ag5 s p (p+(dB b).size);rw[h,ad]at af;unfold gA;rw[l];exact⟨.inl (by omega),fun _=>by omega,k⟩
theorem ads(b:p<s.size)(a:Bnd s p)(c:(rdI s p).ok=O):Stp s p:=by
 by_cases d:ba (aq s p)=O
 ·exact als b a d
 by_cases e:bc (aq s p)=O
 ·exact alt b a e c
 by_cases f:aq s p=34
 ·exact alu b a f c
 ·exact adr b a d e f c
theorem sI(s:ByteArray):∀(f p:Nat),p<=s.size->Bnd s p->gA s (blk s f p)<=gA s p/\Bnd s (blk s f p)
 |0,p,_,a=>⟨ae _,a⟩
 |f+1,p,q,a=>by
  rw[blk];by_cases l:s.size<=p
  ·rw[ab l];exact⟨ae _,a⟩
  rw[aa l];by_cases j:gG (aq s p)=O
  ·rw[ab j];have b:aq s p=32\/aq s p=9\/aq s p=13:=aG j;have t:lm s p≠4:=fun g=>by rcases a.bs g with e|e<;>omega
   have r:lm s (p+1)=0\/lm s (p+1)=3:=by
    rw[jL (by omega)];have:=ya s p;rcases(show lm s p=0\/lm s p=1\/lm s p=2\/lm s p=3 by omega) with g|g|g|g<;>rcases b with c|c|c<;>rw[g,c]<;>decide
   obtain⟨h,i⟩:=abA r;obtain⟨d,k⟩:=sI s f (p+1) (by omega) h;refine⟨?_,k⟩;have:=sF (s:=s) (p:=p) (by omega);unfold gA at d⊢;rw[i]at d;omega
  rw[aa j];by_cases m:aq s p=45/\aq s (p+1)=45
  ·rw[ab m];have o:=qk s p q;have n:FA (aq s (wC s p))=M:=qa FA Ho s _ p (by omega);have b:aq s (wC s p)=10\/aq s (wC s p)= -1:=by
    unfold FA at n;have:=jg n;omega
   have h:Bnd s (wC s p):=⟨fun _=>by
    rcases b with c|c
    ·exact .inl c
    ·right;rcases aH (wC s p) s.size with g|g
     ·have:=jl g;omega
     ·exact g,fun _=>by rcases b with c|c<;>rw[c]<;>decide⟩
   have i:crA s (wC s p)=0:=by
    unfold crA;rw[aa (fun g=>by rcases b with c|c<;>rw[c]at g<;>exact absurd g.2 (by decide))]
   obtain⟨d,k⟩:=sI s f (wC s p) o.2 h;refine⟨?_,k⟩;have:=Li (s:=s) (p:=p) (wC s p-p) (by omega);rw[show p+(wC s p-p)=wC s p by omega]at this;unfold gA at d⊢;rw[i]at d;omega
  ·rw[aa m];exact⟨ae _,a⟩
def wTk(s:ByteArray)(T:Tk):Nat:=if T.k=6 then 0 else if T.k=5 then 10 else uR s T.f.toNat T.t.toNat+beK T.k
def I2(s:ByteArray)(ts:List Tk):Nat:=(ts.map (wTk s)).sum
theorem Cz(s:ByteArray)(ts:List Tk)(T:Tk):I2 s (ts++[T])=I2 s ts+wTk s T:=by unfold I2;simp
theorem zD(s:ByteArray):∀(f:Nat)(st:List Int)(p:Nat)(l:Int)(d:List Tk),p<=s.size->Bnd s p->I2 s (ov s f st p l d).1<=I2 s d+gA s p
 |0,st,p,l,d,_,_=>by rw[ov];exact aF _
 |f+1,st,p,l,d,af,t=>by
  rw[ov];split
  ·rename_i h;simp only;rw[Cz];have:wTk s ⟨6,(s.size:Nat),(s.size:Nat),l,0,⟨#[]⟩⟩=0:=by unfold wTk;rw[ab rfl]
   omega
  ·rename_i h;split
   ·rename_i o;obtain⟨c,b⟩:=KE s p o;have j:=iA s p (by omega) c;obtain⟨r,_,v⟩:=ads (by omega) t c;obtain⟨A,m⟩:=sI s (s.size+1) (rdI s p).a j.2.1 v;have q:=jm s (s.size+1) (rdI s p).a j.2.1;have ad:10+gA s (rdI s p).a<=gA s p:=by
     rcases r with g|g
     ·have ak:=ag5 s p (rdI s p).a;rw[b]at g;have:beK 7=6:=by decide
      by_cases K:(rdI s p).a=p+1
      ·have i:aq s p=10:=by
        unfold rdI at c b;by_cases w:ba (aq s p)=O
        ·rw[ab w]at b;exact absurd b (amn s p)
        rw[aa w]at c b;by_cases y:bc (aq s p)=O
        ·rw[ab y]at c b;split at b
         ·exact absurd b (amo s p)
         ·simp at b
        rw[aa y]at c b;by_cases z:aq s p=34
        ·rw[ab z]at c b;split at b<;>simp at b
        rw[aa z]at c b;split at b
        ·simp at b
        ·rename_i J;simp only at b;have:=(KC (s.extract p s.size) (by rw[jp s p s.size (ae _)];omega) J).2 0 (by rw[b];decide);rw[b,fi s p s.size 0 (ae _),iz]at this;rw[this];decide
       have F:=adr (s:=s) (p:=p) (by omega) t (by rw[i];decide) (by rw[i];decide) (by rw[i];decide) c;rcases F.1 with g2|g2
       ·have G:=sF (s:=s) (p:=p) (by omega);have ag:=ya s p;have:nA (lm s p) 10=12:=by rcases(show lm s p=0\/lm s p=1\/lm s p=2\/lm s p=3\/lm s p=4 by omega) with e|e|e|e|e<;>rw[e]<;>decide
        have E:lm s (p+1)=3:=by
         rw[jL (by omega),i];rcases(show lm s p=0\/lm s p=1\/lm s p=2\/lm s p=3\/lm s p=4 by omega) with e|e|e|e|e<;>rw[e]<;>decide
        have H:=(abA (s:=s) (p:=p+1) (.inr E)).2;rw[i]at G;unfold gA;rw[K,H];omega
       ·exact g2.2
      ·omega
     ·exact g.2
    split
    ·have:=zD s f (feedL st 5).1 (blk s (s.size+1) (rdI s p).a) (l+1) (d++[⟨5,(p:Nat),((rdI s p).a:Nat),l,(rdI s p).n,(rdI s p).x⟩]) q.2 m;rw[Cz]at this;have B:wTk s ⟨5,(p:Nat),((rdI s p).a:Nat),l,(rdI s p).n,(rdI s p).x⟩=10:=by unfold wTk;rw[aa (show ¬(5:Int)=6 by decide),ab rfl]
     omega
    ·have:=zD s f st (blk s (s.size+1) (rdI s p).a) (l+1) d q.2 m;omega
   ·rename_i o;split
    ·split
     ·rename_i u;have I:oI s p=(rdI s p).k:=by unfold oI;rw[ab u]
      have j:=iA s p (by omega) u;obtain⟨r,L,v⟩:=ads (by omega) t u;obtain⟨A,m⟩:=sI s (s.size+1) (rdI s p).a j.2.1 v;have q:=jm s (s.size+1) (rdI s p).a j.2.1;have:=zD s f (feedL st (oI s p)).1 (blk s (s.size+1) (rdI s p).a) l (d++[⟨oI s p,(p:Nat),((rdI s p).a:Nat),l,(rdI s p).n,(rdI s p).x⟩]) q.2 m;rw[Cz]at this;have B:wTk s ⟨oI s p,(p:Nat),((rdI s p).a:Nat),l,(rdI s p).n,(rdI s p).x⟩+gA s (rdI s p).a<=gA s p:=by
       unfold wTk;simp only[jz];rw[I]at o⊢;split
       ·rcases r with g|g<;>omega
       split
       ·rename_i C;have:=L C;omega
       ·rcases r with g|g
        ·exact g
        ·exact absurd g.1 o
      omega
     ·exact aF _
    ·exact aF _
theorem aiB(s:ByteArray):I2 s (jt s).1<=uK 0 (dF s):=by
 have e:I2 s []=0:=rfl;have b:Bnd s 0:=(abA (s:=s) (p:=0) (.inl rfl)).1;have c:crA s 0=0:=(abA (s:=s) (p:=0) (.inl rfl)).2;have f:gA s 0=uK 0 (dF s):=by unfold gA;rw[c];rfl
 obtain⟨d,a⟩:=sI s (s.size+1) 0 (aF _) b;have:=zD s (s.size+1) [100,6] (blk s (s.size+1) 0) 1 [] (jm s (s.size+1) 0 (aF _)).2 a;unfold jt;split
 ·exact aF _
 split
 ·show I2 s (gL s).1<=_;unfold gL;omega
 ·exact aF _
def EnW(e:World)(d:Value)(t:Nat)(X:Nd)(c:ByteArray):Prop:=
 (X.k=41/\X.ks.length=2/\∃(b g:Nat) (a f:ByteArray),X.ks[0]?=some (b:Int)/\X.ks[1]?=some (g:Int)/\Hid (WE e d t b a)/\Hid (WE e d t g f)/\c=⟨#[91]⟩++a++⟨#[93,32,61,32]⟩++f)
  \/(X.ks.length=1/\∃(b:Nat) (a:ByteArray),X.ks[0]?=some (b:Int)/\Hid (WE e d t b a)/\(X.k=42/\c=⟨#[46]⟩++X.x++⟨#[32,61,32]⟩++a\/(X.k≠41/\X.k≠42)/\c=a))
theorem ae7{b:World}{o:Addr}{n r:Nat}{ns:List Nd}(H:gw b (Q (some o) n r) ns)(I:D5 b o ns)(cr:ns.length=n)(cq:n<=1048576){d:Int->ByteArray}{tab:Nat}{N:Nd}{vn vk:Value}(u:dm b vk N.ks)(be:N.ks.length<=1048576)
  (G:∀z∈N.ks,∃k:Nat,z=(k:Int)/\k<ns.length/\EnW b (Q (some o) n r) tab (nodeI ns k) (Az ns d (nodeI ns k))):Wr b (Q (some o) n r) tab 163 #[pW b,jo N vn vk] (ahi ns d N):=by
 intro x bl y B;obtain⟨ar,a3,rfl⟩:=u.form;obtain⟨e,t⟩:=aA N.ks.length;rw[t]at u be⊢;have bh:=y.lt;have a:=aw (Bx.new y N vn (Q ar e a3));unfold ahi at B⊢;obtain⟨c,v⟩:∃c,(N.ks.map fun k=>Az ns d (nodeI ns k))=c:=⟨_,rfl⟩;rw[v]at B⊢;have J:c.length=e:=by rw[<-v,cA];exact t
 simp only[ax]at B;have cc:(⟨#[123]⟩:ByteArray).size=1:=rfl;have ce:js.size=2:=rfl;have E:=dC H I;have i:=Jd u G t v J;clear y H I u G t v J;unfold jo;go_in;go_wp2_with fail;refine Bx.stp a (ah _ _) (D4 _) bh (by omega) ?_;intro ap a;have a:=aw a;have a2:=a.cells.2.2.2.2.2.2.2.2;go_wp2_with fail;go_loopw [12] (fun C wr=>∃k:Nat,k<=e/\C= .int .i64 k/\Hid (Pr b (Q (some o) n r) (x++⟨#[123]⟩++ft (c.take k)) tab wr/\Kq b.heap.size bl wr)) (fun C _=>e-(intOf C).toNat)
 case atStart=>exact⟨0,by omega,rfl,by rw[show x++⟨#[123]⟩++ft (c.take 0)=x++⟨#[123]⟩ from ByteArray.append_empty];exact a.pr,a.kq⟩
 case round=>
  clear a2 a;obtain⟨k,cl,rfl,h⟩:=hrel;by_cases bb:k<e
  ·obtain⟨z,w⟩:=co i.2.2.1 bb;obtain⟨g,rfl,K,bj⟩:=i.2.1 z (cG w);obtain⟨cb,rfl,cf⟩:=(i.1.below h.1.bel).get w;have cp:(k:Int)<(e:Int):=by omega
   have cm:(0:Int)<=(k:Int):=by omega
   have m:=pF c k (Az ns d (nodeI ns g)) (by rw[<-i.out.2.2.2.1,bK,w];rfl);have s:=Cq c (k+1);have cu:(g:Int)<(n:Int):=by omega
   have ct:(0:Int)<=(g:Int):=by omega
   obtain⟨a0,am,a5,av,al,a4,l⟩:=zn E.1 E.2 K;generalize nodeI ns g=q at *;generalize Az ns d q=b7 at *;obtain⟨b9,A⟩:=aA (ft (c.take (k+1)));rw[A]at m s;have ag:=aw A;clear A w;rcases qI k with h0|h0
   case' inl=>
    rw[ab h0]at m;have bd:¬(0:Int)<(k:Int):=by omega
    clear h0;have P:=h
   case' inr=>
    rw[aa (by omega)]at m;have bd:(0:Int)<(k:Int):=by omega
    subst m;simp only[ax]at s;go_wp2_with fail;refine(ga b _ _ js tab _ h.1 (by simp only[ax];omega)).mono ?_;rintro a6 c4 ⟨rfl,ad,L⟩;have P:=dC ad (h.2.trans L);clear ad L
   all_goals
    try subst m
    try simp only[ax]at s
    have a9:=l.hL;obtain⟨z0,b3,b4⟩:=P.1.cells;have bf:=P.1.lt;obtain⟨cv,cw,cx,cy,cz,cB,cF,cI,c0,_,_⟩:=l.rd _ P.1.bel;have a:=aw (Bx.new P.1 q (Q a0 am a5) (Q av al a4));rcases bj with⟨f,F,g,c3,d,b5,a7,cg,ao,b6,rfl⟩|⟨F,g,d,a7,ao,⟨f,rfl⟩|⟨f,rfl⟩⟩;all_goals
     try simp only[ax]at s
     obtain⟨c2,rfl⟩:=l.ks.ptr;obtain rfl:=a9.symm.trans F;have p:=aw l;first|have a8:=kqs f;have g:=kqf f|have a8:(q.k==41)=M:=by simpa using f.1
     try have ch:(q.k==42)=M:=by simpa using f.2
     clear f;obtain⟨bn,bo,br,bs,bt,bw,bx,bA,bD⟩:=a.cells
     (try have bE:=a.kid0 p.ks (by with_reducible assumption))
     (try have b0:=a.kid p.ks (j:=1) (by with_reducible assumption) (by decide))
     clear l b4 b3 K
     repeat (go_wp2_with fail;refine Bx.stp a (by first|exact ah _ _|exact bG _ _) (by with_reducible first|exact aw (D4 _)|assumption) bf (by simp only[ax];omega) ?_;intro ap a;have a:=aw a;obtain⟨bn,bo,br,bs,bt,bw,bx,bA,bD⟩:=a.cells;(try have bE:=a.kid0 p.ks (by with_reducible assumption));(try have b0:=a.kid p.ks (j:=1) (by with_reducible assumption) (by decide)))
     go_wp2_with fail;exact⟨⟨k+1,by omega,by go_num,by rw[ag.out];have:=a.pr;simpa only[fh] using this,P.2.trans a.kq⟩,by simp[intOf];omega⟩
  ·obtain rfl:k=e:=by omega
   go_wp2_with fail;refine(ga b _ _ ⟨#[125]⟩ _ _ h.1 (by have:=Cq c k;simp only[ax];omega)).mono ?_;rintro a6 c5 ⟨rfl,af,bk⟩;go_wp2_with fail;go_end0
   refine⟨rfl,?_,h.2.trans bk⟩;rw[dj (by rw[i.out.2.2.2.2];exact ae _)]at af;rw[<-fh,<-fh];exact af
