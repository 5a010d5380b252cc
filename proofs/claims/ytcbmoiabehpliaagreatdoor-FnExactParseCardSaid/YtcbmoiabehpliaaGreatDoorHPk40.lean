import Derived.Test.YtcbmoiabehpliaaGreatDoorHPk25
import Derived.Test.YtcbmoiabehpliaaGreatDoorHPk15
import Derived.Test.YtcbmoiabehpliaaGreatDoorHPk16
import Derived.Test.YtcbmoiabehpliaaGreatDoorHPk38
import Derived.Test.YtcbmoiabehpliaaGreatDoorHPk17
import Derived.Test.YtcbmoiabehpliaaGreatDoorHPk18
import Derived.Test.YtcbmoiabehpliaaGreatDoorHPk19
import Derived.Test.YtcbmoiabehpliaaGreatDoorHPk20
import Derived.Test.YtcbmoiabehpliaaGreatDoorHPk39
import Derived.Test.YtcbmoiabehpliaaGreatDoorHPk21
import Derived.Test.YtcbmoiabehpliaaGreatDoorHPk22
import Derived.Test.YtcbmoiabehpliaaGreatDoorHPk23
import Derived.Test.YtcbmoiabehpliaaGreatDoorHPk01
set_option linter.unusedSimpArgs false
set_option linter.unusedVariables false
set_option maxRecDepth 100000
set_option maxHeartbeats 3200000
namespace Go.Proofs.YtcbmoiabehpliaaGreatDoor
theorem rD.pos{tk:Nat->Tk}{n k j:Nat}{ns:List ByteArray}(h:rD tk n k ns j):k<=j/\j<n:=by
 induction h with
 |stop _ h=>exact⟨Nat.le_refl _,h⟩
 |go _ _ _ _ a=>omega
theorem xW.pos{tk:Nat->Tk}{n k j:Nat}{ns:List ByteArray}{r:Bool}(h:xW tk n k ns r j):k+1<=j/\j<n:=by
 induction h with
 |close _ h=>omega
 |rest _ _ h=>omega
 |last _ _ h=>omega
 |go _ _ _ _ a=>omega
def bC:kW->Nat
 | .more _ _ _=>0
 | .post _ _=>0
 | .moreE=>0
 | .moreB=>0
 | .stats=>0
 | .entries=>0
 |_=>1
def Dw:kW->Nat
 | .more _ _ _=>0
 | .post _ _=>0
 | .moreE=>0
 | .moreB=>0
 | .stats=>0
 | .entries=>0
 | .entry=>1
 | .stat=>1
 | .branch=>1
 |_=>2
def Dx:kW->Nat
 | .more _ _ x=>x.sz
 | .post _ x=>x.sz
 |_=>0
theorem E4(N:Nd)(ks:Fo)(s:Tk)(e:Int):(dE N ks s e).sz<=(one N ks).sz+1:=by
 unfold dE;split
 ·rw[ag];omega
 ·omega
theorem P.pos{tk:Nat->Tk}{n i j:Nat}{t:kW}{R:Fo}(h:P tk n t i R j):i+bC t<=j/\j<n/\R.sz+Dw t+3*i<=Dx t+3*j:=by
 induction h
 case bopen i k j N ks R h1 h2 h3 h4 h5 h6 ih1 ih2=>
  have:=E4 N ks (tk i) (tk k).t;simp only[bC,Dw,Dx,ag,Fo.sz_app,Fo.sz]at *;omega
 case body h1 h2 h3 h4 ih=>
  have:=h3.pos;simp only[bC,Dw,Dx,ag,Fo.sz_app,Fo.sz]at *;omega
 case tlet0 h1 h2 h3 h4 h5=>have:=h4.pos;simp only[bC,Dw,Dx,ag,Fo.sz_app,Fo.sz]at *;omega
 case tlet h1 h2 h3 h4 h5 h6 ih=>have:=h4.pos;simp only[bC,Dw,Dx,ag,Fo.sz_app,Fo.sz]at *;omega
 case tfor h1 h2 h3 h4 h5 h6 h7 ih1 ih2=>have:=h4.pos;simp only[bC,Dw,Dx,ag,Fo.sz_app,Fo.sz]at *;omega
 case teach h1 h2 h3 h4 h5 h6 h7 h8 h9 ih1 ih2=>have:=h4.pos;simp only[bC,Dw,Dx,ag,Fo.sz_app,Fo.sz]at *;omega
 case ttry h1 h2 h3 h4 h5 h6 h7 h8 ih1 ih2=>have:=h7.pos;simp only[bC,Dw,Dx,ag,Fo.sz_app,Fo.sz]at *;omega
 all_goals
  simp only[bC,Dw,Dx,ag,Fo.sz_app,Fo.sz]at *;omega
inductive D (tk:Nat->Tk) (n:Nat):Nat->List Int->Nat->Nat->Prop where
 |nil {i:Nat}:D tk n 0 [] i i
 |tok {m:Nat}{s:Int}{r:List Int}{i j:Nat}:s<100->(tk i).k=s->i<n->D tk n m r (i+1) j->D tk n (m+1) (s::r) i j
 |exp {m:Nat}{s:Int}{r:List Int}{i j:Nat}:100<=s->i<n->(xE s (tk i).k).2=true->D tk n m ((xE s (tk i).k).1++r) i j->D tk n (m+1) (s::r) i j
section
variable {tk : Nat → Tk} {n : Nat}
theorem D.split{m:Nat}{st:List Int}{i j:Nat}(h:D tk n m st i j):∀(a b:List Int),st=a++b->∃d e k,D tk n d a i k/\D tk n e b k j/\d+e=m:=by
 induction h with
 |nil=>
  intro a b c;obtain⟨rfl,rfl⟩:a=[]/\b=[]:=by simpa using c.symm
  exact⟨0,0,_,.nil,.nil,rfl⟩
 |@tok m o q i j g l f u r=>
  intro a b c;cases a with
  |nil=>
   rw[List.nil_append]at c;exact⟨0,m+1,i,.nil,by rw[<-c];exact .tok g l f u,by omega⟩
  |cons p a=>
   obtain⟨rfl,rfl⟩:o=p/\q=a++b:=by simpa using c
   obtain⟨d,e,k,t,s,v⟩:=r a b rfl;exact⟨d+1,e,k,.tok g l f t,s,by omega⟩
 |@exp m o q i j g l f u r=>
  intro a b c;cases a with
  |nil=>
   rw[List.nil_append]at c;exact⟨0,m+1,i,.nil,by rw[<-c];exact .exp g l f u,by omega⟩
  |cons p a=>
   obtain⟨rfl,rfl⟩:o=p/\q=a++b:=by simpa using c
   obtain⟨d,e,k,t,s,v⟩:=r ((xE o (tk i).k).1++a) b (by rw[List.append_assoc]);exact⟨d+1,e,k,.exp g l f t,s,by omega⟩
theorem D.cut{m:Nat}{s:Int}{r:List Int}{i j:Nat}(h:D tk n m (s::r) i j):∃a b k,D tk n a [s] i k/\D tk n b r k j/\a+b=m:=h.split [s] r rfl
theorem D.nils{m:Nat}{i j:Nat}(h:D tk n m [] i j):i=j:=by cases h;rfl
theorem D.toks{m:Nat}{s:Int}{r:List Int}{i j:Nat}(h:D tk n m (s::r) i j)(f:s<100):(tk i).k=s/\i<n/\∃b,D tk n b r (i+1) j/\b<m:=by
 cases h with
 |tok e c a d=>exact⟨c,a,_,d,by omega⟩
 |exp e c a d=>omega
theorem D.exps{m:Nat}{s:Int}{r:List Int}{i j:Nat}(h:D tk n m (s::r) i j)(f:100<=s):i<n/\(xE s (tk i).k).2=true/\∃b,D tk n b ((xE s (tk i).k).1++r) i j/\b<m:=by
 cases h with
 |tok e c a d=>omega
 |exp e c a d=>exact⟨c,a,_,d,by omega⟩
theorem D.row{m:Nat}{s:Int}{i j:Nat}(h:D tk n m [s] i j)(d:100<=s){x:List Int×Bool}(e:xE s (tk i).k=x):i<n/\x.2=true/\∃a,D tk n a x.1 i j/\a<m:=by
 obtain⟨f,c,a,b,g⟩:=h.exps d;rw[e]at c b;rw[List.append_nil]at b;exact⟨f,c,a,b,g⟩
structure Ex (tk:Nat->Tk) (n m:Nat):Prop where
 unit:∀{i j:Nat},D tk n m [120] i j->j<n->∃N ks,P tk n .unit i (one N ks) j
 expr:∀{i j:Nat},D tk n m [119] i j->j<n->∃N ks,P tk n (.expr 0) i (one N ks) j
 exprs:∀{i j:Nat},D tk n m [124] i j->j<n->∃R,P tk n .exprs i R j
 moreE:∀{i j:Nat},D tk n m [125] i j->j<n->∃R,P tk n .moreE i R j
 block:∀{i j:Nat},D tk n m [132] i j->j<n->∃N ks,P tk n .block i (one N ks) j
 stats:∀{i j:Nat},D tk n m [100] i j->j<n->(tk j).k=43\/(tk j).k=6->∃R,P tk n .stats i R j
 body:∀{i j:Nat}(s:Tk),D tk n m [133] i j->j<n->∃N ks,P tk n (.body s) i (one N ks) j
 entries:∀{i j:Nat},D tk n m [129] i j->j<n->(tk j).k=43->∃R,P tk n .entries i R j
 entry:∀{i j:Nat},D tk n m [131] i j->j<n->∃N ks,P tk n .entry i (one N ks) j
 els:∀{i j k k1:Nat}{x b:Fo},(tk i).k=20\/(tk i).k=15->i<n->P tk n (.expr 0) (i+1) x k->P tk n .block k b k1->D tk n m [105] k1 j->j<n->∃N ks,P tk n .branch i (one N ks) j
theorem E5(k:Int):1<=sH k:=by
 unfold sH
 repeat' split
 all_goals omega
theorem D.lt{m:Nat}{s:Int}{r:List Int}{i j:Nat}(h:D tk n m (s::r) i j):i<n:=by cases h<;>assumption
theorem gl{t:Int}(h:aZ t=true):t≠6/\t≠41/\t≠43/\t≠5/\t≠44/\t≠48/\t≠46:=by
 refine⟨?_,?_,?_,?_,?_,?_,?_⟩;all_goals
  rintro rfl;revert h;decide
theorem I4(H:∀i,(tk i).k<100):∀(m:Nat),(∀a,a<m->Ex tk n a)->∀{k j:Nat},D tk n m [121] k j->j<n->∀(p:Int)(s:Tk)(N:Nd)(ks:Fo),∃W G d a,P tk n (.more p s (one N ks)) k (one W G) d/\D tk n a [121] d j/\a<=m/\(cu (tk d).k=true->sH (tk d).k<p):=by
 intro m
 induction m using Nat.strongRecOn with
 |_ m o=>
  intro f k j e l p s N ks;by_cases c:cu (tk k).k=true/\p<=sH (tk k).k
  ·obtain⟨I,_,ak,R,ap⟩:=e.row (by omega) (x:=([(tk k).k,119],true)) (by simp[xE,DY,c.1]);obtain⟨_,_,Y,T,ao⟩:=R.toks (H k);obtain⟨M,C,ar,F,al⟩:=T.row (by omega) (x:=([120,121],aZ (tk (k+1)).k)) (by simp[xE,DX]);obtain⟨u,B,am,X,h,an⟩:=F.cut;obtain⟨E,v,K⟩:=(f u (by omega)).unit X h.lt;obtain⟨w,r,S,Q,q,y,af,_⟩:=o B (by omega) (fun a b=>f a (by omega)) h l (FL (tk k).k) (tk (k+1)) E v;obtain⟨U,L,O,z,J,V,Z,A⟩:=o Q (by omega) (fun a b=>f a (by omega)) y l p s (gV (tk k).k s (tk (S-1)).t) ((one N ks).app (one w r));exact⟨U,L,O,z,.mgo I c.1 c.2 (.ex (gl C).1 M K q) J,V,by omega,A⟩
  ·exact⟨N,ks,k,m,.mstop e.lt (fun b=>by rcases Int.lt_or_le (sH (tk k).k) p with g|g;exact g;exact absurd ⟨b,g⟩ c),e,Nat.le_refl _,fun b=>by rcases Int.lt_or_le (sH (tk k).k) p with g|g;exact g;exact absurd ⟨b,g⟩ c⟩
theorem E6(v:∀i,(tk i).k<100){m:Nat}(e:∀a,a<m->Ex tk n a){i j:Nat}(s:D tk n m [119] i j)(g:j<n):∃N ks,P tk n (.expr 0) i (one N ks) j:=by
 obtain⟨y,q,E,A,G⟩:=s.row (by omega) (x:=([120,121],aZ (tk i).k)) (by simp[xE,DX]);obtain⟨h,z,k,w,d,F⟩:=A.cut;obtain⟨N,ks,t⟩:=(e h (by omega)).unit w d.lt;obtain⟨o,u,b,a,p,B,_,l⟩:=I4 v z (fun a c=>e a (by omega)) d g 0 (tk i) N ks;have r:cu (tk b).k=false:=by
  cases c:cu (tk b).k with
  |false=>rfl
  |true=>have:=l c;have:=E5 (tk b).k;omega
 obtain⟨_,_,C,f,_⟩:=B.row (by omega) (x:=([],true)) (by simp[xE,DY,r]);obtain rfl:=f.nils;exact⟨o,u,.ex (gl q).1 y t p⟩
def Dy(S:Int):Int:=if S<=112 then 1 else if S<=115 then 2 else if S<=118 then 3 else 4
theorem E7{S t:Int}(hS:S=110\/S=111\/S=112\/S=114\/S=115\/S=117\/S=118\/S=122)(h:wj t=true):∃a c,xE S t=(fy t a c,true)/\(a=110\/a=114\/a=117\/a=122)/\(c=111\/c=115\/c=118\/c=122)/\Dy a=Dy S/\Dy c=Dy S:=by
 have b:t=48\/t=44\/t=40:=of_decide_eq_true h;rcases hS with rfl|rfl|rfl|rfl|rfl|rfl|rfl|rfl
 ·exact⟨110,111,by rcases b with rfl|rfl|rfl<;>decide,by omega,by omega,rfl,rfl⟩
 ·exact⟨110,111,by rcases b with rfl|rfl|rfl<;>decide,by omega,by omega,rfl,rfl⟩
 ·exact⟨110,111,by rcases b with rfl|rfl|rfl<;>decide,by omega,by omega,rfl,rfl⟩
 ·exact⟨114,115,by rcases b with rfl|rfl|rfl<;>decide,by omega,by omega,rfl,rfl⟩
 ·exact⟨114,115,by rcases b with rfl|rfl|rfl<;>decide,by omega,by omega,rfl,rfl⟩
 ·exact⟨117,118,by rcases b with rfl|rfl|rfl<;>decide,by omega,by omega,rfl,rfl⟩
 ·exact⟨117,118,by rcases b with rfl|rfl|rfl<;>decide,by omega,by omega,rfl,rfl⟩
 ·exact⟨122,122,by rcases b with rfl|rfl|rfl<;>decide,by omega,by omega,rfl,rfl⟩
theorem I5:∀(m:Nat),(∀a,a<m->Ex tk n a)->∀{S:Int},(S=110\/S=111\/S=112\/S=114\/S=115\/S=117\/S=118\/S=122)->∀{k j:Nat},D tk n m [S] k j->j<n->∀(s:Tk)(N:Nd)(ks:Fo),∃a1 am L a b,P tk n (.post s (one N ks)) k (one a1 am) L/\D tk n a [b] L j/\a<=m/\wj (tk L).k=false/\(b=110\/b=111\/b=112\/b=114\/b=115\/b=117\/b=118\/b=122)/\Dy b=Dy S:=by
 intro m
 induction m using Nat.strongRecOn with
 |_ m F=>
  intro u S hS k j O B s N ks;cases hf:wj (tk k).k with
  |false=>exact⟨N,ks,k,m,S,.pstop O.lt hf,O,Nat.le_refl _,hf,hS,rfl⟩
  |true=>
   obtain⟨w,A,a0,a3,a2,X,U⟩:=E7 hS hf;obtain⟨an,_,a5,r,a7⟩:=O.row (by omega) a0;have Y:(tk k).k=48\/(tk k).k=44\/(tk k).k=40:=of_decide_eq_true hf;rcases Y with e|e|e
   ·rw[show(fy (tk k).k w A,true).1=[48,1,w] by rw[e];rfl]at r;obtain⟨_,_,R,y,W⟩:=r.toks (by omega);obtain⟨av,ao,G,p,V⟩:=y.toks (by omega);obtain⟨h,g,o,J,f,p2,l,a6,d,c,i⟩:=F G (by omega) (fun a I=>u a (by omega)) (by omega) p B s (nd 33 s (tk (k+1)).t 0 0 (tk (k+1)).x []) (one N ks);exact⟨h,g,o,J,f,.pdot e av ao p2,l,by omega,d,c,by rw[i,X]⟩
   ·rw[show(fy (tk k).k w A,true).1=[44,119,45,w] by rw[e];rfl]at r;obtain⟨_,_,R,y,W⟩:=r.toks (by omega);obtain⟨G,J,M,p,H,V⟩:=y.cut;obtain⟨al,Z,Q⟩:=(u G (by omega)).expr p H.lt;obtain⟨E,v,C,z,ar⟩:=H.toks (by omega);obtain⟨h,g,o,q,f,p2,l,T,d,c,i⟩:=F C (by omega) (fun a I=>u a (by omega)) (by omega) z B s (bH 32 s (tk M).t) ((one N ks).app (one al Z));exact⟨h,g,o,q,f,.psq e an Q E v p2,l,by omega,d,c,by rw[i,X]⟩
   ·rw[show(fy (tk k).k w A,true).1=[40,123,41,A] by rw[e];rfl]at r;obtain⟨_,_,R,y,W⟩:=r.toks (by omega);obtain⟨G,J,M,p,H,V⟩:=y.cut;obtain⟨E,v,C,z,ar⟩:=H.toks (by omega);cases hb:aZ (tk (k+1)).k with
    |false=>
     obtain⟨_,_,q,K,_⟩:=p.row (by omega) (x:=([],true)) (by simp[xE,D0,hb]);obtain rfl:=K.nils;obtain⟨h,g,o,q,f,p2,l,T,d,c,i⟩:=F C (by omega) (fun a I=>u a (by omega)) (by omega) z B s (bH 34 s (tk (k+1)).t) (one N ks);exact⟨h,g,o,q,f,.pcall0 e E v p2,l,by omega,d,c,by rw[i,U]⟩
    |true=>
     obtain⟨ap,_,q,K,T⟩:=p.row (by omega) (x:=([124],true)) (by simp[xE,D0,hb]);obtain⟨ak,Q⟩:=(u q (by omega)).exprs K v;obtain⟨h,g,o,af,f,p2,l,a4,d,c,i⟩:=F C (by omega) (fun a I=>u a (by omega)) (by omega) z B s (bH 34 s (tk M).t) ((one N ks).app ak);exact⟨h,g,o,af,f,.pcall e ap (gl hb).2.1 Q E v p2,l,by omega,d,c,by rw[i,U]⟩
theorem yq{t a c:Int}(h:wj t=false):fy t a c=[]:=by
 have h:=of_decide_eq_false h;unfold fy;rw[if_neg (by omega),if_neg (by omega),if_neg (by omega)]
theorem D.join{o c:Nat}{a b:List Int}{i k j:Nat}(h:D tk n o a i k)(g:D tk n c b k j):D tk n (o+c) (a++b) i j:=by
 induction h with
 |nil=>rw[Nat.zero_add];exact g
 |@tok d q r i j f e m p l=>rw[show d+1+c=(d+c)+1 by omega];exact .tok f e m (l g)
 |@exp d q r i j f e m p l=>rw[show d+1+c=(d+c)+1 by omega];exact .exp (r:=r++b) f e m (by rw[<-List.append_assoc];exact l g)
theorem Cv(N:Nd)(ks:Fo)(s:Tk)(e:Int):∃b a,dE N ks s e=one b a:=by unfold dE;split<;>exact⟨_,_,rfl⟩
theorem uE{m:Nat}(v:∀b,b<m->Ex tk n b){S:Int}(hS:S=110\/S=111\/S=112\/S=114\/S=115\/S=117\/S=118\/S=122){i j:Nat}(w:j<n)(hd:D tk n m [1,S] i j\/D tk n m [40,119,41,S] i j):∃T L p b a,P tk n .base i (one T L) p/\D tk n b [a] p j/\b<m/\wj (tk p).k=false/\(a=110\/a=111\/a=112\/a=114\/a=115\/a=117\/a=118\/a=122)/\Dy a=Dy S:=by
 rcases hd with hd|hd
 ·obtain⟨c,u,z,s,O⟩:=hd.toks (by omega);obtain⟨o,g,r,h,f,p2,q,N,e,d,l⟩:=I5 z (fun b A=>v b (by omega)) hS s w (tk i) (nd 26 (tk i) (tk i).t 0 0 (tk i).x []) .nil;exact⟨o,g,r,h,f,.bname c u p2,q,by omega,e,d,l⟩
 ·obtain⟨c,u,z,s,O⟩:=hd.toks (by omega);obtain⟨h,V,G,Q,J,N⟩:=s.cut;obtain⟨B,y,C,U,W⟩:=J.toks (by omega);obtain⟨H,I,R⟩:=(v h (by omega)).expr Q y;obtain⟨E,M,K⟩:=Cv H I (tk i) (tk G).t;obtain⟨o,g,r,F,f,p2,q,X,e,d,l⟩:=I5 C (fun b A=>v b (by omega)) hS U w (tk i) E M;rw[<-K]at p2;exact⟨o,g,r,F,f,.bopen c u R B y p2,q,by omega,e,d,l⟩
theorem D.names:∀(m:Nat){k j:Nat},D tk n m [104] k j->j<n->∃ns,rD tk n k ns j/\(tk j).k≠46:=by
 intro m
 induction m using Nat.strongRecOn with
 |_ m q=>
  intro k j d c;by_cases a:(tk k).k=46
  ·obtain⟨i,_,h,b,o⟩:=d.row (by omega) (x:=([46,1,104],true)) (by simp[xE,DS,a]);obtain⟨_,_,t,r,v⟩:=b.toks (by omega);obtain⟨p,l,s,g,u⟩:=r.toks (by omega);obtain⟨ns,f,e⟩:=q s (by omega) g c;exact⟨_,.go a l p f,e⟩
  ·obtain⟨i,_,h,b,o⟩:=d.row (by omega) (x:=([],true)) (by simp[xE,DS,a]);obtain rfl:=b.nils;exact⟨[],.stop a c,a⟩
theorem params:∀(m:Nat){S:Int},S=126\/S=128->∀{k j:Nat},D tk n m [S,41] k j->j<n->∃ns r,xW tk n k ns r j:=by
 intro m
 induction m using Nat.strongRecOn with
 |_ m C=>
  intro S hS k j F f;obtain⟨L,u,E,e,s,K⟩:=F.cut;obtain⟨h,J,M,A,_⟩:=s.toks (by omega);obtain rfl:=A.nils;by_cases a:(tk k).k=1
  ·obtain⟨q,_,l,b,o⟩:=e.row (by omega) (x:=([1,127],true)) (by rcases hS with rfl|rfl<;>simp[xE,AD,AE,a]);obtain⟨_,_,w,c,B⟩:=b.toks (by omega);by_cases g:(tk (k+1)).k=46
   ·obtain⟨G,_,H,i,z⟩:=c.row (by omega) (x:=([46,128],true)) (by simp[xE,D2,g]);obtain⟨_,_,v,p,I⟩:=i.toks (by omega);obtain⟨ns,r,y⟩:=C (v+u) (by omega) (.inr rfl) (k:=k+2) (j:=E+1) (D.join p s) f;exact⟨_,_,.go a g p.lt y⟩
   ·obtain⟨G,_,H,i,z⟩:=c.row (by omega) (x:=([],true)) (by simp[xE,D2,g]);obtain rfl:=i.nils;exact⟨_,_,.last a h f⟩
  ·by_cases d:(tk k).k=49
   ·obtain⟨q,_,l,b,o⟩:=e.row (by omega) (x:=([49],true)) (by rcases hS with rfl|rfl<;>simp[xE,AD,AE,d]);obtain⟨_,_,w,c,B⟩:=b.toks (by omega);obtain rfl:=c.nils;exact⟨_,_,.rest d h f⟩
   ·rcases hS with rfl|rfl
    ·obtain⟨q,_,l,b,o⟩:=e.row (by omega) (x:=([],true)) (by simp[xE,AD,a,d]);obtain rfl:=b.nils;exact⟨_,_,.close h f⟩
    ·obtain⟨_,t,_⟩:=e.row (by omega) (x:=([],false)) (by simp[xE,AE,a,d]);cases t
theorem Cw{m:Nat}(h:∀e,e<m->Ex tk n e){i j:Nat}(c:D tk n m [125] i j)(d:j<n):∃R,P tk n .moreE i R j:=by
 by_cases a:(tk i).k=46
 ·obtain⟨f,_,l,b,q⟩:=c.row (by omega) (x:=([46,119,125],true)) (by simp[xE,D1,a]);obtain⟨_,_,y,r,A⟩:=b.toks (by omega);obtain⟨t,o,u,k,g,w⟩:=r.cut;obtain⟨v,z,s⟩:=(h t (by omega)).expr k g.lt;obtain⟨R,p⟩:=(h o (by omega)).moreE g d;exact⟨_,.ego a f s p⟩
 ·obtain⟨f,_,l,b,q⟩:=c.row (by omega) (x:=([],true)) (by simp[xE,D1,a]);obtain rfl:=b.nils;exact⟨_,.estop a d⟩
theorem Cx{m:Nat}(c:∀a,a<m->Ex tk n a){i j:Nat}(d:D tk n m [124] i j)(f:j<n):∃R,P tk n .exprs i R j:=by
 obtain⟨v,_,r,k,u⟩:=d.row (by omega) (x:=([119,125],aZ (tk i).k)) (by simp[xE,Gr]);obtain⟨o,g,p,e,b,s⟩:=k.cut;obtain⟨q,t,l⟩:=(c o (by omega)).expr e b.lt;obtain⟨R,h⟩:=(c g (by omega)).moreE b f;exact⟨_,.es l h⟩
theorem uF{m:Nat}(s:∀b,b<m->Ex tk n b){i j:Nat}(e:D tk n m [132] i j)(g:j<n):∃N ks,P tk n .block i (one N ks) j:=by
 obtain⟨o,q,u,k,A⟩:=e.row (by omega) (x:=([42,100,43],decide ((tk i).k=42))) (by simp[xE,AG]);obtain⟨_,_,w,l,z⟩:=k.toks (by omega);obtain⟨p,y,t,f,r,v⟩:=l.cut;obtain⟨a,c,C,d,_⟩:=r.toks (by omega);obtain rfl:=d.nils;obtain⟨B,h⟩:=(s p (by omega)).stats f c (.inl a);exact⟨_,_,.block (of_decide_eq_true q) o h a g⟩
theorem E8{m:Nat}(r:∀a,a<m->Ex tk n a){i j:Nat}(s:Tk)(c:D tk n m [133] i j)(e:j<n):∃N ks,P tk n (.body s) i (one N ks) j:=by
 obtain⟨l,q,v,h,A⟩:=c.row (by omega) (x:=([40,126,41,132],decide ((tk i).k=40))) (by simp[xE,D5]);obtain⟨_,_,y,k,z⟩:=h.toks (by omega);obtain⟨o,g,t,d,b,w⟩:=k.split [126,41] [132] rfl;obtain⟨N,ks,f⟩:=(r g (by omega)).block b e;obtain⟨B,u,p⟩:=params o (.inl rfl) d b.lt;exact⟨_,_,.body (of_decide_eq_true q) l p f⟩
theorem E9(q:∀i,(tk i).k<100){m:Nat}(p:∀f,f<m->Ex tk n f){i j:Nat}(I:D tk n m [120] i j)(b:j<n):∃N ks,P tk n .unit i (one N ks) j:=by
 obtain⟨o,c,E,a,Q⟩:=I.row (by omega) (x:=tq (tk i).k) (by simp[xE,IJ]);unfold tq at c a;split at a
 ·rename_i h;obtain⟨_,_,d,e,l⟩:=a.toks (q i);obtain⟨N,ks,v⟩:=(p d (by omega)).unit e b;exact⟨_,_,.upre h o v⟩
 rename_i A;rw[if_neg A]at c;split at a
 ·rename_i h;obtain⟨N,ks,k,d,S,p2,u,l,s,r,t⟩:=uE (m:=E) (S:=122) (fun f h=>p f (by omega)) (by omega) b (.inl (by rw[h]at a;exact a));obtain rfl:S=122:=by rcases r with rfl|rfl|rfl|rfl|rfl|rfl|rfl|rfl<;>first|rfl|(revert t;decide)
  obtain⟨_,_,z,g,_⟩:=u.row (by omega) (x:=([],true)) (by simp[xE,DZ,yq s]);obtain rfl:=g.nils;exact⟨N,ks,.ubas (.inl h) o p2⟩
 rename_i y;rw[if_neg y]at c;split at a
 ·rename_i h;obtain⟨N,ks,k,d,S,p2,u,l,s,r,t⟩:=uE (m:=E) (S:=122) (fun f h=>p f (by omega)) (by omega) b (.inr (by rw[h]at a;exact a));obtain rfl:S=122:=by rcases r with rfl|rfl|rfl|rfl|rfl|rfl|rfl|rfl<;>first|rfl|(revert t;decide)
  obtain⟨_,_,z,g,_⟩:=u.row (by omega) (x:=([],true)) (by simp[xE,DZ,yq s]);obtain rfl:=g.nils;exact⟨N,ks,.ubas (.inr h) o p2⟩
 rename_i w;rw[if_neg w]at c;split at a
 ·rename_i h;obtain⟨_,_,d,e,l⟩:=a.toks (q i);obtain⟨K,M,k,J,L,O⟩:=e.cut;obtain⟨F,G,z,g,_⟩:=L.toks (by omega);obtain rfl:=g.nils;obtain⟨R,H⟩:=(p K (by omega)).entries J G F;exact⟨_,_,.utab h o H F b⟩
 rename_i B;rw[if_neg B]at c;split at a
 ·rename_i h;obtain⟨_,_,d,e,l⟩:=a.toks (q i);obtain⟨N,ks,v⟩:=(p d (by omega)).body (tk i) e b;exact⟨N,ks,.ufn h o v⟩
 rename_i C;rw[if_neg C]at c;obtain⟨_,_,d,e,l⟩:=a.toks (q i);obtain rfl:=e.nils;simp only[aZ,A,Bool.or_false,decide_eq_true_eq]at c;rcases c with h|h|h|h|h|h|h|h|h|h|h
 ·exact absurd h y
 ·exact⟨_,_,.uint h b⟩
 ·exact⟨_,_,.uflt h b⟩
 ·exact⟨_,_,.ustr h b⟩
 ·exact⟨_,_,.unil h b⟩
 ·exact⟨_,_,.utru h b⟩
 ·exact⟨_,_,.ufls h b⟩
 ·exact⟨_,_,.urst h b⟩
 ·exact absurd h C
 ·exact absurd h w
 ·exact absurd h B
theorem Cy{m:Nat}(f:∀r,r<m->Ex tk n r){i j:Nat}(l:D tk n m [131] i j)(k:j<n):∃N ks,P tk n .entry i (one N ks) j:=by
 by_cases c:(tk i).k=48
 ·obtain⟨g,_,o,a,s⟩:=l.row (by omega) (x:=([48,1,47,119],true)) (by simp[xE,AF,c]);obtain⟨_,_,w,p,H⟩:=a.toks (by omega);obtain⟨B,_,t,h,z⟩:=p.toks (by omega);obtain⟨C,y,q,e,Q⟩:=h.toks (by omega);obtain⟨N,ks,b⟩:=(f q (by omega)).expr e k;exact⟨_,_,.named c B C y b⟩
 by_cases d:(tk i).k=44
 ·obtain⟨g,_,o,a,s⟩:=l.row (by omega) (x:=([44,119,45,47,119],true)) (by simp[xE,AF,d]);obtain⟨_,_,w,p,H⟩:=a.toks (by omega);obtain⟨t,q,O,h,e,z⟩:=p.cut;obtain⟨N,ks,b⟩:=(f t (by omega)).expr h e.lt;obtain⟨I,_,L,u,R⟩:=e.toks (by omega);obtain⟨F,G,J,E,M⟩:=u.toks (by omega);obtain⟨S,K,A⟩:=(f J (by omega)).expr E k;exact⟨_,_,.pair d g b I F G A⟩
 ·obtain⟨g,v,o,a,s⟩:=l.row (by omega) (x:=([119],aZ (tk i).k)) (by simp[xE,AF,c,d]);obtain⟨N,ks,b⟩:=(f o (by omega)).expr a k;exact⟨_,_,.item c d (gl v).1 g b⟩
theorem wV{m:Nat}(q:∀r,r<m->Ex tk n r){i j:Nat}(o:D tk n m [129] i j)(e:j<n)(l:(tk j).k=43):∃R,P tk n .entries i R j:=by
 by_cases hb:aZ (tk i).k=true\/(tk i).k=48\/(tk i).k=44
 ·obtain⟨g,_,u,b,A⟩:=o.row (by omega) (x:=([131,130],true)) (by rcases hb with hb|hb|hb<;>simp[xE,D3,hb]);have p:(tk i).k≠43:=by rcases hb with hb|hb|hb;exact(gl hb).2.2.1;omega;omega
  obtain⟨w,I,k,C,d,G⟩:=b.cut;obtain⟨E,F,s⟩:=(q w (by omega)).entry C d.lt;by_cases c:(tk k).k=46
  ·obtain⟨f,_,y,h,v⟩:=d.row (by omega) (x:=([46,129],true)) (by simp[xE,D4,c]);obtain⟨_,_,B,t,H⟩:=h.toks (by omega);obtain⟨R,z⟩:=(q B (by omega)).entries t e l;exact⟨_,.ncom p g s c f z⟩
  ·obtain⟨f,_,y,h,v⟩:=d.row (by omega) (x:=([],true)) (by simp[xE,D4,c]);obtain rfl:=h.nils;exact⟨_,.nlast p g s c f (.nstop l e)⟩
 ·have b:aZ (tk i).k=false:=by cases a:aZ (tk i).k with|false=>rfl|true=>exact absurd (.inl a) hb
  obtain⟨g,_,u,b,A⟩:=o.row (by omega) (x:=([],true)) (by simp only[xE,D3,b];rw[if_neg (by simp),if_neg (fun a=>hb (.inr (.inl a))),if_neg (fun a=>hb (.inr (.inr a)))];rfl);obtain rfl:=b.nils;exact⟨_,.nstop l e⟩
theorem Hf{m:Nat}(g:∀z,z<m->Ex tk n z){i j k f:Nat}{x b:Fo}(o:(tk i).k=20\/(tk i).k=15)(s:i<n)(q:P tk n (.expr 0) (i+1) x k)(h:P tk n .block k b f)(l:D tk n m [105] f j)(t:j<n):∃N ks,P tk n .branch i (one N ks) j:=by
 by_cases c:(tk f).k=15
 ·obtain⟨a,_,w,d,y⟩:=l.row (by omega) (x:=([15,119,132,105],true)) (by simp[xE,Aw,c]);obtain⟨_,_,u,p,I⟩:=d.toks (by omega);obtain⟨L,M,O,H,A,Q⟩:=p.cut;obtain⟨N,ks,G⟩:=(g L (by omega)).expr H A.lt;obtain⟨F,K,T,B,v,R⟩:=A.cut;obtain⟨E,C,r⟩:=(g F (by omega)).block B v.lt;obtain⟨U,S,J⟩:=(g K (by omega)).els (.inr c) a G r v t;exact⟨_,_,.belif o s q h c a J⟩
 by_cases e:(tk f).k=16
 ·obtain⟨a,_,w,d,y⟩:=l.row (by omega) (x:=([16,132],true)) (by simp[xE,Aw,e]);obtain⟨_,_,u,p,I⟩:=d.toks (by omega);obtain⟨E,C,r⟩:=(g u (by omega)).block p t;exact⟨_,_,.belse o s q h e a r⟩
 ·obtain⟨a,_,w,d,y⟩:=l.row (by omega) (x:=([],true)) (by simp[xE,Aw,c,e]);obtain rfl:=d.nils;exact⟨_,_,.bno o s q h c e a⟩
theorem Fa:∀(m:Nat),(∀a,a<m->Ex tk n a)->∀{i j:Nat},D tk n m [113] i j->j<n->∃N ks R k h a,P tk n .base i (one N ks) k/\P tk n .moreB k R h/\(tk h).k=47/\h<n/\D tk n a [124] (h+1) j/\a<m:=by
 intro m
 induction m using Nat.strongRecOn with
 |_ m I=>
  intro w i j d y;have K:∃b,b<m/\∃S:Int,(S=114\/S=115)/\(D tk n b [1,S] i j\/D tk n b [40,119,41,S] i j):=by
   by_cases t:(tk i).k=1
   ·obtain⟨V,_,b,e,o⟩:=d.row (by omega) (x:=([1,114],true)) (by simp[xE,Az,t]);exact⟨b,o,114,by omega,.inl e⟩
   ·by_cases u:(tk i).k=40
    ·obtain⟨V,_,b,e,o⟩:=d.row (by omega) (x:=([40,119,41,115],true)) (by simp[xE,Az,u]);exact⟨b,o,115,by omega,.inr e⟩
    ·obtain⟨_,c,_⟩:=d.row (by omega) (x:=([],false)) (by simp[xE,Az,t,u]);cases c
  obtain⟨b,o,z,O,e⟩:=K;obtain⟨N,ks,k,X,S,p2,g,al,B,A,s⟩:=uE (m:=b) (S:=z) (fun a c=>w a (by omega)) (by omega) y e;have U:Dy z=2:=by rcases O with rfl|rfl<;>rfl
  rw[U]at s;have v:(tk k).k≠48/\(tk k).k≠44/\(tk k).k≠40:=by have:=of_decide_eq_false B;omega
  have hS:S=114\/S=115:=by rcases A with rfl|rfl|rfl|rfl|rfl|rfl|rfl|rfl<;>first|omega|(revert s;decide)
  rcases hS with rfl|rfl
  ·by_cases f:(tk k).k=46
   ·obtain⟨l,_,E,r,F⟩:=g.row (by omega) (x:=([46,113],true)) (by simp[xE,AB,f]);obtain⟨_,_,q,p,G⟩:=r.toks (by omega);obtain⟨Z,W,Y,ak,H,T,Q,J,C,L,M,af⟩:=I q (by omega) (fun a c=>w a (by omega)) p y;exact⟨N,ks,_,k,H,T,p2,.bgo f l Q J,C,L,M,by omega⟩
   ·by_cases d:(tk k).k=47
    ·obtain⟨l,_,E,r,F⟩:=g.row (by omega) (x:=([47,124],true)) (by simp[xE,AB,d]);obtain⟨_,_,q,p,G⟩:=r.toks (by omega);exact⟨N,ks,.nil,k,k,q,p2,.bstop f l,d,l,p,by omega⟩
    ·obtain⟨_,c,_⟩:=g.row (by omega) (x:=([],false)) (by simp[xE,AB,v,f,d]);cases c
  ·obtain⟨_,c,_⟩:=g.row (by omega) (x:=([],false)) (by simp[xE,Gm,v]);cases c
theorem D.blk{m:Nat}{r:List Int}{i j:Nat}(h:D tk n m (132::r) i j):(tk i).k=42/\i<n:=by
 obtain⟨d,e,k,c,f,g⟩:=h.cut;obtain⟨a,b,_⟩:=c.row (by omega) (x:=([42,100,43],decide ((tk i).k=42))) (by simp[xE,AG]);exact⟨of_decide_eq_true b,a⟩
theorem Hg{m:Nat}(a:∀E,E<m->Ex tk n E){i j:Nat}(t:(tk i).k=19)(am:D tk n m [19,1,106] i j)(H:j<n):∃N ks,P tk n .stat i (one N ks) j:=by
 obtain⟨_,_,bk,Y,bn⟩:=am.toks (by omega);obtain⟨l,a8,a0,M,bl⟩:=Y.toks (by omega);by_cases d:(tk (i+2)).k=47
 ·obtain⟨u,_,ar,q,V⟩:=M.row (by omega) (x:=([47,119,46,119,107,132],true)) (by simp[xE,DT,d]);obtain⟨_,_,w,s,X⟩:=q.toks (by omega);obtain⟨z,ap,k,b,f,a6⟩:=s.cut;obtain⟨ak,T,h⟩:=(a z (by omega)).expr b f.lt;obtain⟨I,O,y,r,S⟩:=f.toks (by omega);obtain⟨p,av,K,g,A,a9⟩:=r.cut;obtain⟨bh,a1,C⟩:=(a p (by omega)).expr g A.lt;obtain⟨a2,af,a7,F,B,bb⟩:=A.cut;obtain⟨G,L⟩:=B.blk;obtain⟨Nb,Z,e⟩:=(a af (by omega)).block B H;by_cases c:(tk K).k=46
  ·obtain⟨v,_,R,o,Q⟩:=F.row (by omega) (x:=([46,119],true)) (by simp[xE,DU,c]);obtain⟨_,_,an,W,a5⟩:=o.toks (by omega);obtain⟨bd,a3,ao⟩:=(a an (by omega)).expr W L;exact⟨_,_,.tfor t (by omega) l (.stop (by omega) u) d (.es h (.ego I O C (.ego c v ao (.estop (by omega) L)))) e⟩
  ·obtain⟨v,_,R,o,Q⟩:=F.row (by omega) (x:=([],true)) (by simp[xE,DU,c]);obtain rfl:=o.nils;exact⟨_,_,.tfor t (by omega) l (.stop (by omega) u) d (.es h (.ego I O C (.estop c v))) e⟩
 ·obtain⟨u,_,ar,q,V⟩:=M.row (by omega) (x:=([104,21,119,132],decide ((tk (i+2)).k=46\/(tk (i+2)).k=21))) (by simp[xE,DT,d]);obtain⟨w,z,k,s,b,X⟩:=q.cut;obtain⟨bo,U,_⟩:=D.names w s b.lt;obtain⟨al,_,ap,f,a4⟩:=b.toks (by omega);obtain⟨y,p,K,r,g,S⟩:=f.cut;obtain⟨G,J⟩:=g.blk;obtain⟨ak,T,h⟩:=(a y (by omega)).expr r J;obtain⟨Nb,Z,e⟩:=(a p (by omega)).block g H;exact⟨_,_,.teach t (by omega) l U al h G J e⟩
theorem yr{m:Nat}(o:∀l,l<m->Ex tk n l){i j:Nat}{a:Int}(H:a=110\/a=112)(t:(tk i).k=1\/(tk i).k=40)(u:i<n)(d:D tk n m [1,a] i j\/D tk n m [40,119,41,a] i j)(b:j<n)(R:(tk j).k=5\/(tk j).k=6\/(tk j).k=43):∃N ks,P tk n .stat i (one N ks) j:=by
 obtain⟨N,ks,k,M,S,p2,c,V,A,z,v⟩:=uE (m:=m) (S:=a) o (by omega) b d;rw[show Dy a=1 by rcases H with rfl|rfl<;>rfl]at v;have s:(tk k).k≠48/\(tk k).k≠44/\(tk k).k≠40:=by have:=of_decide_eq_false A;omega
 have hS:S=110\/S=111\/S=112:=by rcases z with rfl|rfl|rfl|rfl|rfl|rfl|rfl|rfl<;>first|omega|(revert v;decide)
 rcases hS with rfl|rfl|rfl
 ·by_cases h:(tk k).k=46
  ·obtain⟨e,_,w,f,y⟩:=c.row (by omega) (x:=([46,113],true)) (by simp[xE,Ay,h]);obtain⟨_,_,r,p,J⟩:=f.toks (by omega);obtain⟨O,L,Q,U,W,K,I,E,B,F,G,T⟩:=Fa r (fun l g=>o l (by omega)) p b;obtain⟨C,q⟩:=(o K (by omega)).exprs G b;exact⟨_,_,.tset t u p2 (.bgo h e I E) B F q⟩
  ·by_cases d:(tk k).k=47
   ·obtain⟨e,_,w,f,y⟩:=c.row (by omega) (x:=([47,124],true)) (by simp[xE,Ay,d]);obtain⟨_,_,r,p,J⟩:=f.toks (by omega);obtain⟨C,q⟩:=(o r (by omega)).exprs p b;exact⟨_,_,.tset t u p2 (.bstop h e) d e q⟩
   ·obtain⟨_,g,_⟩:=c.row (by omega) (x:=([],false)) (by simp[xE,Ay,s,h,d]);cases g
 ·obtain⟨e,_,w,f,y⟩:=c.row (by omega) (x:=([],true)) (by simp[xE,Gk,s]);obtain rfl:=f.nils;exact⟨_,_,.tdo t u p2 (by omega) (by omega) b⟩
 ·obtain⟨_,g,_⟩:=c.row (by omega) (x:=([],false)) (by simp[xE,Gl,s]);cases g
theorem yu{m:Nat}(f:∀H,H<m->Ex tk n H){i j:Nat}(r:i<n)(G:(cC (tk i).k).2=true)(a:D tk n m (cC (tk i).k).1 i j)(g:j<n)(L:(tk j).k=5\/(tk j).k=6\/(tk j).k=43):(∃N ks,P tk n .stat i (one N ks) j)/\(tk i).k≠5/\(tk i).k≠6/\(tk i).k≠43:=by
 have M:(tk i).k=22\/(tk i).k=13\/(tk i).k=18\/(tk i).k=20\/(tk i).k=31\/(tk i).k=19\/(tk i).k=11\/(tk i).k=23\/(tk i).k=27\/(tk i).k=30\/(tk i).k=28\/(tk i).k=14\/(tk i).k=42\/(tk i).k=1\/(tk i).k=40:=by
  refine Decidable.byContradiction fun R=>?_;simp only[not_or]at R;simp[cC,R]at G
 refine⟨?_,by omega,by omega,by omega⟩;rcases M with e|e|e|e|e|e|e|e|e|e|e|e|e|e|e
 ·rw[show(cC (tk i).k).1=[22,1,104,103] by rw[e];rfl]at a;obtain⟨_,_,o,b,p⟩:=a.toks (by omega);obtain⟨z,bs,c,d,q⟩:=b.toks (by omega);obtain⟨w,E,k,l,t,T⟩:=d.cut;obtain⟨bl,A,_⟩:=D.names w l t.lt;by_cases y:(tk k).k=47
  ·obtain⟨v,_,F,u,V⟩:=t.row (by omega) (x:=([47,124],true)) (by simp[xE,DR,y]);obtain⟨_,_,X,I,a4⟩:=u.toks (by omega);obtain⟨ao,K⟩:=(f X (by omega)).exprs I g;exact⟨_,_,.tlet e (by omega) z A y K⟩
  ·obtain⟨v,_,F,u,V⟩:=t.row (by omega) (x:=([],true)) (by simp[xE,DR,y]);obtain rfl:=u.nils;exact⟨_,_,.tlet0 e (by omega) z A y⟩
 ·rw[show(cC (tk i).k).1=[13,1,47,119] by rw[e];rfl]at a;obtain⟨_,_,o,b,p⟩:=a.toks (by omega);obtain⟨z,_,c,d,q⟩:=b.toks (by omega);obtain⟨a6,J,w,l,T⟩:=d.toks (by omega);obtain⟨N,ks,h⟩:=(f w (by omega)).expr l g;exact⟨_,_,.tcon e z a6 J h⟩
 ·rw[show(cC (tk i).k).1=[18,1,133] by rw[e];rfl]at a;obtain⟨_,_,o,b,p⟩:=a.toks (by omega);obtain⟨z,_,c,d,q⟩:=b.toks (by omega);obtain⟨J,bb,_⟩:=d.row (by omega) (x:=([40,126,41,132],decide ((tk (i+2)).k=40))) (by simp[xE,D5]);obtain⟨N,ks,h⟩:=(f c (by omega)).body (tk (i+2)) d g;exact⟨_,_,.tfn e z (of_decide_eq_true bb) J h⟩
 ·rw[show(cC (tk i).k).1=[20,119,132,105] by rw[e];rfl]at a;obtain⟨_,_,o,b,p⟩:=a.toks (by omega);obtain⟨c,w,k,d,l,q⟩:=b.cut;obtain⟨N,ks,h⟩:=(f c (by omega)).expr d l.lt;obtain⟨E,F,a0,t,u,U⟩:=l.cut;obtain⟨W,Q,s⟩:=(f E (by omega)).block t u.lt;obtain⟨bk,bh,bd⟩:=(f F (by omega)).els (.inl e) r h s u g;exact⟨_,_,.tif e r bd⟩
 ·rw[show(cC (tk i).k).1=[31,119,132] by rw[e];rfl]at a;obtain⟨_,_,o,b,p⟩:=a.toks (by omega);obtain⟨c,w,k,d,l,q⟩:=b.cut;obtain⟨N,ks,h⟩:=(f c (by omega)).expr d l.lt;obtain⟨W,Q,s⟩:=(f w (by omega)).block l g;exact⟨_,_,.twhile e r h s⟩
 ·rw[show(cC (tk i).k).1=[19,1,106] by rw[e];rfl]at a;exact Hg f e a g
 ·rw[show(cC (tk i).k).1=[11] by rw[e];rfl]at a;obtain⟨_,_,o,b,p⟩:=a.toks (by omega);obtain rfl:=b.nils;exact⟨_,_,.tbreak e g⟩
 ·rw[show(cC (tk i).k).1=[23] by rw[e];rfl]at a;obtain⟨_,_,o,b,p⟩:=a.toks (by omega);obtain rfl:=b.nils;exact⟨_,_,.tnext e g⟩
 ·rw[show(cC (tk i).k).1=[27,108] by rw[e];rfl]at a;obtain⟨_,_,o,b,p⟩:=a.toks (by omega);cases s:aZ (tk (i+1)).k with
  |true=>
   obtain⟨v,_,c,d,q⟩:=b.row (by omega) (x:=([124],true)) (by simp[xE,DV,s]);obtain⟨ao,K⟩:=(f c (by omega)).exprs d g;exact⟨_,_,.tret e v s K⟩
  |false=>
   obtain⟨v,_,c,d,q⟩:=b.row (by omega) (x:=([],true)) (by simp[xE,DV,s]);obtain rfl:=d.nils;exact⟨_,_,.tret0 e v L⟩
 ·rw[show(cC (tk i).k).1=[30,132,12,1,109,132] by rw[e];rfl]at a;obtain⟨_,_,o,b,p⟩:=a.toks (by omega);obtain⟨c,w,k,d,l,q⟩:=b.cut;obtain⟨N,ks,h⟩:=(f c (by omega)).block d l.lt;obtain⟨ak,_,E,t,U⟩:=l.toks (by omega);obtain⟨am,Y,F,u,V⟩:=t.toks (by omega);obtain⟨X,a3,a0,I,Z,a4⟩:=u.cut;obtain⟨a8,af⟩:=Z.blk;obtain⟨W,Q,s⟩:=(f a3 (by omega)).block Z g;by_cases C:(tk (k+2)).k=46
  ·obtain⟨v,_,ar,O,av⟩:=I.row (by omega) (x:=([46,1],true)) (by simp[xE,DW,C]);obtain⟨_,_,bn,a5,bo⟩:=O.toks (by omega);obtain⟨a9,a1,br,a7,bt⟩:=a5.toks (by omega);obtain rfl:=a7.nils;exact⟨_,_,.ttry e r h ak Y am (.go C a1 a9 (.stop (fun B=>by have e:(tk (k+2+2)).k=42:=a8;omega) af)) s⟩
  ·obtain⟨v,_,ar,O,av⟩:=I.row (by omega) (x:=([],true)) (by simp[xE,DW,C]);obtain rfl:=O.nils;exact⟨_,_,.ttry e r h ak Y am (.stop C af) s⟩
 ·rw[show(cC (tk i).k).1=[28,119] by rw[e];rfl]at a;obtain⟨_,_,o,b,p⟩:=a.toks (by omega);obtain⟨N,ks,h⟩:=(f o (by omega)).expr b g;exact⟨_,_,.tthrow e r h⟩
 ·rw[show(cC (tk i).k).1=[14,116] by rw[e];rfl]at a;obtain⟨_,_,o,b,p⟩:=a.toks (by omega);have M:∃c,c<m/\(D tk n c [1,117] (i+1) j\/D tk n c [40,119,41,117] (i+1) j):=by
   by_cases y:(tk (i+1)).k=1
   ·obtain⟨_,_,c,d,q⟩:=b.row (by omega) (x:=([1,117],true)) (by simp[xE,AC,y]);exact⟨c,by omega,.inl d⟩
   ·by_cases G:(tk (i+1)).k=40
    ·obtain⟨_,_,c,d,q⟩:=b.row (by omega) (x:=([40,119,41,117],true)) (by simp[xE,AC,G]);exact⟨c,by omega,.inr d⟩
    ·obtain⟨_,B,_⟩:=b.row (by omega) (x:=([],false)) (by simp[xE,AC,y,G]);cases B
  obtain⟨c,q,d⟩:=M;obtain⟨N,ks,k,w,S,p2,al,T,a2,an,ap⟩:=uE (m:=c) (S:=117) (fun H B=>f H (by omega)) (by omega) g d;have A:(tk k).k≠48/\(tk k).k≠44/\(tk k).k≠40:=by have:=of_decide_eq_false a2;omega
  have hS:S=117\/S=118:=by rcases an with rfl|rfl|rfl|rfl|rfl|rfl|rfl|rfl<;>first|omega|(revert ap;decide)
  rcases hS with rfl|rfl
  ·obtain⟨_,B,_⟩:=al.row (by omega) (x:=([],false)) (by simp[xE,Gn,A]);cases B
  ·obtain⟨v,_,E,t,U⟩:=al.row (by omega) (x:=([],true)) (by simp[xE,Gq,A]);obtain rfl:=t.nils;exact⟨_,_,.tdefer e r p2⟩
 ·rw[show(cC (tk i).k).1=[132] by rw[e];rfl]at a;obtain⟨_,_,o,b,p⟩:=a.row (by omega) (x:=([42,100,43],decide ((tk i).k=42))) (by simp[xE,AG]);obtain⟨N,ks,h⟩:=uF f a g;exact⟨N,ks,.tblock e r h⟩
 ·rw[show(cC (tk i).k).1=[1,110] by rw[e];rfl]at a;exact yr f (.inl rfl) (.inl e) r (.inl a) g L
 ·rw[show(cC (tk i).k).1=[40,119,41,112] by rw[e];rfl]at a;exact yr f (.inr rfl) (.inr e) r (.inr a) g L
theorem Cz{m:Nat}(d:∀b,b<m->Ex tk n b){i j:Nat}(p:D tk n m [100] i j)(f:j<n)(o:(tk j).k=43\/(tk j).k=6):∃R,P tk n .stats i R j:=by
 by_cases h:(tk i).k=5
 ·obtain⟨a,_,y,c,A⟩:=p.row (by omega) (x:=([5,100],true)) (by simp[xE,yV,h]);obtain⟨_,_,z,l,I⟩:=c.toks (by omega);obtain⟨R,r⟩:=(d z (by omega)).stats l f o;exact⟨R,.ssep h a r⟩
 cases hb:(cC (tk i).k).2 with
 |false=>
  obtain⟨a,_,y,c,A⟩:=p.row (by omega) (x:=([],true)) (by simp[xE,yV,h,hb]);obtain rfl:=c.nils;exact⟨_,.sstop o f⟩
 |true=>
  obtain⟨a,_,y,c,A⟩:=p.row (by omega) (x:=((cC (tk i).k).1++[101],true)) (by simp[xE,yV,h,hb]);obtain⟨z,L,k,l,w,I⟩:=c.split _ _ rfl;by_cases e:(tk k).k=5
  ·obtain⟨g,_,G,v,F⟩:=w.row (by omega) (x:=([5,100],true)) (by simp[xE,DP,e]);obtain⟨_,_,J,B,K⟩:=v.toks (by omega);obtain⟨R,r⟩:=(d J (by omega)).stats B f o;obtain⟨⟨C,H,u⟩,s,t,q⟩:=yu (fun b E=>d b (by omega)) a hb l g (.inl e);exact⟨_,.sgo s t q a u (.ssep e g r)⟩
  ·obtain⟨g,_,G,v,F⟩:=w.row (by omega) (x:=([],true)) (by simp[xE,DP,e]);obtain rfl:=v.nils;obtain⟨⟨C,H,u⟩,s,t,q⟩:=yu (fun b E=>d b (by omega)) a hb l g (by omega);exact⟨_,.sgo s t q a u (.sstop o f)⟩
theorem Fb(b:∀i,(tk i).k<100)(m:Nat):Ex tk n m:=by
 induction m using Nat.strongRecOn with
 |_ m a=>exact⟨E9 b a,E6 b a,Cx a,Cw a,uF a,Cz a,fun c=>E8 a c,wV a,Cy a,Hf a⟩
end
end Go.Proofs.YtcbmoiabehpliaaGreatDoor
namespace Go.Proofs.YtcbmoiabehpliaaGreatDoor
open Go.RowKit Go.Maps Go.WideMaps
def stB(ns:List Nd)(N:Nd):Bool:=
 if N.k=1 then(Dt ns N N.ks.length 0&&aq N false false false false)
 else if N.k=2 then(aq N false false false true&&bF N 1 200&&di ns N N.ks.length 0)
 else if N.k=3 then(aq N false false false true&&bF N 1 1&&((N.ks.length:Int)==1)&&di ns N 1 0)
 else if N.k=4 then(aq N false false false true&&bF N 1 1&&((N.ks.length:Int)==1)&&(ba ns N 0==36))
 else if N.k=5 then(aq N false true false false&&(decide (1<=N.n/\N.n<(N.ks.length:Int))&&(Cs ns N N.n.toNat 0&&di ns N (N.ks.length-N.n.toNat) N.n.toNat)))
 else if N.k=6 then(aq N false false false false&&((N.ks.length:Int)==1)&&(ba ns N 0==34))
 else if N.k=7 then(aq N false false false false&&(decide (2<=N.ks.length/\N.ks.length<=3)&&(di ns N 1 0&&(!(ba ns N 1 !=1)&&((N.ks.length:Int)==2||(ba ns N 2==1||ba ns N 2==7))))))
 else if N.k=8 then(aq N false false false false&&((N.ks.length:Int)==2)&&di ns N 1 0&&(ba ns N 1==1))
 else if N.k=9 then(aq N false false false true&&(bF N 1 1&&(((N.ks.length:Int)==3||(N.ks.length:Int)==4)&&(di ns N (N.ks.length-1) 0&&(ba ns N (N.ks.length-1)==1)))))
 else if N.k=10 then(aq N false false false true&&bF N 1 200&&((N.ks.length:Int)==2)&&di ns N 1 0&&(ba ns N 1==1))
 else if N.k=11 then(aq N false false false false&&((N.ks.length:Int)==0))
 else if N.k=12 then(aq N false false false false&&((N.ks.length:Int)==0))
 else if N.k=13 then(aq N false false false false&&di ns N N.ks.length 0)
 else if N.k=14 then(aq N false false false true&&bF N 1 2&&((N.ks.length:Int)==2)&&(ba ns N 0==1)&&(ba ns N 1==1))
 else if N.k=15 then(aq N false false false false&&((N.ks.length:Int)==1)&&di ns N 1 0)
 else if N.k=16 then(aq N false false false false&&((N.ks.length:Int)==1)&&(ba ns N 0==34))
 else false
def mm(ns:List Nd)(N:Nd):Bool:=
 if N.k=20 then(((N.ks.length:Int)==0)&&aq N false false false false)
 else if N.k=21 then(((N.ks.length:Int)==0)&&aq N false false false false)
 else if N.k=22 then(((N.ks.length:Int)==0)&&aq N false false false false)
 else if N.k=27 then(((N.ks.length:Int)==0)&&aq N false false false false)
 else if N.k=23 then(((N.ks.length:Int)==0)&&aq N false true false false)
 else if N.k=24 then(((N.ks.length:Int)==0)&&aq N false false true false&&GA N.x)
 else if N.k=25 then(((N.ks.length:Int)==0)&&aq N false false true false&&decide ((N.x.size:Int)<=4000))
 else if N.k=26 then(((N.ks.length:Int)==0)&&aq N false false true false&&fs N.x)
 else if N.k=28 then(((N.ks.length:Int)==2)&&di ns N 2 0&&aq N false false false false)
 else if N.k=29 then(((N.ks.length:Int)==2)&&di ns N 2 0&&aq N false false false false)
 else if N.k=32 then(((N.ks.length:Int)==2)&&di ns N 2 0&&(ba ns N 0 !=27)&&aq N false false false false)
 else if N.k=30 then(((N.ks.length:Int)==1)&&di ns N 1 0&&aq N true false false false&&decide ((19:Int)<=N.op)&&decide (N.op<=22))
 else if N.k=31 then(((N.ks.length:Int)==2)&&di ns N 2 0&&aq N true false false false&&decide ((1:Int)<=N.op)&&decide (N.op<=18))
 else if N.k=33 then(((N.ks.length:Int)==1)&&di ns N 1 0&&(ba ns N 0 !=27)&&aq N false false true false&&fs N.x)
 else if N.k=34 then(decide ((1:Int)<=(N.ks.length:Int))&&di ns N N.ks.length 0&&(ba ns N 0 !=27)&&aq N false false false false)
 else if N.k=35 then(Du ns N N.ks.length 0&&aq N false false false false)
 else if N.k=36 then(((N.ks.length:Int)==1)&&(ba ns N 0==1)&&aq N true false false true&&bF N 0 200&&(N.op==0||N.op==1))
 else if N.k=37 then(((N.ks.length:Int)==1)&&(ba ns N 0==34||ba ns N 0==27)&&aq N false false false false)
 else if N.k=40 then(((N.ks.length:Int)==1)&&di ns N 1 0&&aq N false false false false)
 else if N.k=41 then(((N.ks.length:Int)==2)&&di ns N 2 0&&aq N false false false false)
 else if N.k=42 then(((N.ks.length:Int)==1)&&di ns N 1 0&&aq N false false true false&&fs N.x)
 else false
theorem mM{w:World}{v:Value}{ns:List Nd}{N:Nd}{vn vk:Value}(a:bP w v ns N vn vk)(h:fC N.k=true):
  Calls Tryz.prog 52 #[.agg #[v],bu N vn vk] w fun e x=>e= .returned (.bool (stB ns N))/\Below w.heap.size w x:=by
 unfold stB;by_cases s:N.k=1
 ·rw[if_pos s];exact Ej a s
 rw[if_neg s];by_cases f:N.k=2
 ·rw[if_pos f];exact En a f
 rw[if_neg f];by_cases q:N.k=3
 ·rw[if_pos q];exact El a q
 rw[if_neg q];by_cases m:N.k=4
 ·rw[if_pos m];exact Eo a m
 rw[if_neg m];by_cases i:N.k=5
 ·rw[if_pos i];exact E3 a i
 rw[if_neg i];by_cases d:N.k=6
 ·rw[if_pos d];exact Ep a d
 rw[if_neg d];by_cases l:N.k=7
 ·rw[if_pos l];exact Er a l
 rw[if_neg l];by_cases c:N.k=8
 ·rw[if_pos c];exact Em a c
 rw[if_neg c];by_cases r:N.k=9
 ·rw[if_pos r];exact Eu a r
 rw[if_neg r];by_cases o:N.k=10
 ·rw[if_pos o];exact Ct a o
 rw[if_neg o];by_cases t:N.k=11
 ·rw[if_pos t];exact By a t
 rw[if_neg t];by_cases p:N.k=12
 ·rw[if_pos p];exact Bz a p
 rw[if_neg p];by_cases u:N.k=13
 ·rw[if_pos u];exact Cu a u
 rw[if_neg u];by_cases g:N.k=14
 ·rw[if_pos g];exact BB a g
 rw[if_neg g];by_cases b:N.k=15
 ·rw[if_pos b];exact BC a b
 rw[if_neg b];by_cases j:N.k=16
 ·rw[if_pos j];exact BA a j
 rw[if_neg j];exact absurd (of_decide_eq_true h) (by omega)
theorem lM{w:World}{A:Value}{ns:List Nd}{N:Nd}{vn vk:Value}(a:bP w A ns N vn vk):
  Calls Tryz.prog 53 #[.agg #[A],bu N vn vk] w fun e C=>e= .returned (.bool (mm ns N))/\Below w.heap.size w C:=by
 unfold mm;by_cases v:N.k=20
 ·rw[if_pos v];exact Bc a v
 rw[if_neg v];by_cases o:N.k=21
 ·rw[if_pos o];exact Bd a o
 rw[if_neg o];by_cases j:N.k=22
 ·rw[if_pos j];exact Be a j
 rw[if_neg j];by_cases c:N.k=27
 ·rw[if_pos c];exact Bf a c
 rw[if_neg c];by_cases l:N.k=23
 ·rw[if_pos l];exact Bg a l
 rw[if_neg l];by_cases h:N.k=24
 ·rw[if_pos h];exact Bh a h
 rw[if_neg h];by_cases z:N.k=25
 ·rw[if_pos z];exact Bi a z
 rw[if_neg z];by_cases t:N.k=26
 ·rw[if_pos t];exact Bj a t
 rw[if_neg t];by_cases s:N.k=28
 ·rw[if_pos s];exact Bl a s
 rw[if_neg s];by_cases p:N.k=29
 ·rw[if_pos p];exact Bm a p
 rw[if_neg p];by_cases x:N.k=32
 ·rw[if_pos x];exact Bn a x
 rw[if_neg x];by_cases i:N.k=30
 ·rw[if_pos i];exact Bo a i
 rw[if_neg i];by_cases b:N.k=31
 ·rw[if_pos b];exact Bp a b
 rw[if_neg b];by_cases m:N.k=33
 ·rw[if_pos m];exact Cq a m
 rw[if_neg m];by_cases d:N.k=34
 ·rw[if_pos d];exact Cr a d
 rw[if_neg d];by_cases q:N.k=35
 ·rw[if_pos q];exact Bq a q
 rw[if_neg q];by_cases y:N.k=36
 ·rw[if_pos y];exact Bw a y
 rw[if_neg y];by_cases r:N.k=37
 ·rw[if_pos r];exact Bx a r
 rw[if_neg r];by_cases u:N.k=40
 ·rw[if_pos u];exact Br a u
 rw[if_neg u];by_cases g:N.k=41
 ·rw[if_pos g];exact Bt a g
 rw[if_neg g];by_cases f:N.k=42
 ·rw[if_pos f];exact Bv a f
 rw[if_neg f];refine Ek a fun E B=>?_;simp only[xU,List.mem_cons,List.not_mem_nil,or_false]at B;omega
def uG(l:List Int)(i:Int):Nat->Nat->Bool
 |0,_=>true
 |f+1,j=>decide (0<=l.getD j 0/\l.getD j 0<i)&&uG l i f (j+1)
structure Hh (l:List Int) (i:Int) (f j:Nat) (R:Bool):Prop where
 out:uG l i f j=R
theorem rX(l:List Int)(i:Int):∀(f j:Nat),uG l i f j=true->∀k,j<=k->k<j+f->0<=l.getD k 0/\l.getD k 0<i
 |0,j,_,k,a,b=>by omega
 |f+1,j,h,k,a,b=>by
  rw[uG,Bool.and_eq_true]at h;rcases Nat.eq_or_lt_of_le a with rfl|h3
  ·exact of_decide_eq_true h.1
  ·exact rX l i f (j+1) h.2 k h3 (by omega)
theorem Hi{ns:List Nd}{N:Nd}{i:Nat}(h:uG N.ks i N.ks.length 0=true)(e:i<=ns.length):lu ns N:=by
 refine⟨fun d c=>?_⟩;obtain⟨a,b,rfl⟩:=List.getElem_of_mem c;have:=rX N.ks i N.ks.length 0 h a (by omega) (by omega);rw[List.getD_eq_getElem?_getD,List.getElem?_eq_getElem b]at this;simp only[Option.getD_some]at this;omega
def rY(N:Nd):Bool:=decide (0<=N.f/\N.f<=N.t/\0<=N.l/\N.ks.length<=200)
def uH(ns:List Nd)(N:Nd):Bool:=if fC N.k=true then stB ns N else mm ns N
def eZ(ns:List Nd)(i:Nat)(N:Nd):Bool:=rY N&&(uG N.ks i N.ks.length 0&&uH ns N)
structure dP (N:Nd):Prop where
 l1:N.nm.length<=1048576
 l2:N.ks.length<=1048576
 lx:N.x.size<=1048576
 ls:∀s∈N.nm,s.size<=1048576
theorem rZ(w:World)(R:Value)(ns:List Nd)(i:Nat)(N:Nd)(s:bf w R ns)(V:ns.length<=1048576)(v:ns[i]?=some N)(hS:dP N):
  Calls Tryz.prog 25 #[.agg #[R],.int .i64 i] w fun e Z=>e= .returned (.bool (eZ ns i N))/\Below w.heap.size w Z:=by
 obtain⟨bt,o,rfl⟩:=s.form;obtain⟨m,rfl,b2,b3,am⟩:=s.get v;have X:i<ns.length:=by rcases Nat.lt_or_ge i ns.length with h|h;exact h;rw[List.getElem?_eq_none h]at v;cases v
 have bA:(i:Int)<(ns.length:Int):=by omega
 have bn:(0:Int)<=(i:Int):=by omega
 obtain⟨K,al,ar,ak,av,a0,Y,a4,W,B,F⟩:=am;obtain⟨q,j,rfl⟩:=B.form;obtain⟨g,r,rfl⟩:=F.form;have b:Below w.heap.size w ((w.alloc (.cells #[.slice (some m) ns.length o] 24)).alloc (.cells #[.int .i64 N.k,.int .i64 N.f,.int .i64 N.t,.int .i64 N.l,.int .i64 N.op,.int .i64 N.n,.string N.x,.slice q N.nm.length j,.slice g N.ks.length r] 69)):=((Below.refl _ w).alloc (Nat.le_refl _) _).alloc (by simp) _;have bb:=mP K;have u:=ab hS;have A:=cS s B F;have a8:=hS.l2;have a5:((w.alloc (.cells #[.slice (some m) ns.length o] 24)).alloc (.cells #[.int .i64 N.k,.int .i64 N.f,.int .i64 N.t,.int .i64 N.l,.int .i64 N.op,.int .i64 N.n,.string N.x,.slice q N.nm.length j,.slice g N.ks.length r] 69)).cell? ⟨w.heap.size,0,none⟩=some (.slice (some m) ns.length o):=by
  rw[cell_of_row _ _ _ _ _ _ ((Below.heap_alloc _ _ _ (by simp)).trans (heap_alloc_new w _))];rfl
 have S:jj (w.heap.size+1) ((w.alloc (.cells #[.slice (some m) ns.length o] 24)).alloc (.cells #[.int .i64 N.k,.int .i64 N.f,.int .i64 N.t,.int .i64 N.l,.int .i64 N.op,.int .i64 N.n,.string N.x,.slice q N.nm.length j,.slice g N.ks.length r] 69)) 69 N (.slice q N.nm.length j) (.slice g N.ks.length r):=by
  have:=heap_alloc_new (w.alloc (.cells #[.slice (some m) ns.length o] 24)) (.cells #[.int .i64 N.k,.int .i64 N.f,.int .i64 N.t,.int .i64 N.l,.int .i64 N.op,.int .i64 N.n,.string N.x,.slice q N.nm.length j,.slice g N.ks.length r] 69);rw[World.size_alloc]at this;exact this
 clear s B F hS v;unfold eZ;by_cases bo:N.f<0
 ·rw[show rY N=false from decide_eq_false (by omega)];go_in;go_wp2;all_goals (go_ret;exact⟨rfl,b⟩)
 by_cases bx:N.t<N.f
 ·rw[show rY N=false from decide_eq_false (by omega)];go_in;go_wp2;all_goals (go_ret;exact⟨rfl,b⟩)
 by_cases br:N.l<0
 ·rw[show rY N=false from decide_eq_false (by omega)];go_in;go_wp2;all_goals (go_ret;exact⟨rfl,b⟩)
 by_cases bw:(200:Int)<(N.ks.length:Int)
 ·rw[show rY N=false from decide_eq_false (by omega)];go_in;go_wp2;all_goals (go_ret;exact⟨rfl,b⟩)
 rw[show rY N=true from decide_eq_true (by omega)];obtain⟨L,hS⟩:=ah (uH ns N);rw[hS];have O:=ab hS;clear hS;obtain⟨E,I⟩:=ah (uG N.ks i N.ks.length 0);rw[I];have Q:Hh N.ks i N.ks.length 0 E:=⟨I⟩;clear I;go_in;go_wp2_with fail;generalize (w.alloc (.cells #[.slice (some m) ns.length o] 24)).alloc (.cells #[.int .i64 N.k,.int .i64 N.f,.int .i64 N.t,.int .i64 N.l,.int .i64 N.op,.int .i64 N.n,.string N.x,.slice q N.nm.length j,.slice g N.ks.length r] 69)=an at b a5 S⊢;clear K al ar ak av a0 Y a4 W;go_loop [7,37] (fun _ C=>∃a:Nat,C= .int .i64 a/\a<=N.ks.length/\Hh N.ks i (N.ks.length-a) a E) (fun _ C=>N.ks.length-(intOf C).toNat)
 case atStart=>exact⟨0,rfl,by omega,Q⟩
 case round=>
  obtain⟨a,rfl,bh,U⟩:=hrel;have c:=U.out;by_cases ap:a<N.ks.length
  ·have H:N.ks[a]?=some N.ks[a]:=List.getElem?_eq_getElem ap;obtain⟨bs,rfl,T⟩:=(A.out.2.2.below b).get H;rw[show N.ks.length-a=(N.ks.length-(a+1))+1 by omega,uG,List.getD_eq_getElem?_getD,H,Option.getD_some]at c;have ao:(a:Int)<(N.ks.length:Int):=by omega
   have bd:(0:Int)<=(a:Int):=by omega
   generalize N.ks[a]=M at c T;clear H;by_cases z0:M<0
   ·rw[decide_eq_false (by omega),Bool.false_and]at c;have d:=ab c;clear c;go_wp2_with fail;go_ret;exact⟨by rw[<-d.out];rfl,b⟩
   by_cases b0:(i:Int)<=M
   ·rw[decide_eq_false (by omega),Bool.false_and]at c;have d:=ab c;clear c;go_wp2_with fail;go_ret;exact⟨by rw[<-d.out];rfl,b⟩
   rw[decide_eq_true (by omega),Bool.true_and]at c;have d:Hh N.ks i (N.ks.length-(a+1)) (a+1) E:=⟨c⟩;clear c;go_wp2_with fail;go_round
   case rel=>exact⟨a+1,by go_num,by omega,d⟩
   case measure=>simp[intOf];omega
  ·rw[show N.ks.length-a=0 by omega,uG]at c;have d:=ab c;have ao:¬(a:Int)<(N.ks.length:Int):=by omega
   have G:lu ns N:=Hi (by rw[Q.out,<-d.out]) (Nat.le_of_lt X);have z:bP an (.slice (some m) ns.length o) ns N (.slice q N.nm.length j) (.slice g N.ks.length r):=⟨A.out.1.below b,A.out.2.1.below b,A.out.2.2.below b,G,V,u.out.l1,u.out.l2,u.out.lx,u.out.ls⟩;obtain⟨b1,bl,bD,bN,bk,b4,a7,bE,a9,a6⟩:=ad S;have y:=fun w=>od N.k w;clear c;cases hx:fC N.k with
   |true=>
    have p:=mM z hx;rw[hx]at y;rw[show stB ns N=L by rw[<-O.out];unfold uH;rw[if_pos hx]]at p;unfold bu at p;clear hx z G;go_wp2_with (first|(go_at_call 51;refine bc (y _) ?_)|(go_at_call 52;refine p.mono ?_;rintro e af ⟨rfl,J⟩));go_ret;exact⟨by rw[<-d.out];rfl,b.trans (J.mono b.size)⟩
   |false=>
    have p:=lM z;rw[hx]at y;rw[show mm ns N=L by rw[<-O.out];unfold uH;rw[if_neg (by rw[hx];simp)]]at p;unfold bu at p;clear hx z G;go_wp2_with (first|(go_at_call 51;refine bc (y _) ?_)|(go_at_call 53;refine p.mono ?_;rintro e af ⟨rfl,J⟩));go_ret;exact⟨by rw[<-d.out];rfl,b.trans (J.mono b.size)⟩
end Go.Proofs.YtcbmoiabehpliaaGreatDoor
