import Derived.Test.YtkdijoogonigpaaGreatDoorHUk21
import Derived.Test.YtkdijoogonigpaaGreatDoorHUk18
set_option linter.all false
set_option maxRecDepth 100000
set_option maxHeartbeats 6400000
open Bool renaming false->M,true->Br
open Go renaming Value->O,World->X,Calls->Z
open Go.Value renaming int->Q,bool->A0,agg->B0
open Go.Proofs.Tryz renaming prog->T
open List renaming replicate->U
open Go.Ending renaming returned->V
open Go.RowKit renaming Below->W,Hid->A2,intOf->B1
open Option renaming some->Y,none->Ax
namespace Go.Proofs.YtkdijoogonigpaaGreatDoor
open Go.RowKit Go.Maps Go.WideMaps
theorem Jo{w:X}{g:O}{ns:List Nd}{N:Nd}{vn vk:O}(c:ez w g ns N vn vk)(d:N.k=20):
  Z T 136 #[B0 #[g],cE N vn vk] w fun e h=>e= V (A0 (((N.ks.length:Int)==0)&&aA N M M M M))/\W w.heap.size w h:=by
 obtain⟨j,o,rfl⟩:=c.t.form;obtain⟨l,p,rfl⟩:=c.n.form;obtain⟨m,q,rfl⟩:=c.k.form;have b:=St.start c;have r:=c.lx;have i:A2 (N.x.size<=1100000):=by show _<=_;omega
 clear c;have s:=gE d 20 rfl;clear d;cases t0:((N.ks.length:Int)==0)
 case' true=>
  cases t1:aA N M M M M
 all_goals
  unfold cE;go_in;go_wp2_with (first|(go_at_call 156;refine(bJ _ N _ _ b.a.n b.a.k b.a.l1).mono ?_;rintro e h ⟨rfl,f⟩;replace b:=b.below f;clear f;obtain⟨u,v,y,z,A,B,C,E,F,G⟩:=aj b.bn;have H:=b.bt));go_ret;exact⟨rfl,b.bel⟩
theorem Jp{w:X}{g:O}{ns:List Nd}{N:Nd}{vn vk:O}(c:ez w g ns N vn vk)(d:N.k=21):
  Z T 136 #[B0 #[g],cE N vn vk] w fun e h=>e= V (A0 (((N.ks.length:Int)==0)&&aA N M M M M))/\W w.heap.size w h:=by
 obtain⟨j,o,rfl⟩:=c.t.form;obtain⟨l,p,rfl⟩:=c.n.form;obtain⟨m,q,rfl⟩:=c.k.form;have b:=St.start c;have r:=c.lx;have i:A2 (N.x.size<=1100000):=by show _<=_;omega
 clear c;have s:=bu d;have u:=gE d 21 rfl;clear d;cases t0:((N.ks.length:Int)==0)
 case' true=>
  cases t1:aA N M M M M
 all_goals
  unfold cE;go_in;go_wp2_with (first|(go_at_call 156;refine(bJ _ N _ _ b.a.n b.a.k b.a.l1).mono ?_;rintro e h ⟨rfl,f⟩;replace b:=b.below f;clear f;obtain⟨v,y,z,A,B,C,E,F,G,H⟩:=aj b.bn;have I:=b.bt));go_ret;exact⟨rfl,b.bel⟩
theorem Jq{w:X}{g:O}{ns:List Nd}{N:Nd}{vn vk:O}(c:ez w g ns N vn vk)(d:N.k=22):
  Z T 136 #[B0 #[g],cE N vn vk] w fun e h=>e= V (A0 (((N.ks.length:Int)==0)&&aA N M M M M))/\W w.heap.size w h:=by
 obtain⟨j,o,rfl⟩:=c.t.form;obtain⟨l,p,rfl⟩:=c.n.form;obtain⟨m,q,rfl⟩:=c.k.form;have b:=St.start c;have r:=c.lx;have i:A2 (N.x.size<=1100000):=by show _<=_;omega
 clear c;have s:=bu d;have u:=gE d 22 rfl;clear d;cases t0:((N.ks.length:Int)==0)
 case' true=>
  cases t1:aA N M M M M
 all_goals
  unfold cE;go_in;go_wp2_with (first|(go_at_call 156;refine(bJ _ N _ _ b.a.n b.a.k b.a.l1).mono ?_;rintro e h ⟨rfl,f⟩;replace b:=b.below f;clear f;obtain⟨v,y,z,A,B,C,E,F,G,H⟩:=aj b.bn;have I:=b.bt));go_ret;exact⟨rfl,b.bel⟩
theorem Jr{w:X}{g:O}{ns:List Nd}{N:Nd}{vn vk:O}(c:ez w g ns N vn vk)(d:N.k=27):
  Z T 136 #[B0 #[g],cE N vn vk] w fun e h=>e= V (A0 (((N.ks.length:Int)==0)&&aA N M M M M))/\W w.heap.size w h:=by
 obtain⟨j,o,rfl⟩:=c.t.form;obtain⟨l,p,rfl⟩:=c.n.form;obtain⟨m,q,rfl⟩:=c.k.form;have b:=St.start c;have r:=c.lx;have i:A2 (N.x.size<=1100000):=by show _<=_;omega
 clear c;have s:=bu d;have u:=gE d 27 rfl;clear d;cases t0:((N.ks.length:Int)==0)
 case' true=>
  cases t1:aA N M M M M
 all_goals
  unfold cE;go_in;go_wp2_with (first|(go_at_call 156;refine(bJ _ N _ _ b.a.n b.a.k b.a.l1).mono ?_;rintro e h ⟨rfl,f⟩;replace b:=b.below f;clear f;obtain⟨v,y,z,A,B,C,E,F,G,H⟩:=aj b.bn;have I:=b.bt));go_ret;exact⟨rfl,b.bel⟩
theorem Js{w:X}{g:O}{ns:List Nd}{N:Nd}{vn vk:O}(c:ez w g ns N vn vk)(d:N.k=23):
  Z T 136 #[B0 #[g],cE N vn vk] w fun e h=>e= V (A0 (((N.ks.length:Int)==0)&&aA N M Br M M))/\W w.heap.size w h:=by
 obtain⟨j,o,rfl⟩:=c.t.form;obtain⟨l,p,rfl⟩:=c.n.form;obtain⟨m,q,rfl⟩:=c.k.form;have b:=St.start c;have r:=c.lx;have i:A2 (N.x.size<=1100000):=by show _<=_;omega
 clear c;have s:=bu d;have u:=gE d 23 rfl;clear d;cases t0:((N.ks.length:Int)==0)
 case' true=>
  cases t1:aA N M Br M M
 all_goals
  unfold cE;go_in;go_wp2_with (first|(go_at_call 156;refine(jw _ N _ _ b.a.n b.a.k b.a.l1).mono ?_;rintro e h ⟨rfl,f⟩;replace b:=b.below f;clear f;obtain⟨v,y,z,A,B,C,E,F,G,H⟩:=aj b.bn;have I:=b.bt));go_ret;exact⟨rfl,b.bel⟩
theorem Jt{w:X}{h:O}{ns:List Nd}{N:Nd}{vn vk:O}(c:ez w h ns N vn vk)(f:N.k=24):
  Z T 136 #[B0 #[h],cE N vn vk] w fun e g=>e= V (A0 (((N.ks.length:Int)==0)&&aA N M M Br M&&Bk N.x))/\W w.heap.size w g:=by
 obtain⟨z,C,rfl⟩:=c.t.form;obtain⟨A,E,rfl⟩:=c.n.form;obtain⟨B,F,rfl⟩:=c.k.form;have b:=St.start c;have G:=c.lx;have i:A2 (N.x.size<=1100000):=by show _<=_;omega
 clear c;have H:=bu f;have I:=gE f 24 rfl;clear f;cases t0:((N.ks.length:Int)==0)
 case' true=>
  cases t1:aA N M M Br M
  case' true=>
   cases t2:Bk N.x
 all_goals
  unfold cE;go_in;go_wp2_with (first|(go_at_call 156;refine(jx _ N _ _ b.a.n b.a.k b.a.l1).mono ?_;rintro e g ⟨rfl,d⟩;replace b:=b.below d;clear d;obtain⟨j,l,m,o,p,q,r,s,u,v⟩:=aj b.bn;have y:=b.bt)|(go_at_call 25;refine(tu N.x i.out _).mono ?_;rintro e g ⟨rfl,d⟩;replace b:=b.below d;clear d;obtain⟨j,l,m,o,p,q,r,s,u,v⟩:=aj b.bn;have y:=b.bt));go_ret;exact⟨rfl,b.bel⟩
theorem Ju{w:X}{g:O}{ns:List Nd}{N:Nd}{vn vk:O}(c:ez w g ns N vn vk)(d:N.k=25):
  Z T 136 #[B0 #[g],cE N vn vk] w fun e h=>e= V (A0 (((N.ks.length:Int)==0)&&aA N M M Br M&&decide ((N.x.size:Int)<=4000)))/\W w.heap.size w h:=by
 obtain⟨j,o,rfl⟩:=c.t.form;obtain⟨l,p,rfl⟩:=c.n.form;obtain⟨m,q,rfl⟩:=c.k.form;have b:=St.start c;have r:=c.lx;have i:A2 (N.x.size<=1100000):=by show _<=_;omega
 clear c;have s:=bu d;have u:=gE d 25 rfl;clear d;cases t0:((N.ks.length:Int)==0)
 case' true=>
  cases t1:aA N M M Br M
  case' true=>
   cases t2:decide ((N.x.size:Int)<=4000)
 all_goals
  unfold cE;go_in;go_wp2_with (first|(go_at_call 156;refine(jx _ N _ _ b.a.n b.a.k b.a.l1).mono ?_;rintro e h ⟨rfl,f⟩;replace b:=b.below f;clear f;obtain⟨v,y,z,A,B,C,E,F,G,H⟩:=aj b.bn;have I:=b.bt));go_ret;exact⟨rfl,b.bel⟩
theorem Jv{w:X}{h:O}{ns:List Nd}{N:Nd}{vn vk:O}(c:ez w h ns N vn vk)(f:N.k=26):
  Z T 136 #[B0 #[h],cE N vn vk] w fun e g=>e= V (A0 (((N.ks.length:Int)==0)&&aA N M M Br M&&iu N.x))/\W w.heap.size w g:=by
 obtain⟨z,C,rfl⟩:=c.t.form;obtain⟨A,E,rfl⟩:=c.n.form;obtain⟨B,F,rfl⟩:=c.k.form;have b:=St.start c;have G:=c.lx;have i:A2 (N.x.size<=1100000):=by show _<=_;omega
 clear c;have H:=bu f;have I:=gE f 26 rfl;clear f;cases t0:((N.ks.length:Int)==0)
 case' true=>
  cases t1:aA N M M Br M
  case' true=>
   cases t2:iu N.x
 all_goals
  unfold cE;go_in;go_wp2_with (first|(go_at_call 156;refine(jx _ N _ _ b.a.n b.a.k b.a.l1).mono ?_;rintro e g ⟨rfl,d⟩;replace b:=b.below d;clear d;obtain⟨j,l,m,o,p,q,r,s,u,v⟩:=aj b.bn;have y:=b.bt)|(go_at_call 23;refine(iw N.x i.out _).mono ?_;rintro e g ⟨rfl,d⟩;replace b:=b.below d;clear d;obtain⟨j,l,m,o,p,q,r,s,u,v⟩:=aj b.bn;have y:=b.bt));go_ret;exact⟨rfl,b.bel⟩
def wg(S:List Int):List Int->Int->Option Int
 |[],a=>Y a
 |k::r,a=>if k=a-1/\S.getD k.toNat 0≠0 then wg S r (a-S.getD k.toNat 0) else Ax
def rC(S:List Int)(i:Nat)(ks:List Int):Int:=match wg S ks.reverse i with|some a=>(i:Int)-a+1|none=>0
def jA(ns:List Nd):List Int:=ns.foldl (fun a b=>a++[rC a a.length b.ks]) []
theorem rD(ns:List Nd)(N:Nd):jA (ns++[N])=jA ns++[rC (jA ns) (jA ns).length N.ks]:=by simp[jA]
theorem po{α:Type}{p:List α->Prop}(b:p [])(c:∀a x,p a->p (a++[x]))(l:List α):p l:=by
 rw[<-List.reverse_reverse l]
 induction l.reverse with
 |nil=>exact b
 |cons x e d=>rw[List.reverse_cons];exact c _ x d
theorem ma:∀(ns:List Nd),(jA ns).length=ns.length:=by
 intro ns;refine po (p:=fun ns=>(jA ns).length=ns.length) rfl (fun c b a=>?_) ns;rw[rD];simp[a]
structure adB (S:List Int) (l:List Int) (a:Int) (R:Option Int):Prop where
 out:wg S l a=R
def Ca(S:List Int):Prop:=∀(a:Nat) z,S[a]?=Y z->0<=z/\z<=(a:Int)+1
theorem Jw{S:List Int}(hS:Ca S):∀(l:List Int)(a b:Int),(∀k∈l,0<=k)->0<=a->wg S l a=Y b->0<=b/\b<=a
 |[],a,b,_,g,c=>by simp[wg]at c;omega
 |k::r,a,b,e,g,c=>by
  rw[wg]at c;split at c
  ·rename_i h;have i:=e k (by simp);have f:0<=S.getD k.toNat 0/\S.getD k.toNat 0<=k+1:=by
    rw[bF];cases hs:S[k.toNat]? with
    |none=>simp;omega
    |some d=>have:=hS _ d hs;simp;omega
   have:=Jw hS r _ b (fun d f=>e d (by simp[f])) (by omega) c;omega
  ·cases c
theorem abd{S:List Int}(hS:Ca S)(i:Nat)(ks:List Int)(b:∀k∈ks,0<=k):0<=rC S i ks/\rC S i ks<=(i:Int)+1:=by
 unfold rC;cases h:wg S ks.reverse i with
 |none=>simp;omega
 |some a=>
  have:=Jw hS ks.reverse i a (fun k c=>b k (by simpa using c)) (by omega) h;simp;omega
theorem Ab(ns:List Nd):(∀N∈ns,∀k∈N.ks,0<=k)->Ca (jA ns):=by
 refine po (p:=fun ns=>(∀N∈ns,∀k∈N.ks,0<=k)->Ca (jA ns)) (fun _ b h a=>by simp[jA]at a) (fun c N n e=>?_) ns;have f:=n (fun i l=>e i (by simp[l]));intro b h a;rw[rD]at a;rcases be b (jA c).length with g|g
 ·rw[jG g]at a;exact f b h a
 ·rw[jc g]at a;obtain⟨j,d⟩:=List.getElem?_eq_some_iff.1 a;simp at j d;subst d;obtain rfl:b=(jA c).length:=by omega
  exact abd f _ _ (fun k m=>e N (by simp) k m)
theorem GF(a:List Int)(n k:Nat)(z:Int)(b:a.length=k)(d:k<n):(a.map (Q .i64)++U (n-k) (Q .i64 0)).set k (.int .i64 z)=(a++[z]).map (Q .i64)++U (n-(k+1)) (Q .i64 0):=by
 have c:(a.map (Q .i64)).length=k:=by rw[du,b]
 rw[List.set_append_right _ _ (by omega),c,fC,show n-k=(n-(k+1))+1 by omega,List.replicate_succ,mL];simp
theorem Cb(w:X)(v:O)(ns:List Nd)(bd:bI w v ns)(c9:ns.length<=3000)(al:∀N∈ns,N.ks.length<=1048576)(y:∀(i:Nat) N,ns[i]?=Y N->∀k∈N.ks,0<=k/\k<(i:Int)):
  Z T 106 #[.agg #[v]] w fun e cb=>∃g,e= .returned (.slice (Y ⟨g,0,Ax⟩) ns.length ns.length)/\cb.ownsRow w.heap.size 3 1 (.slice (Y ⟨g,0,Ax⟩) ns.length ns.length) ns.length ((jA ns).map (Q .i64))/\W w.heap.size w cb:=by
 obtain⟨L,af,rfl⟩:=bd.form;obtain⟨a,a0⟩:=aD ns.length;have a3:=ar a0;have cc:A2 (bI w (.slice L a af) ns):=by rw[<-a0];exact bd
 have a5:A2 ((∀N∈ns,N.ks.length<=1048576)/\(∀(i:Nat) N,ns[i]?=Y N->∀k∈N.ks,0<=k/\k<(i:Int))/\∀k,Ca (jA (ns.take k))):=⟨al,y,fun k=>Ab _ (fun N al bx o=>by
  obtain⟨i,bo,e⟩:=gp (qD al);exact(y i N (by rw[aF bo,e]) bx o).1)⟩
 rw[a0]at c9⊢;clear bd a0 al y;obtain⟨dk,bo,dc,df,dg⟩:=fd uj;go_in;go_wp2_with (at_make;refine Et _ rfl _ _ 94 rfl w.heap.size 3 dk (.int .i64 0) 1 Tryz.underlying94 bo dc df .i64 .i64 _ _ a rfl rfl rfl rfl (by rw[dg];omega) (by unfold maxLen;omega) (by simp) ?_;intro a2 a1 u;have bl:W (w.alloc (.cells #[.slice L a af] 76)).heap.size (w.alloc (.cells #[.slice L a af] 76)) a2:=⟨u.os,u.tape,u.output,u.size,fun k y=>u.block k y (by simp)⟩;have zc:a2.cell? ⟨w.heap.size,0,Ax⟩=Y (.slice L a af):=by {rw[ay _ _ _ _ _ _ ((bl.block _ (by simp)).trans (ax w _))];rfl});have b1:W w.heap.size w a2:=((aq _ w).alloc (ag _) _).trans (bl.mono (by simp));rw[dI,show(madeCells (Q .i64 0).cells (a*1)).toList=U a (Q .i64 0) by rw[yI];exact Eo _ a]at a1;have da:w.heap.size+1<a2.heap.size:=(a1.lt (w.heap.size+1) rfl).2;clear zc bl u;go_loopw [17] (fun bt wr=>∃k:Nat,k<=a/\bt= .int .i64 k/\A2 (wr.ownsRow w.heap.size 3 1 (.slice (Y ⟨w.heap.size+1,0,Ax⟩) a a) a ((jA (ns.take k)).map (Q .i64)++U (a-k) (.int .i64 0)))/\W w.heap.size w wr) (fun bt _=>a-(B1 bt).toNat)
 case atStart=>exact⟨0,aG _,rfl,a1,b1⟩
 case round=>
  obtain⟨k,y,rfl,J,F⟩:=hrel;clear a1 b1 da;by_cases b7:k<a
  ·obtain⟨N,H⟩:=eA a3.out b7;have cF:=a5.out.1 N (dC H);have b6:=a5.out.2.1 k N H;have br:=a5.out.2.2 k;obtain⟨dx,rfl,el,ek,cy⟩:=(cc.out.below F).get H;have ea:(k:Int)<(a:Int):=by omega
   have d9:(0:Int)<=(k:Int):=by omega
   obtain⟨cl,cm,cn,cp,cq,cr,cs,b2,b3,b8,bp⟩:=cy;obtain⟨a9,bb,rfl⟩:=b8.form;obtain⟨r,s,rfl⟩:=bp.form;obtain⟨c,am⟩:=aD (jA (ns.take k));have bj:c.length=k:=by rw[<-am,ma,jh,a3.out];omega
   have b9:jA (ns.take (k+1))=c++[rC c k N.ks]:=by
    rw[iq,H];show jA (ns.take k++[N])=_;rw[rD,am,bj]
   rw[am]at J br;obtain⟨n,E⟩:=aD N.ks.length;rw[E]at b3 cF;have b5:aJ wr (.slice r n s) N.ks:=by rw[<-E];exact bp
   have m:=age E b5 b6 br bj b9;have a6:adB c (N.ks.take n).reverse k (wg c N.ks.reverse k):=⟨by rw[<-E,List.take_length]⟩;obtain⟨b0,bf⟩:=aD (wg c N.ks.reverse k);rw[bf]at a6;have bE:=ar bf;generalize N.nm.length=a8 at b2;clear H b8 bp b5 b6 br bj b9 am E bf;go_wp2_with fail;have G:W wr.heap.size wr (wr.alloc (.cells #[.int .i64 N.k,.int .i64 N.f,.int .i64 N.t,.int .i64 N.l,.int .i64 N.op,.int .i64 N.n,.string N.x,.slice a9 a8 bb,.slice r n s] 96)):=(aq _ wr).alloc (ag _) _;have ct:(wr.alloc (.cells #[.int .i64 N.k,.int .i64 N.f,.int .i64 N.t,.int .i64 N.l,.int .i64 N.op,.int .i64 N.n,.string N.x,.slice a9 a8 bb,.slice r n s] 96)).cell? ⟨wr.heap.size,8,Ax⟩=Y (.slice r n s):=by rw[ay _ _ _ _ _ _ (ax wr _)];rfl
   have I:=ei J.out G;generalize wr.alloc (.cells #[.int .i64 N.k,.int .i64 N.f,.int .i64 N.t,.int .i64 N.l,.int .i64 N.op,.int .i64 N.n,.string N.x,.slice a9 a8 bb,.slice r n s] 96)=B at G ct I⊢;have ce:A2 (aJ B (.slice r n s) N.ks):=m.out.2.1.below G;have a4:=ar I;have bn:W w.heap.size w B:=F.trans (G.mono F.size);have d7:=I.frozenAt k;have d4:B.cell? ⟨w.heap.size+1,k,Ax⟩=Y (.int .i64 0):=by
    rw[I.cellAt k (by omega),jc (by rw[du,m.out.2.2.2.2.1];exact ag _),du,m.out.2.2.2.2.1,fC,Es,ab (by omega)]
   clear J I cl cm cn cp cq cr cs b2 b3 F G;go_loop [6,7,8] (fun dn ds bw=>∃(d:Nat) (h:Int),dn= .int .i64 h/\ds= .bool Br/\bw= .int .i64 ((d:Int)-1)/\d<=n/\0<=h/\h<=(k:Int)/\adB c (N.ks.take d).reverse h b0) (fun _ _ bw=>(B1 bw+1).toNat)
   case atStart=>exact⟨n,k,rfl,rfl,rfl,ag _,by omega,by omega,a6⟩
   case round=>
    obtain⟨d,h,rfl,rfl,rfl,eb,d1,d2,A⟩:=hrel;clear a6;have b:=A.out;cases d with
    |zero=>
     have o:rC c k N.ks=(k:Int)-h+1:=by
      unfold rC;rw[bE.out];rw[List.take_zero,List.reverse_nil,wg]at b;rw[<-b]
     have a7:=ar o;have ef:¬(0:Int)<=((0:Nat):Int)-1:=by omega
     have bs:=(a4.out.stored k (.int .i64 ((k:Int)-h+1))).1;rw[GF c a k _ m.out.2.2.2.2.1 b7]at bs;have K:=ar bs;clear b A o bs;go_wp2_with fail;refine⟨⟨k+1,by omega,by go_num,?_,bn.setCell (by simp) _⟩,by simp[B1];omega⟩;show World.ownsRow _ _ _ _ _ _ _;rw[m.out.2.2.2.2.2,a7.out];exact K.out
    |succ d=>
     obtain⟨bx,o⟩:=eA m.out.1 (show d<n by omega);obtain⟨d0,cz,d6⟩:=ce.out.get o;subst cz;obtain⟨dd,ej⟩:=m.out.2.2.1 bx (dC o);rw[iq,o]at b;simp only[Ev,List.reverse_append,List.reverse_cons,List.reverse_nil,jF,List.singleton_append]at b;rw[wg]at b;obtain⟨j,rfl⟩:=fe dd;have ca:j<k:=by omega
     obtain⟨p,z⟩:=eA m.out.2.2.2.2.1 ca;have d3:=m.out.2.2.2.1 j p z;have d5:B.cell? ⟨w.heap.size+1,j,Ax⟩=Y (.int .i64 p):=by
      rw[a4.out.cellAt j (by omega),jG (by rw[du,m.out.2.2.2.2.1];exact ca),dj,z];rfl
     have ap:c.getD j 0=p:=by rw[bF,z];rfl
     simp only[jJ,ap]at b;have cu:(((d+1:Nat)):Int)-1=(d:Int):=by omega
     rw[cu];have ec:(0:Int)<=(d:Int):=by omega
     have ee:(d:Int)<(n:Int):=by omega
     have eh:(j:Int)<(a:Int):=by omega
     have eg:(0:Int)<=(j:Int):=by omega
     by_cases q:(j:Int)=h-1/\p≠0
     ·rw[ab q]at b;have cf:adB c (N.ks.take d).reverse (h-p) b0:=⟨b⟩;have b4:¬p=0:=q.2;have an:=q.1;clear b A o z ap q;obtain rfl:h=(j:Int)+1:=by omega
      clear an;go_wp2_with fail;go_round
      case rel=>exact⟨d,(j:Int)+1-p,by go_num,rfl,by go_num,by omega,by omega,by omega,cf⟩
      case measure=>simp[B1]
     ·rw[aa q]at b;have a7:A2 (rC c k N.ks=0):=by
       show rC c k N.ks=0;unfold rC;rw[bE.out,<-b]
      have K:A2 (B.ownsRow w.heap.size 3 1 (.slice (Y ⟨w.heap.size+1,0,Ax⟩) a a) a ((jA (ns.take (k+1))).map (Q .i64)++U (a-(k+1)) (.int .i64 0))):=by
       have C:=a4.out;show World.ownsRow _ _ _ _ _ _ _;rw[m.out.2.2.2.2.2,a7.out,eL];rw[show a-k=(a-(k+1))+1 by omega,List.replicate_succ]at C;rw[dG];exact C
      by_cases an:(j:Int)=h-1
      ·have b4:p=0:=by
        rcases Int.lt_trichotomy p 0 with g|g|g
        ·omega
        ·exact g
        ·exact absurd ⟨an,by omega⟩ q
       subst b4;clear b A o z ap q;obtain rfl:h=(j:Int)+1:=by omega
       clear an;go_wp2_with fail;exact⟨⟨k+1,by omega,by go_num,K,bn⟩,by simp[B1];omega⟩
      ·clear b A o z ap q;go_wp2_with fail;exact⟨⟨k+1,by omega,by go_num,K,bn⟩,by simp[B1];omega⟩
  ·obtain rfl:k=a:=by omega
   go_wp2_with fail;go_ret;refine⟨_,rfl,?_,F⟩;have C:=J.out;rw[cC (by rw[a3.out];exact ag _),fC,List.replicate_zero,fL]at C;exact C
theorem rE{w h:X}{d f e size n:Nat}{v:O}{i:List O}(p:w.ownsRow d e size v n i)(m:∀a,v.ownBlock=Y a->d<=a->a<w.heap.size->h.heap[a]?=w.heap[a]?/\f<=a):h.ownsRow f e size v n i:=by
 obtain⟨l,b⟩:=p;refine⟨l,?_⟩;rcases b with b|⟨a,j,k,rfl,o,c,q⟩
 ·exact .inl b
 ·have g:=m a rfl o (au c);exact .inr ⟨a,j,k,rfl,g.2,g.1.trans c,q⟩
structure Lw (w:X) (lo:Nat) (lv:O) (L:List Mb):Prop where
 row:w.ownsRow lo 96 9 lv L.length (lz L)
 each:∀x∈L,w.ownsRow lo 9 1 x.vn x.N.nm.length (x.N.nm.map Value.string)/\w.ownsRow lo 3 1 x.vk x.N.ks.length (x.N.ks.map (Q .i64))
theorem Lw.mono{w i:X}{f:Nat}{v:O}{g:List Mb}(d:Lw w f v g)(e:∀k,f<=k->k<w.heap.size->i.heap[k]?=w.heap[k]?):Lw i f v g:=
 ⟨rE d.row fun b _ a c=>⟨e b a c,a⟩,fun j h=>⟨rE (d.each j h).1 fun b _ a c=>⟨e b a c,a⟩,rE (d.each j h).2 fun b _ a c=>⟨e b a c,a⟩⟩⟩
theorem Lw.nds{w:X}{s:Nat}{v:O}{b:List Mb}(d:Lw w s v b):bI w v (b.map Mb.N):=by
 rcases cL d.row with⟨r,rfl⟩|⟨c,q,rfl⟩
 ·exact .inl ⟨by rw[jd r];rfl,_,_,rfl⟩
 ·refine .inr ⟨⟨c,0,Ax⟩,q,by rw[du],fun e N a=>?_⟩;rw[dj]at a;cases hx:b[e]? with
  |none=>rw[hx]at a;cases a
  |some f=>
   rw[hx]at a;obtain rfl:=dr a;rw[show(⟨c,0,Ax⟩:Addr).add (e*9)=⟨c,e*9,Ax⟩ by unfold Addr.add;split<;>simp_all];obtain⟨h,i,j,k,l,m,n,o,p⟩:=pl d.row hx;have g:=d.each f (dC hx);exact⟨f.vn,f.vk,h,i,j,k,l,m,n,o,p,yl g.1,pj g.2⟩
