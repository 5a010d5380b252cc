import Derived.Test.YtjeamjdieofoeaaGreatDoorHZk23
import Derived.Test.YtjeamjdieofoeaaGreatDoorHZk28
set_option linter.all false
set_option maxRecDepth 100000
set_option maxHeartbeats 25600000
open Go.Value renaming int->M,string->Y,slice->A0
open Go.IntKind renaming i64->O
open Bool renaming true->Q
open Option renaming some->S,none->Ax
open Go.RowKit renaming Hid->U,Below->V
open Go.Obj renaming cells->W
namespace Go.Proofs.YtjeamjdieofoeaaGreatDoor
open Go.RowKit Go.Maps Go.WideMaps
variable{i:Nat}{t:Int}
section
variable {tk : Nat → Tk} {n : Nat}
theorem ahx{j:Nat}(a:(tk i).k=t)(g:i<n):∀(f:Nat)(st:List Int)(c:Nat)(lo r:List Int)(m b:Nat),eF f st t c=S (lo,S Q,b)->D tk n m (lo++r) (i+1) j->∃l,D tk n l (st++r) i j
 |0,_,_,_,_,_,_,h,_=>by simp[eF]at h
 |f+1,[],_,_,_,_,_,h,_=>by simp[eF]at h
 |f+1,s::q,c,lo,r,m,b,h,p=>by
  by_cases o:s<100
  ·obtain⟨rfl,e,_⟩:=rh h o;have e:decide (s=t)=Q:=by simpa using e.symm
   exact⟨m+1,.tok o (by rw[a];exact(aH e).symm) g p⟩
  ·rcases jJ h (by omega) with⟨v,d⟩|⟨_,_,d,_⟩
   ·obtain⟨l,u⟩:=ahx a g f _ _ lo r m b d p;exact⟨l+1,.exp (r:=q++r) (by omega) g (by rw[a];exact v) (by rw[a,<-dy];exact u)⟩
   ·simp at d
theorem aaJ{j m:Nat}(b:(tk i).k=t)(c:i<n):∀(st:List Int),(feedL st t).2=Q->D tk n m (feedL st t).1 (i+1) j->∃f,D tk n f st i j
 |[],h,_=>by simp[feedL]at h
 |s::r,h,a=>by
  by_cases e:s<100
  ·rw[iE e]at h a;exact⟨m+1,.tok e (by rw[b];exact(aH h).symm) c a⟩
  ·by_cases d:(xE s t).1=[]/\(xE s t).2=Q
   ·rw[lp (by omega) d]at h a;obtain⟨f,p⟩:=aaJ b c r h a;exact⟨f+1,.exp (by omega) c (by rw[b];exact d.2) (by rw[b,d.1];exact p)⟩
   ·rw[feedL,aa e,aa d]at h a;split at h
    ·rename_i u l o g;have q:l=Q:=h;subst q;rw[g]at a;exact ahx b c 8 [s] 0 u r m o g a
    ·simp at h
theorem aoh:∀(ts:List Tk)(st d:List Int)(i m j:Nat),Fd st ts d->(∀q T,ts[q]?=S T->tk (i+q)=T)->i+ts.length<=n->D tk n m d (i+ts.length) j->∃k,D tk n k st i j
 |[],st,d,i,m,j,h,_,_,f=>by cases h;exact⟨m,f⟩
 |T::ts,st,d,i,m,j,h,g,s,f=>by
  cases h with
  |cons a b c o e=>
   rw[bB]at s f;obtain⟨k,p⟩:=aoh ts _ d (i+1) m j e (fun q l r=>by rw[show i+1+q=i+(q+1) by omega];exact g (q+1) l (by simpa using r)) (by omega) (by rw[show i+1+ts.length=i+(ts.length+1) by omega];exact f);exact aaJ (by rw[show tk i=T from g 0 T rfl]) (by omega) st o p
end
def No6(st:List Int):Prop:=∀a∈st,a≠6/\a<=133
theorem aj3:((List.range 34).all fun s=>(List.range 78).all fun t=>(xE ((s:Int)+100) ((t:Int)+1)).1.all fun x=>decide (x≠6)||!(xE ((s:Int)+100) ((t:Int)+1)).2)=Q:=by decide+kernel
theorem amH{s:Int}(i:100<=s)(j:s<=133)(k:1<=t)(l:t<=78)(h:(xE s t).2=Q):No6 (xE s t).1:=by
 have e:=List.all_eq_true.1 aj3 (s-100).toNat (by rw[jp];omega);have a:=List.all_eq_true.1 e (t-1).toNat (by rw[jp];omega);have f:(((s-100).toNat:Nat):Int)+100=s:=by omega
 have g:(((t-1).toNat:Nat):Int)+1=t:=by omega
 rw[f,g]at a;refine fun d c=>⟨?_,(abf i j k l).1 d c⟩;have b:=List.all_eq_true.1 a d c;rw[h]at b;simpa using b
theorem Ks(j:1<=t)(k:t<=78):∀(f:Nat)(st:List Int)(c:Nat)(lo:List Int)(b:Nat),No6 st->eF f st t c=S (lo,S Q,b)->No6 lo/\t≠6
 |0,_,_,_,_,_,h=>by simp[eF]at h
 |f+1,[],_,_,_,_,h=>by simp[eF]at h
 |f+1,s::q,c,lo,b,g,h=>by
  have i:No6 q:=fun a hx=>g a (dI _ hx);have n:=g s (cE ..);by_cases l:s<100
  ·obtain⟨rfl,d,_⟩:=rh h l;have d:decide (s=t)=Q:=by simpa using d.symm
   have:=aH d;exact⟨i,by omega⟩
  ·rcases jJ h (by omega) with⟨m,e⟩|⟨_,_,e,_⟩
   ·refine Ks j k f _ _ lo b (fun a hx=>?_) e;rcases List.mem_append.1 hx with hx|hx
    ·exact amH (by omega) n.2 j k m a hx
    ·exact i a hx
   ·simp at e
theorem ahy(e:1<=t)(f:t<=78):∀(a:List Int),No6 a->(feedL (a++[6]) t).2=Q->(t=6/\(feedL (a++[6]) t).1=[])\/(t≠6/\∃b,(feedL (a++[6]) t).1=b++[6]/\No6 b)
 |[],_,h=>by
  rw[dt,iE (by omega)]at h⊢;exact .inl ⟨(aH h).symm,rfl⟩
 |s::a,i,h=>by
  have d:No6 a:=fun c hx=>i c (dI _ hx);have j:=i s (cE ..);rw[ej]at h⊢;by_cases o:s<100
  ·rw[iE o]at h⊢;have:=aH h;exact .inr ⟨by omega,a,rfl,d⟩
  ·by_cases hx:(xE s t).1=[]/\(xE s t).2=Q
   ·rw[lp (by omega) hx]at h⊢;exact ahy e f a d h
   ·obtain⟨k,b,l,g,_⟩:=ud (by omega) j.2 e f hx;rw[lr (by omega) hx g]at h⊢;have p:b=Q:=h;subst p;obtain⟨m,n⟩:=Ks e f 8 [s] 0 k l (fun c hx=>by rw[List.mem_singleton.1 hx];exact j) g;refine .inr ⟨n,k++a,by rw[dy],fun c hx=>?_⟩;rcases List.mem_append.1 hx with hx|hx
    ·exact m c hx
    ·exact d c hx
theorem ahz:∀(ts:List Tk)(a:List Int)(c:List Int),No6 a->Fd (a++[6]) ts c->∃b,c=b++[6]/\No6 b
 |[],a,c,d,h=>by cases h;exact⟨a,rfl,d⟩
 |T::ts,a,c,d,h=>by
  cases h with
  |cons g i j k f=>
   rcases ahy g i a d k with⟨e,_⟩|⟨_,b,e,l⟩
   ·exact absurd e j
   ·rw[e]at f;exact ahz ts b c l f
theorem amI{s:ByteArray}{toks:List Tk}{st:List Int}(h:jz s=(toks,st, -1))(l:(feedL st 6).2=Q):∃(m:Nat) (R:Fo) (e:Int),toks.length=m+1/\tD toks m=⟨6,(s.size:Nat),(s.size:Nat),e,0,⟨#[]⟩⟩/\P (tD toks) (m+1) .stats 0 R m/\∀q,q<m->(tD toks q).k≠6:=by
 obtain⟨a,e,c,f⟩:=Dk s _ _ _ _ _ toks st h;rw[dt]at c;have L:No6 [100]:=fun an I=>by rw[List.mem_singleton.1 I];omega
 obtain⟨u,B,F⟩:=ahz a [100] st L f;have G:toks.length=a.length+1:=by rw[c];simp
 have o:tD toks a.length=⟨6,(s.size:Nat),(s.size:Nat),e,0,⟨#[]⟩⟩:=Dl (by rw[c,fL (ag _),eC];rfl);have C:(feedL st 6).1=[]:=by
  rw[B]at l⊢;rcases ahy (by omega) (by omega) u F l with⟨_,g⟩|⟨g,_⟩
  ·exact g
  ·exact absurd rfl g
 have r:∀q b,a[q]?=S b->tD toks q=b:=fun q b d=>Dl (by rw[c,iu (List.getElem?_eq_some_iff.1 d).1];exact d);have p:∀i,(tD toks i).k<100/\(i<a.length->(tD toks i).k≠6):=fun i=>by
  rcases Nat.lt_trichotomy i a.length with g|g|g
  ·rw[r i _ (aJ g)];have:=akn f (A6 g);exact⟨by omega,fun _=>this.2.2⟩
  ·rw[g,o];exact⟨by simp,fun g=>by omega⟩
  ·unfold tD;rw[be,jG (by omega)];exact⟨by simp[zTk],fun g=>by omega⟩
 obtain⟨J,v⟩:=aaJ (tk:=tD toks) (n:=a.length+1) (t:=6) (i:=a.length) (j:=a.length+1) (m:=0) (by rw[o]) (by omega) st l (by rw[C];exact .nil);obtain⟨ak,w⟩:=aoh (tk:=tD toks) (n:=a.length+1) a _ st 0 J _ f (fun q b d=>by rw[qa];exact r q b d) (by omega) (by rw[qa];exact v);obtain⟨K,al,k,x,y,_⟩:=D.split w [100] [6] rfl;obtain⟨A,ad,am,z,_⟩:=y.toks;have af:=z.nils;obtain rfl:k=a.length:=by omega
 obtain⟨R,E⟩:=(aji (n:=a.length+1) (fun i=>(p i).1) K).stats x (Nat.lt_succ_self _) (.inr A);exact⟨a.length,R,e,G,o,E,fun q H=>(p q).2 H⟩
theorem aoi{s:ByteArray}(g:s.size<=65536){toks:List Tk}{st:List Int}(h:jz s=(toks,st, -1))(f:(feedL st 6).2=Q):∃m R a,PF s toks m R a:=by
 obtain⟨m,R,a,b,c,d,e⟩:=amI h f;exact⟨m,R,a,anA g h b c d e⟩
theorem Bt(s:ByteArray):∀(f:Nat)(st:List Int)(p:Nat)(l:Int)(b:List Tk),¬0<=(wH s f st p l b).2.2->(wH s f st p l b).2.2= -1
 |0,st,p,l,b,h=>by simp[wH]at h
 |f+1,st,p,l,b,h=>by
  rw[wH]at h⊢;split
  ·rfl
  ·rename_i e;rw[aa e]at h;split
   ·rename_i c;rw[ab c]at h;split
    ·rename_i a;rw[ab a]at h;exact Bt s f _ _ _ _ h
    ·rename_i a;rw[aa a]at h;exact Bt s f _ _ _ _ h
   ·rename_i c;rw[aa c]at h;split
    ·rename_i a;rw[ab a]at h;split
     ·rename_i d;rw[ab d]at h;exact Bt s f _ _ _ _ h
     ·rename_i d;rw[aa d]at h;exact absurd (by simp) h
    ·rename_i a;rw[aa a]at h;exact absurd (by simp) h
theorem ahA(s:ByteArray)(h:¬0<=(jz s).2.2):(jz s).2.2= -1:=Bt s _ _ _ _ _ h
theorem amJ(s:ByteArray):∃c a k,Out s c a k:=by
 by_cases j:65536<s.size
 ·exact⟨_,_,_,.big j⟩
 by_cases b:0<=(jz s).2.2
 ·exact⟨_,_,_,.at_ (by omega) b (by unfold rF;rw[ab b])⟩
 by_cases e:(feedL (jz s).2.1 6).2=Q
 ·obtain⟨⟨i,m,l⟩,d⟩:∃g,jz s=g:=⟨_,rfl⟩;rw[d]at b e;have f:=ahA s (by rw[d];exact b);rw[d]at f;simp only at f b e;subst f;obtain⟨o,g,n,h⟩:=aoi (by omega) d e;exact⟨_,_,_,.ok (toks:=i) (by omega) (by unfold rF;rw[d,aa (by simp),ab e]) h⟩
 ·exact⟨_,_,_,.at_ (z:=(s.size:Nat)) (by omega) (by omega) (by unfold rF;rw[aa b,aa e])⟩
theorem ahB(a:World)(f:Nat)(b:List Nd)(z:List Im)(base:Nat)(bs:Value)(bk:Tp a b z base bs)(bA:th a)(t:Nat)(i:Nat)(b6:i<b.length)(bE:(ae b i).k=30)(bF:∀j:Nat,j<b.length->(ae b j).k=31->1<=(ae b j).op/\(ae b j).op<=18)
  (e:Nat) (bb:(ae b i).ks[0]?=S (e:Int)) (bo:e<b.length) (l:ByteArray) (bD:DF a f z t (e:Int) l):
  Pw a f 65 #[vP f,gG a t,nV (lj z i)] (Ea (ae b i).op++(if(decide ((ae b i).op=19)&&GC (ae b e))=Q then⟨#[32]⟩ else ByteArray.empty)++(if gy (ae b e).k=Q then gi l else l)):=by
 intro q h bl;have a1:U (∀d,V a.heap.size a d->Calls Tryz.prog 119 #[nV (lj z (e:Int))] d fun g a5=>g= .returned (.tuple #[.agg #[M O (kC (ae b e)),M O (mj (ae b e)),M O (jm (ae b e))],.bool (gy (ae b e).k)])/\V d.heap.size d a5):=fun d an=>qp a b z base bs bk bA e bo (bF e bo) d an;have a6:U (∀d,V a.heap.size a d->Calls Tryz.prog 123 #[nV (lj z (e:Int))] d fun g a5=>g= .returned (.bool (GC (ae b e)))/\V d.heap.size d a5):=fun d an=>ad6 a b z base bs bk e bo d an;have a7:U (∀d:World,Calls Tryz.prog 122 #[M O (ae b i).op] d fun g a5=>g= .returned (Y (Ea (ae b i).op))/\V d.heap.size d a5):=fun d=>Dv _ d;have a2:U (Pw a f 120 #[vP f,gG a t,nV (lj z (e:Int)),.bool (gy (ae b e).k)] (if gy (ae b e).k=Q then gi l else l)):=ql a f t _ l _ bD;have a8:U (Pw a f 335 #[na a t,Y (Ea (ae b i).op)] (Ea (ae b i).op)):=jB a f t _ (by unfold Ea;split;decide;split;decide;split;decide;decide);have b4:U (Pw a f 335 #[na a t,Y ⟨#[32]⟩] ⟨#[32]⟩):=jB a f t _ (by decide);obtain⟨E,cl,b9,av,a9,b1,ap⟩:=vF bk b6;have cg:=fun h=>pq a.heap.size (eB t) h;have ch:=fun h=>xa a.heap.size (eB t) h;have bn:de (ae b i).k=4:=by rw[bE];rfl
 obtain⟨K,rfl,b5,_⟩:=ap.ks.get bb;have cc:(0:Int)<(av:Int):=by have:=qC bb;have:=ap.hn;omega
 have cf:0<av:=by omega
 obtain⟨bd,br⟩:∃b7,nV (lj z (e:Int))=b7:=⟨_,rfl⟩;have o:U (∀d,V a.heap.size a d->d.cell? ⟨E,5,Ax⟩=S (A0 (S K) av a9)/\d.cell? K=S bd/\d.cell? ⟨E,6,Ax⟩=S (M O (ae b i).op)):=fun d an=>⟨(ap.cells an).2.1,by rw[<-br];obtain⟨_,g,_,b8⟩:=(ap.ks.below an).get bb;cases g;simpa [Addr.add] using b8,(ap.cells an).2.2 _ (by rw[bn];rfl)⟩;rw[br]at a1 a6 a2;rw[b1,bn];simp only[jy];have cb:=fun h=>al7 E h;have r:U (Ps a f q h/\Kq a.heap.size h h):=⟨bl,Kq.refl _ _⟩;obtain⟨F,H,G⟩:=o.out _ bl.pg.bel;obtain⟨af,bw⟩:∃bf,gy (ae b e).k=bf:=⟨_,rfl⟩;obtain⟨bt,bx⟩:∃bf,GC (ae b e)=bf:=⟨_,rfl⟩;rw[bw]at a1 a2⊢;rw[bx]at a6⊢;generalize kC (ae b e)=A at *;generalize mj (ae b e)=B at *;generalize jm (ae b e)=C at *;obtain⟨p,b0⟩:∃p,Ea (ae b i).op=p:=⟨_,rfl⟩;rw[b0]at a7 a8⊢;generalize (ae b i).op=bc at *;unfold gG na at *;generalize eB t=ck at *;clear bl ap b1 bF bb bD b5 bA bE bn br bw bx b0;obtain⟨a3,am⟩:∃a3,p++(if(decide (bc=19)&&bt)=Q then(⟨#[32]⟩:ByteArray) else ByteArray.empty)++(if af=Q then gi l else l)=a3:=⟨_,rfl⟩;rw[am];by_cases ba:bc=19
 ·subst ba;cases bt with
  |true=>
   have a0:U (a3=p++⟨#[32]⟩++(if af=Q then gi l else l)):=by show _=_;rw[<-am];rfl
   clear am;go_enter Tryz.func65,Tryz.ntmps65;go_wp2_with fail;go_region_held3 (fun v=>v.cell? ⟨E,5,Ax⟩=S (A0 (S K) av a9)/\v.cell? K=S bd/\v.cell? ⟨E,6,Ax⟩=S (M O 19)) (first|exact o.out _ (r.out.1.below (aw (ah _ _))).pg.bel|exact o.out _ ((r.out.1.below (aw (ah _ _))).below y).pg.bel|exact o.out _ c.pg.bel|go_keep) (first|(go_at_call 122;refine(a7.out _).mono ?_;rintro g b3 ⟨rfl,y⟩)|(go_at_call 335;refine(a8.out _ _ ((r.out.1.below (aw (ah _ _))).below y)).mono ?_;rintro g L ⟨rfl,c,m⟩))
   all_goals
    have s:U (Ps a f (q++p) L/\Kq a.heap.size h L):=⟨c,((r.out.2.trans (Kq.of_below (aw (ah _ _)))).trans (Kq.of_below y)).trans m⟩;obtain⟨F,H,G⟩:=o.out _ c.pg.bel;clear c m;go_wp2_with (go_at_call 123;fail);refine(a6.out _ s.out.1.pg.bel).mono ?_;rintro g a4 ⟨rfl,ao⟩;have I:U (Ps a f (q++p) a4/\Kq a.heap.size h a4):=⟨s.out.1.below ao,s.out.2.trans (Kq.of_below ao)⟩;obtain⟨F,H,G⟩:=o.out _ I.out.1.pg.bel;clear ao;go_wp2_with (go_at_call 335;fail);refine(b4.out _ _ I.out.1).mono ?_;rintro g b2 ⟨rfl,c,m⟩;have bh:U (Ps a f (q++p++⟨#[32]⟩) b2/\Kq a.heap.size h b2):=⟨c,I.out.2.trans m⟩;obtain⟨F,H,G⟩:=o.out _ c.pg.bel;clear c m;go_wp2_with (go_at_call 119;fail);refine(a1.out _ bh.out.1.pg.bel).mono ?_;rintro g n ⟨rfl,w⟩;have x:V n.heap.size n (n.alloc (W #[M O A,M O B,M O C] 168)):=(ah _ n).alloc (ag _) _;have u:U (Ps a f (q++p++⟨#[32]⟩) (n.alloc (W #[M O A,M O B,M O C] 168))/\Kq a.heap.size h (n.alloc (W #[M O A,M O B,M O C] 168))):=⟨(bh.out.1.below w).below x,(bh.out.2.trans (Kq.of_below w)).trans (Kq.of_below x)⟩;obtain⟨F,H,G⟩:=o.out _ u.out.1.pg.bel;clear w x;go_wp2_with (go_at_call 120;fail);refine(a2.out _ _ u.out.1).mono ?_;rintro g ad ⟨rfl,c,m⟩;have J:U (Ps a f (q++p++⟨#[32]⟩++(if af=Q then gi l else l)) ad/\Kq a.heap.size h ad):=⟨c,u.out.2.trans m⟩;clear c m;go_wp2_with fail;go_end0
    refine⟨rfl,?_,J.out.2⟩;rw[a0.out];have:=J.out.1;simpa only[bq] using this
  |false=>
   have a0:U (a3=p++(if af=Q then gi l else l)):=by show _=_;rw[<-am];simp
   clear am;go_enter Tryz.func65,Tryz.ntmps65;go_wp2_with fail;go_region_held3 (fun v=>v.cell? ⟨E,5,Ax⟩=S (A0 (S K) av a9)/\v.cell? K=S bd/\v.cell? ⟨E,6,Ax⟩=S (M O 19)) (first|exact o.out _ (r.out.1.below (aw (ah _ _))).pg.bel|exact o.out _ ((r.out.1.below (aw (ah _ _))).below y).pg.bel|exact o.out _ c.pg.bel|go_keep) (first|(go_at_call 122;refine(a7.out _).mono ?_;rintro g b3 ⟨rfl,y⟩)|(go_at_call 335;refine(a8.out _ _ ((r.out.1.below (aw (ah _ _))).below y)).mono ?_;rintro g L ⟨rfl,c,m⟩))
   all_goals
    have s:U (Ps a f (q++p) L/\Kq a.heap.size h L):=⟨c,((r.out.2.trans (Kq.of_below (aw (ah _ _)))).trans (Kq.of_below y)).trans m⟩;obtain⟨F,H,G⟩:=o.out _ c.pg.bel;clear c m;go_wp2_with (go_at_call 123;fail);refine(a6.out _ s.out.1.pg.bel).mono ?_;rintro g a4 ⟨rfl,ao⟩;have I:U (Ps a f (q++p) a4/\Kq a.heap.size h a4):=⟨s.out.1.below ao,s.out.2.trans (Kq.of_below ao)⟩;obtain⟨F,H,G⟩:=o.out _ I.out.1.pg.bel;clear ao;go_wp2_with (go_at_call 119;fail);refine(a1.out _ I.out.1.pg.bel).mono ?_;rintro g n ⟨rfl,w⟩;have x:V n.heap.size n (n.alloc (W #[M O A,M O B,M O C] 168)):=(ah _ n).alloc (ag _) _;have u:U (Ps a f (q++p) (n.alloc (W #[M O A,M O B,M O C] 168))/\Kq a.heap.size h (n.alloc (W #[M O A,M O B,M O C] 168))):=⟨(I.out.1.below w).below x,(I.out.2.trans (Kq.of_below w)).trans (Kq.of_below x)⟩;obtain⟨F,H,G⟩:=o.out _ u.out.1.pg.bel;clear w x;go_wp2_with (go_at_call 120;fail);refine(a2.out _ _ u.out.1).mono ?_;rintro g ad ⟨rfl,c,m⟩;have J:U (Ps a f (q++p++(if af=Q then gi l else l)) ad/\Kq a.heap.size h ad):=⟨c,u.out.2.trans m⟩;clear c m;go_wp2_with fail;go_end0
    refine⟨rfl,?_,J.out.2⟩;rw[a0.out];have:=J.out.1;simpa only[bq] using this
 ·have a0:U (a3=p++(if af=Q then gi l else l)):=by show _=_;rw[<-am,aC ba];simp
  have ca:(bc==19)=false:=by simpa using ba
  clear am ba;go_enter Tryz.func65,Tryz.ntmps65;go_wp2_with fail;go_region_held3 (fun v=>v.cell? ⟨E,5,Ax⟩=S (A0 (S K) av a9)/\v.cell? K=S bd/\v.cell? ⟨E,6,Ax⟩=S (M O bc)) (first|exact o.out _ (r.out.1.below (aw (ah _ _))).pg.bel|exact o.out _ ((r.out.1.below (aw (ah _ _))).below y).pg.bel|exact o.out _ c.pg.bel|go_keep) (first|(go_at_call 122;refine(a7.out _).mono ?_;rintro g b3 ⟨rfl,y⟩)|(go_at_call 335;refine(a8.out _ _ ((r.out.1.below (aw (ah _ _))).below y)).mono ?_;rintro g L ⟨rfl,c,m⟩))
  all_goals
   have s:U (Ps a f (q++p) L/\Kq a.heap.size h L):=⟨c,((r.out.2.trans (Kq.of_below (aw (ah _ _)))).trans (Kq.of_below y)).trans m⟩;obtain⟨F,H,G⟩:=o.out _ c.pg.bel;clear c m;go_wp2_with (go_at_call 119;fail);refine(a1.out _ s.out.1.pg.bel).mono ?_;rintro g n ⟨rfl,w⟩;have x:V n.heap.size n (n.alloc (W #[M O A,M O B,M O C] 168)):=(ah _ n).alloc (ag _) _;have u:U (Ps a f (q++p) (n.alloc (W #[M O A,M O B,M O C] 168))/\Kq a.heap.size h (n.alloc (W #[M O A,M O B,M O C] 168))):=⟨(s.out.1.below w).below x,(s.out.2.trans (Kq.of_below w)).trans (Kq.of_below x)⟩;obtain⟨F,H,G⟩:=o.out _ u.out.1.pg.bel;clear w x;go_wp2_with (go_at_call 120;fail);refine(a2.out _ _ u.out.1).mono ?_;rintro g ad ⟨rfl,c,m⟩;have J:U (Ps a f (q++p++(if af=Q then gi l else l)) ad/\Kq a.heap.size h ad):=⟨c,u.out.2.trans m⟩;clear c m;go_wp2_with fail;go_end0
   refine⟨rfl,?_,J.out.2⟩;rw[a0.out];have:=J.out.1;simpa only[bq] using this
section
variable (w0 : World) (vb : Nat) (L : List Im) (t : Nat)
inductive BO (ns:List Nd) (N:Nd) (word:ByteArray):ByteArray->Prop
 |two {q:Nat}{X E:ByteArray}:N.ks.length=2->LX w0 vb L t (N.ks.take 1) X->N.ks[1]?=some (q:Int)->Hid (VX w0 vb L t 75 q E)->BO ns N word (word++X++⟨#[32]⟩++E)
 |elf {q r:Nat}{X E Z:ByteArray}:N.ks.length=3->LX w0 vb L t (N.ks.take 1) X->N.ks[1]?=some (q:Int)->Hid (VX w0 vb L t 75 q E)->N.ks[2]?=some (r:Int)->r<ns.length->(ae ns r).k=7->Hid (Pw w0 vb 115 #[vP vb,gG w0 t,.string ⟨#[32,101,108,105,102,32]⟩,nV (lj L (r:Int))] Z)->BO ns N word (word++X++⟨#[32]⟩++E++Z)
 |els {q r:Nat}{X E F:ByteArray}:N.ks.length=3->LX w0 vb L t (N.ks.take 1) X->N.ks[1]?=some (q:Int)->Hid (VX w0 vb L t 75 q E)->N.ks[2]?=some (r:Int)->r<ns.length->(ae ns r).k≠7->Hid (VX w0 vb L t 75 r F)->BO ns N word (word++X++⟨#[32]⟩++E++(⟨#[32,101,108,115,101,32]⟩++F))
end
theorem b_w{a:World}{b:Nat}{f:List Nd}{w:List Im}{base:Nat}{a8:Value}(u:Tp a f w base a8){t:Nat}(bf:t<=100000)(av:i<f.length){N:Nd}(ao:ae f i=N)(ba:N.ks.length<=1048576){F:ByteArray}(bh:F.size<=100){k:ByteArray}(ap:BO a b w t f N F k):
  Pw a b 115 #[vP b,gG a t,Y F,nV (lj w i)] k:=by
 intro ad c l;obtain⟨x,bs,a9,bk,z,B,e⟩:=vF u av;rw[ao]at B e;have C:=fun (x:Nat) c=>da x c;have bb:=fun c=>pq a.heap.size (eB t) c;have bd:=fun c=>xa a.heap.size (eB t) c;have a1:=e.hn;have bc:=fun c=>py (de N.k) x c;have L:U (∀d:ByteArray,d.size<=100000000->Pw a b 335 #[na a t,Y d] d):=fun d l=>jB a b t d l;have K:U (∀(d h k:ByteArray)(s o:Value),d.size<=100000000->U (Pw a b 114 #[vP b,gG a t,s] h)->U (Pw a b 75 #[vP b,gG a t,o] k)->Pw a b 116 #[vP b,gG a t,Y d,s,o] (d++h++⟨#[32]⟩++k)):=fun d h k s o l am a3=>wK a b t d (d++h) k s o (mE a b t d h l s am) a3;have bl:=fun g (m:V a.heap.size a g)=>(e.cells m).1;have bn:=fun g (m:V a.heap.size a g)=>(e.cells m).2.1;have A:=l.pg.bel;have P:U (Pq a b c ad c):=⟨l,Kq.refl _ _⟩;have v:=aq e;cases ap
 case' two hX hq _=>obtain⟨J,rfl,I, -⟩:=e.ks.get hq;have H:=aq (hX _ (e.ks.take 1 (by omega)))
 case' elf q r h E Z _ hX hq _ hr hl h7 hZ=>
  obtain⟨J,rfl,I, -⟩:=e.ks.get hq;have H:=aq (hX _ (e.ks.take 1 (by omega)));obtain⟨y,a7,ak,a5,al,n,p⟩:=vF u hl;have a0:=fun c=>py (de (ae f r).k) y c;have an:=kqs h7;rw[n]at hZ;have z0:=fun g (m:V a.heap.size a g)=>(p.cells m).1;have G:=v.kid hr (by decide);rw[n]at G;clear p n h7;generalize jy (de (ae f r).k)=a6 at *;generalize (ae f r).k=a4 at *
 case' els q r h E Z _ hX hq _ hr hl h7 hZ=>
  obtain⟨J,rfl,I, -⟩:=e.ks.get hq;have H:=aq (hX _ (e.ks.take 1 (by omega)));obtain⟨y,a7,ak,a5,al,n,p⟩:=vF u hl;have a0:=fun c=>py (de (ae f r).k) y c;have an:=beq_eq_false_iff_ne.2 h7;unfold VX at hZ;rw[n]at hZ;have z0:=fun g (m:V a.heap.size a g)=>(p.cells m).1;have G:=v.kid hr (by decide);rw[n]at G;clear p n h7;generalize jy (de (ae f r).k)=a6 at *;generalize (ae f r).k=a4 at *
 all_goals
  try (have o:=a1.symm.trans (by with_reducible assumption:N.ks.length=_);subst o)
  have bt:=v.kid (j:=1) (by with_reducible assumption) (by decide);have ar:(1:Int)<=(z:Int)/\1<=z/\¬z=0:=by omega
  obtain⟨_,_,_⟩:=ar;rw[B];generalize jy (de N.k)=br at *;try unfold VX at *
  unfold gG na at *;generalize eB t=bo at *;clear l e B u;go_in
  repeat' (go_wp2_with (go_at_call 336;refine dB (C _ _) ?_);first|(refine Pq.stp P (ah _ _) (by with_reducible first|assumption|exact aq (L.out _ (by decide))) ?_;intro g P A)|(go_region_held3 (fun af=>V a.heap.size a af) (first|exact(P.below (aw (ah _ _))).ps.pg.bel|exact A|go_keep) (first|(go_at_call 336;refine dB (C _ _) ?_)|(refine Pq.stp P (aw (ah _ _)) (by with_reducible exact aq (K.out _ _ _ _ _ (by omega) (by assumption) (by assumption))) ?_;intro g P A))))
  all_goals
   go_wp2_with (go_at_call 336;refine dB (C _ _) ?_);first|go_end0|refine aI (dJ rfl _ _ _) rfl ?_
   exact Pq.fin P (by simp only[bq])
