import Derived.Test.YtnlhhmlcjbohbaaGreatDoorHNk18
import Derived.Test.YtnlhhmlcjbohbaaGreatDoorHNk19
import Derived.Test.YtnlhhmlcjbohbaaGreatDoorHNk21
set_option linter.all false
set_option maxRecDepth 100000
set_option maxHeartbeats 25600000
open Go.Value renaming slice->O,int->A0,string->B0,bool->B3
open Option renaming some->Q,none->R
open Bool renaming false->U,true->V
open Go.Proofs.Tryz renaming prog->Ax
open Go.IntKind renaming i64->A2
open Go renaming World->A5,Value->A9,Calls->Br,ownsRow_succ->B1
namespace Go.Proofs.YtnlhhmlcjbohbaaGreatDoor
variable{L M i n p:Nat}{N:Nd}{T s:ByteArray}{W w w0:World}{ak an:Option Addr}{v:Value}{xs:List Value}
inductive Tr (s:ByteArray):Nat->Nat->Nat->Prop
 |end_ {q:Nat}:q<=s.size->blk s (s.size+1) q=s.size->Tr s 0 q q
 |step {n q q':Nat}:q<=s.size->blk s (s.size+1) q<s.size->(rdI s (blk s (s.size+1) q)).ok=true->Tr s n (rdI s (blk s (s.size+1) q)).a q'->Tr s (n+1) q q'
structure BG (T s:ByteArray):Prop where
 ag:Ag T 0 s
 bl:aq T s.size=32
theorem BG.at_(h:BG T s)(a:i<s.size):aq T i=aq s i:=by
 have:=h.ag.at_ i a;rwa [gq]at this
theorem BG.lt(h:BG T s):s.size<T.size:=by have:=h.ag.lt;omega
theorem BG.rd(h:BG T s)(b:p<s.size)(a:(rdI s p).ok=V):rdI T p=rdI s p:=by
 have:=h.ag.rdA b a;rw[gq,gq]at this;rw[this];rcases hr:rdI s p with⟨c,d,e,f,g,i⟩;rw[hr]at a;simp only at a⊢;rw[a]
theorem vq(s:ByteArray)(p:Nat)(c:p<=s.size):blk s (s.size+1) p=if s.size<=p then p else if gG (aq s p)=V then blk s (s.size+1) (p+1) else if aq s p=45/\aq s (p+1)=45 then blk s (s.size+1) (wC s p) else p:=by
 rw[blk];split
 ·rfl
 split
 ·exact ss s _ _ _ (by omega) (by omega) (by omega)
 split
 ·rename_i a;have d:=rp s p a.1;have b:=qk s p c;exact ss s _ _ _ b.2 (by omega) (by omega)
 ·rfl
theorem BG.nl(h:BG T s)(j:p<s.size)(b:wC s p<s.size):wC T p=wC s p:=by
 have i:=h.lt;have d:=qk s p (by omega);have c:=mC FA s (s.size+1) p;have e:=qa FA Ho s (s.size+1) p (by omega);unfold wC at b d⊢;obtain⟨a,f⟩:∃a,ic FA s (s.size+1) p=a:=⟨_,rfl⟩;rw[f]at b d c e⊢;rw[wy FA T (a-p) (T.size+1) p (fun k g=>by rw[h.at_ (by omega)];exact c _ (by omega) (by omega)) (by rw[show p+(a-p)=a by omega,h.at_ b];exact e) (by omega)];omega
theorem BG.rem(h:BG T s)(k:p<s.size)(b:wC s p=s.size)(c:∀i,s.size<=i->i<T.size->aq T i≠10):wC T p=T.size:=by
 have j:=h.lt;have a:=mC FA s (s.size+1) p;unfold wC at b⊢;rw[b]at a;rw[wy FA T (T.size-p) (T.size+1) p (fun i f=>?_) (by rw[show p+(T.size-p)=T.size by omega,dl];rfl) (by omega)]
 ·omega
 ·rcases aH (p+i) s.size with g|g
  ·rw[h.at_ g];exact a _ (by omega) g
  ·have d:=jl (show p+i<T.size by omega);have e:=c _ g (by omega);unfold FA;simp;omega
theorem BG.bk(h:BG T s):∀(m q:Nat),s.size-q<=m->q<=s.size->blk s (s.size+1) q<s.size->blk T (T.size+1) q=blk s (s.size+1) q:=by
 have n:=h.lt;intro m
 induction m with
 |zero=>intro q j d a;rw[vq s q d,ab (by omega)]at a;omega
 |succ m f=>
  intro q j d a;rw[vq s q d]at a⊢;rw[vq T q (by omega),aa (by omega)];by_cases e:s.size<=q
  ·rw[ab e]at a;omega
  rw[aa e]at a;rw[aa e,h.at_ (by omega)];by_cases c:gG (aq s q)=V
  ·rw[ab c]at a;rw[ab c,ab c];exact f _ (by omega) (by omega) a
  rw[aa c]at a;rw[aa c,aa c];by_cases b:aq s q=45/\aq s (q+1)=45
  ·rw[ab b]at a;have i:=bz b.2;rw[h.at_ i,ab b,ab b];have k:=rp s q b.1;have l:=qk s q d;rcases aH (wC s q) s.size with g|g
   ·rw[h.nl (by omega) g];exact f _ (by omega) (by omega) a
   ·rw[wo s _ g]at a;omega
  ·rw[aa b,aa];intro g;rcases aH (q+1) s.size with g1|g1
   ·rw[h.at_ g1]at g;exact b g
   ·rw[show q+1=s.size by omega,h.bl]at g;exact absurd g.2 (by decide)
theorem ak4(s:ByteArray):∀(m q:Nat),s.size-q<=m->q<=s.size->blk s (s.size+1) q=s.size->(∀T,BG T s->(∀i,s.size<=i->i<T.size->aq T i≠10)->blk T (T.size+1) q=T.size)\/(∀T,BG T s->blk T (T.size+1) q=blk T (T.size+1) (s.size+1)):=by
 have j:∀T,BG T s->blk T (T.size+1) s.size=blk T (T.size+1) (s.size+1):=fun T a=>wn T _ a.lt (by rw[a.bl];decide);intro m
 induction m with
 |zero=>
  intro q p h b;obtain rfl:q=s.size:=by omega
  exact .inr j
 |succ m l=>
  intro q p h b;rw[vq s q h]at b;by_cases n:s.size<=q
  ·obtain rfl:q=s.size:=by omega
   exact .inr j
  rw[aa n]at b;by_cases f:gG (aq s q)=V
  ·rw[ab f]at b;have c:∀T,BG T s->blk T (T.size+1) q=blk T (T.size+1) (q+1):=fun T a=>wn T q (by have:=a.lt;omega) (by rw[a.at_ (by omega)];exact f);rcases l _ (by omega) (by omega) b with g|g
   ·exact .inl fun T a e=>by rw[c T a];exact g T a e
   ·exact .inr fun T a=>by rw[c T a];exact g T a
  rw[aa f]at b;by_cases d:aq s q=45/\aq s (q+1)=45
  ·rw[ab d]at b;have o:=bz d.2;have r:=rp s q d.1;have t:=qk s q h;have c:∀T,BG T s->blk T (T.size+1) q=blk T (T.size+1) (wC T q):=fun T a=>by
    have:=a.lt;rw[vq T q (by omega),aa (by omega),a.at_ (by omega),aa f,a.at_ o,ab d]
   rcases aH (wC s q) s.size with g|g
   ·rcases l _ (by omega) (by omega) b with k|k
    ·exact .inl fun T a e=>by rw[c T a,a.nl (by omega) g];exact k T a e
    ·exact .inr fun T a=>by rw[c T a,a.nl (by omega) g];exact k T a
   ·exact .inl fun T a e=>by rw[c T a,a.rem (by omega) (by omega) e];exact wo T _ (ae _)
  ·rw[aa d]at b;omega
theorem Tr.sc(h:BG T s){q b:Nat}(t:Tr s n q b):∀l:Int,∃a:Int,∀g,(za T (g+n) q l).2.2.length=n+(za T g b a).2.2.length/\((za T (g+n) q l).1=(za T g b a).1):=by
 induction t with
 |end_ e c=>exact fun l=>⟨l,fun g=>by simp⟩
 |@step n q b e c f k j=>
  intro l;obtain⟨a,i⟩:=j (l+(rdI s (blk s (s.size+1) q)).d);refine⟨a,fun g=>?_⟩;have:=h.lt;rw[show g+(n+1)=g+n+1 by omega,za,h.bk _ q (ae _) e c,aa (by omega),h.rd c f,ab f];simp only[bi,i g];exact⟨by omega,trivial⟩
theorem Tr.sc0{q a:Nat}(t:Tr s n q a):∀(l:Int) g,(za s (g+n+1) q l).1=V/\(za s (g+n+1) q l).2.2.length=n:=by
 induction t with
 |end_ b c=>exact fun l g=>by rw[za,ab (by omega)];exact⟨rfl,rfl⟩
 |@step n q a b c e h f=>
  intro l g;rw[za,aa (by omega),ab e];have:=f (l+(rdI s (blk s (s.size+1) q)).d) g;simp only[bi,<-eG,this.2];exact⟨this.1,trivial⟩
theorem Tr.bd{q a:Nat}(t:Tr s n q a):q+n<=a/\a<=s.size/\blk s (s.size+1) a=s.size:=by
 induction t with
 |end_ b c=>exact⟨ae _,b,c⟩
 |@step n q a b c d e f=>
  have:=iA s _ c d;have:=jm s (s.size+1) q b;omega
theorem BG.rk(h:BG T s)(b:p<s.size)(a:(rdI s p).ok=V):oI T p=oI s p:=by
 unfold oI;rw[h.rd b a,ab a,ab a]
def NoL(st:List Int):Prop:=∀x∈st,100<=x/\x<=133\/x<100/\x≠2/\x≠3
def noB(st:List Int):Bool:=st.all fun x=>decide (100<=x/\x<=133\/x<100/\x≠2/\x≠3)
theorem aog:((List.range 34).all fun s=>(List.range 78).all fun t=>match eL 8 [(s:Int)+100] ((t:Int)+1) 0 with|some (lo,some _,_)=>noB lo|_=>V)=V:=by decide+kernel
theorem ak5:((List.range 34).all fun s=>decide (((xE ((s:Int)+100) 2).1=[]/\(xE ((s:Int)+100) 2).2=V)↔((xE ((s:Int)+100) 3).1=[]/\(xE ((s:Int)+100) 3).2=V))&&(match eL 8 [(s:Int)+100] 2 0,eL 8 [(s:Int)+100] 3 0 with|some (_,some a,_),some (_,some b,_)=>a==b|none,none=>V|some (_,none,_),some (_,none,_)=>V|_,_=>U))=V:=by decide+kernel
theorem NoL.feed:∀{st:List Int}{k:Int},NoL st->1<=k->k<=78->NoL (feedL st k).1
 |[],k,h,_,_=>h
 |s::r,k,h,f,g=>by
  have d:NoL r:=fun b a=>h b (cL _ a);have l:=h s bB;rw[feedL];split
  ·exact d
  rename_i j;split
  ·exact d.feed f g
  have c:=List.all_eq_true.1 (List.all_eq_true.1 aog (s-100).toNat (by rw[ix];omega)) (k-1).toNat (by rw[ix];omega);rw[show(((s-100).toNat:Nat):Int)+100=s by omega,show(((k-1).toNat:Nat):Int)+1=k by omega]at c;split
  ·rename_i m i n e;rw[e]at c;intro b a;rcases List.mem_append.1 a with q|q
   ·exact aG (List.all_eq_true.1 c b q)
   ·exact d b q
  ·exact fun b a=>by cases a
theorem NoL.two:∀{st:List Int},NoL st->(feedL st 2).2=(feedL st 3).2
 |[],h=>rfl
 |s::r,h=>by
  have e:NoL r:=fun i f=>h i (cL _ f);have j:=h s bB;rw[feedL,feedL];by_cases c:s<100
  ·rw[ab c,ab c];show decide _=decide _;rw[aD (by omega),aD (by omega)]
  rw[aa c,aa c];have a:=List.all_eq_true.1 ak5 (s-100).toNat (by rw[ix];omega);rw[show(((s-100).toNat:Nat):Int)+100=s by omega,cd,iJ]at a;by_cases b:(xE s 2).1=[]/\(xE s 2).2=V
  ·rw[ab b,ab (a.1.1 b)];exact e.two
  rw[aa b,aa (fun g=>b (a.1.2 g))];have d:=a.2;revert d;rcases eL 8 [s] 2 0 with _|⟨k,_|b1,m⟩<;>rcases eL 8 [s] 3 0 with _|⟨l,_|b2,n⟩<;>simp
theorem ahr(s:ByteArray):∀(f:Nat)(st:List Int)(q:Nat)(l:Int)(e:List Tk){toks:List Tk}{d:List Int},q<=s.size->ov s f st (blk s (s.size+1) q) l e=(toks,d, -1)->
  ∃n i,Tr s n q i/\n<f/\(NoL st->NoL d)/\∀T,BG T s->∃o p,∀g,ov T (g+n) st (blk T (T.size+1) q) l e=ov T g d (blk T (T.size+1) i) o p
 |0,st,q,l,e,toks,d,m,h=>by rw[ov]at h;simp at h
 |f+1,st,q,l,e,toks,d,m,h=>by
  have bd:=jm s (s.size+1) q m;rw[ov]at h;by_cases w:s.size<=blk s (s.size+1) q
  ·rw[ab w]at h;simp only[gD]at h;exact⟨0,q,.end_ m (by omega),by omega,fun A=>h.2.1 ▸ A,fun T y=>⟨l,e,fun g=>by rw[h.2.1];rfl⟩⟩
  rw[aa w]at h;have x:∀(r:List Int)(u:Int)(v:List Tk),(NoL st->NoL r)->(rdI s (blk s (s.size+1) q)).ok=V->ov s f r (blk s (s.size+1) (rdI s (blk s (s.size+1) q)).a) u v=(toks,d, -1)->
    (∀T,BG T s->∀g,ov T (g+1) st (blk s (s.size+1) q) l e=ov T g r (blk T (T.size+1) (rdI s (blk s (s.size+1) q)).a) u v)->
    ∃n i,Tr s n q i/\n<f+1/\(NoL st->NoL d)/\∀T,BG T s->∃o p,∀g,ov T (g+n) st (blk T (T.size+1) q) l e=ov T g d (blk T (T.size+1) i) o p:=by
   intro r u v E b F y;have G:=iA s _ (Nat.lt_of_not_le w) b;obtain⟨n,i,H,I,B,C⟩:=ahr s f r _ u v G.2.1 F;refine⟨n+1,i,.step m (by omega) b H,by omega,fun h=>B (E h),fun T c=>?_⟩;obtain⟨o,p,z⟩:=C T c;refine⟨o,p,fun g=>?_⟩;rw[c.bk _ q (ae _) m (by omega),<-eG,y T c,z g]
  by_cases j:oI s (blk s (s.size+1) q)=7
  ·rw[ab j]at h;have b:=(KE s _ j).1;by_cases t:(feedL st 5).2=V
   ·rw[ab t]at h;refine x _ _ _ (fun h=>h.feed (by omega) (by omega)) b h (fun T c g=>?_);rw[ov,aa (by have:=c.lt;omega),c.rk (by omega) b,ab j,ab t,c.rd (by omega) b]
   ·rw[aa t]at h;refine x _ _ _ id b h (fun T c g=>?_);rw[ov,aa (by have:=c.lt;omega),c.rk (by omega) b,ab j,aa t,c.rd (by omega) b]
  rw[aa j]at h;by_cases k:(wF st (oI s (blk s (s.size+1) q))).2=V
  ·rw[ab k]at h;by_cases b:(rdI s (blk s (s.size+1) q)).ok=V
   ·rw[ab b]at h;refine x _ _ _ (fun h=>h.feed (by unfold wF at k;split at k<;>simp_all;omega) (ahe s _).2) b h (fun T c g=>?_);rw[ov,aa (by have:=c.lt;omega),c.rk (by omega) b,aa j,ab k,c.rd (by omega) b,ab b]
   ·rw[aa b]at h;simp only[gD]at h;omega
  ·rw[aa k]at h;simp only[gD]at h;omega
theorem zr(st:List Int)(k:Int):∀j:Nat,k∈jG st j↔1<=k/\k<=j/\(feedL st k).2=V
 |0=>by simp[jG];omega
 |j+1=>by
  have f:=zr st k j;rw[jG];split
  ·rename_i e;rw[vG,f,List.mem_singleton];constructor
   ·rintro (a|rfl)
    ·exact⟨a.1,by omega,a.2.2⟩
    ·exact⟨by omega,by omega,e⟩
   ·rintro ⟨c,g,b⟩;by_cases d:k=(j:Int)+1
    ·exact .inr d
    ·exact .inl ⟨c,by omega,b⟩
  ·rename_i e;rw[f];constructor
   ·exact fun a=>⟨a.1,by omega,a.2.2⟩
   ·rintro ⟨c,g,b⟩;refine⟨c,?_,b⟩;by_cases d:k=(j:Int)+1
    ·exact absurd (d ▸ b) e
    ·omega
def oJ(s y:ByteArray):ByteArray:=s++(aev++(y++aev))
section
variable {s y : ByteArray} {k n : Int} {x : ByteArray}
theorem zt:(oJ s y).size=s.size+y.size+2:=by
 unfold oJ;rw[ax,ax,ax];have:aev.size=1:=rfl;omega
theorem aoh(h:i<s.size):aq (oJ s y) i=aq s i:=by unfold oJ;rw[ib,ab h]
theorem ahs:aq (oJ s y) s.size=32:=by
 unfold oJ;rw[ib,aa (by omega),eD,ib,ab (by decide)];rfl
theorem aht(h:i<y.size):aq (oJ s y) (s.size+1+i)=aq y i:=by
 have:aev.size=1:=rfl;unfold oJ;rw[ib,aa (by omega),ib,aa (by omega),ib,ab (by omega)]
 congr 1;omega
theorem D8:aq (oJ s y) (s.size+1+y.size)=32:=by
 have:aev.size=1:=rfl;unfold oJ;rw[ib,aa (by omega),ib,aa (by omega),ib,aa (by omega),show s.size+1+y.size-s.size-aev.size-y.size=0 by omega];rfl
theorem ac6:BG (oJ s y) s:=⟨⟨fun b a=>by rw[gq];exact aoh a,by rw[gq,ahs];decide⟩,ahs⟩
theorem aoi:Ag (oJ s y) (s.size+1) y:=⟨fun b a=>aht a,by rw[D8];decide⟩
theorem ak6(a:Iv y k n x):blk (oJ s y) ((oJ s y).size+1) (s.size+1)=s.size+1:=by
 have b:=aht (s:=s) a.pos;rw[iz]at b;refine zb _ _ (by rw[b,a.bl];simp) (fun c=>?_);rw[b]at c;have e:=a.da c.1;have d:=D8 (s:=s) (y:=y);rw[e,c.2]at d;exact absurd d (by decide)
theorem Iv.dig(c:Iv y k n x)(h:bc (aq y 0)=V)(e:ba (aq y 0)=U):k=2\/k=3:=by
 have a:=c.ki;have b:=c.ok;unfold rdI at a b;rw[aa (by rw[e];simp),ab h]at a b;split at a
 ·rename_i d;simp only at a;unfold qz at a;split at a
  ·exact .inl a.symm
  ·split at a
   ·exact .inl a.symm
   ·exact .inr a.symm
 ·rename_i d;rw[aa d]at b;cases b
theorem Iv.quo(c:Iv y k n x)(h:aq y 0=34):k=4:=by
 have a:=c.ki;have b:=c.ok;unfold rdI at a b;rw[h,aa (by decide),aa (by decide),ab rfl]at a b;split at a
 ·exact a.symm
 ·rename_i d;rw[aa d]at b;cases b
theorem aqg(f:Iv y k n x){st:List Int}(A:NoL st)(t:(feedL st k).2=U):wrongF (oJ s y) (s.size+1) (pu st)<(oJ s y).size:=by
 have H:=zt (s:=s) (y:=y);have g:=aht (s:=s) f.pos;rw[iz]at g;have B:=f.pos;unfold wrongF
 suffices h:wrL (oJ s y) (s.size+1) (pu st) ((oJ s y).size+1) 0<=y.size by omega
 by_cases j:ba (aq y 0)=V
 ·have p:∀b a,a<y.size->wrL (oJ s y) (s.size+1) (pu st) b a<=y.size:=by
   intro b
   induction b with
   |zero=>intro a d;rw[wrL];omega
   |succ b l=>
    intro a d;rw[wrL];split
    ·split
     ·omega
     ·rename_i c;rcases aH (a+1) y.size with q|q
      ·exact l _ q
      ·refine absurd ?_ c;unfold uI lk;rw[g,j,show s.size+1+(a+1)=s.size+1+y.size by omega];split
       ·rw[D8];decide
       ·decide
    ·omega
  exact p _ 0 B
 ·have p:∀b a,a<=y.size->wrL (oJ s y) (s.size+1) (pu st) b a<=y.size:=by
   intro b
   induction b with
   |zero=>intro a d;rw[wrL];omega
   |succ b l=>
    intro a d;rw[wrL];split
    ·rename_i c;rcases aH a y.size with q|q
     ·split
      ·omega
      ·exact l _ (by omega)
     ·exfalso;have c:=c.2;have I:=jp (oJ s y) (s.size+1) (s.size+1+a+1) (by omega);have u:∀e,e<=y.size->aq ((oJ s y).extract (s.size+1) (s.size+1+a+1)) e=aq (oJ s y) (s.size+1+e):=fun e G=>fi _ _ _ e (by omega);unfold tJ at c;rw[aa (by omega)]at c;obtain⟨m,w,h⟩:=(Kz _ _).1 c;rw[u 0 (by omega),iz,g]at h;have d:=(zr st m 78).1 w;rcases h with h|h
      ·unfold bgC at h;rw[iJ]at h;rcases h with h|⟨h,i⟩|⟨h,i⟩
       ·exact j h.2
       ·have:=A.two;have z:=f.dig i (by simpa using j);rcases h with rfl|rfl<;>rcases z with rfl|rfl<;>simp_all
       ·rw[f.quo i,<-h,d.2.2]at t;cases t
      ·obtain⟨F,v⟩:=Ii.1 h;obtain⟨o,rfl⟩:∃o:Nat,m=(o:Int):=⟨m.toNat,by omega⟩;obtain⟨C,E⟩:=anC ⟨o,by omega⟩;have r:=v y.size (by omega);rw[u _ (ae _),D8]at r;exact E ⟨y.size,by simp only at C;omega⟩ r.symm
    ·omega
  exact p _ 0 (aF _)
end
open Go.RowKit Go.Shelf Go.Maps Go.WideMaps
attribute [local go_sem] kH
def amr(a:Bool×Nat×List Tk):Int:=if a.1=V then 0 else(a.2.1:Int)
def vv(a:Bool×Nat×List Tk):List Tk:=if a.1=V then a.2.2 else []
def scR(s:ByteArray):Bool×Nat×List Tk:=if 65536<s.size then(U,65536,[]) else za s (s.size+1) 0 1
theorem abf{base e size:Nat}(h:W.ownsRow base e size v n xs):∃a b,v= O a n b:=by
 rcases h.2 with⟨rfl,c⟩|⟨f,b,d,rfl,_⟩
 ·exact⟨R,0,by rw[c]⟩
 ·exact⟨_,_,rfl⟩
end Go.Proofs.YtnlhhmlcjbohbaaGreatDoor
namespace Go.Proofs.YtnlhhmlcjbohbaaGreatDoor
open Go.RowKit Go.Maps Go.WideMaps
variable{L M i n p:Nat}{N:Nd}{T s:ByteArray}{W w w0:World}{ak an:Option Addr}{v:Value}{xs:List Value}
theorem zu(s:ByteArray):∀(f p:Nat),p<=s.size->s.size<p+f->blk s f p<s.size->¬gG (aq s (blk s f p))=V/\¬(aq s (blk s f p)=45/\aq s (blk s f p+1)=45)
 |0,p,h,g,a=>by omega
 |f+1,p,h,g,a=>by
  unfold blk at a⊢;split
  ·rename_i b;rw[ab b]at a;omega
  split
  ·rename_i b c;rw[aa b,ab c]at a;exact zu s f (p+1) (by omega) (by omega) a
  split
  ·rename_i b c d;rw[aa b,aa c,ab d]at a;have i:=rp s p d.1;have e:=qk s p h;exact zu s f _ e.2 (by omega) a
  ·rename_i b c d;exact⟨c,d⟩
structure Stop (s:ByteArray) (p:Nat):Prop where
 nb:p<s.size->¬gG (aq s p)=V
 nd:p<s.size->¬(aq s p=45/\aq s (p+1)=45)
theorem D9(s:ByteArray)(p:Nat)(h:p<=s.size):Stop s (blk s (s.size+1) p):=
 ⟨fun a=>(zu s _ p h (by omega) a).1,fun a=>(zu s _ p h (by omega) a).2⟩
theorem ahu(s:ByteArray)(p:Nat)(h:p<=s.size):blk s (s.size+1) (blk s (s.size+1) p)=blk s (s.size+1) p:=by
 have a:=D9 s p h;rcases aH (blk s (s.size+1) p) s.size with hl|hl
 ·exact zb s _ (a.nb hl) (a.nd hl)
 ·exact wo s _ hl
theorem Rel.blks{a:Bool×Nat×List Tk}{pre:List Tk}{f:Nat}{l:Int}(h:Rel s a pre p l f):Rel s a pre (blk s (s.size+1) p) l f:=by
 have b:=jm s (s.size+1) p h.le;exact⟨by have:=h.fu;omega,b.2,h.l0,by have:=h.l1;omega,by have:=h.cn;omega,by rw[h.eq,akc s p _ (ahu s p h.le).symm]⟩
structure rF (w:A5) (n:Nat) (xs:List A9) (v:A9) (W:A5):Prop where
 res:W.heap[w.heap.size]?=Q (.cells #[.bool U,.int .i64 0,.slice R 0 0] 29 (0,0))
 out:W.heap[w.heap.size+1]?=Q (.cells #[.bool V,.int .i64 0,v] 29 (0,0))
 row:W.ownsRow (w.heap.size+2) 49 6 v n xs
 bel:Below w.heap.size w W
 siz:w.heap.size+2<=W.heap.size
theorem rF.below{b:A5}(h:rF w n xs v W)(a:Below W.heap.size W b):rF w n xs v b:=
 ⟨(a.block _ (ai h.res)).trans h.res,(a.block _ (ai h.out)).trans h.out,h.row.kept (row:=R) ⟨a.os,a.tape,a.output,a.size,fun d c _=>a.block d c⟩ (by cases v.ownBlock<;>simp),h.bel.trans (a.mono h.bel.size),bg h.siz a.size⟩
theorem rF.cells(h:rF w n xs v W):
  W.cell? ⟨w.heap.size,0,R⟩=Q (B3 U)/\W.cell? ⟨w.heap.size,1,R⟩=Q (A0 A2 0)/\W.cell? ⟨w.heap.size,2,R⟩=Q (O R 0 0)/\(∀j,W.frozen? ⟨w.heap.size,j,R⟩=U)/\
  W.cell? ⟨w.heap.size+1,0,R⟩=Q (B3 V)/\W.cell? ⟨w.heap.size+1,1,R⟩=Q (A0 A2 0)/\W.cell? ⟨w.heap.size+1,2,R⟩=Q v/\(∀j,W.frozen? ⟨w.heap.size+1,j,R⟩=U):=
 ⟨by rw[au _ _ _ _ _ _ h.res];rfl,by rw[au _ _ _ _ _ _ h.res];rfl,by rw[au _ _ _ _ _ _ h.res];rfl,fun j=>bI _ _ _ _ _ h.res,by rw[au _ _ _ _ _ _ h.out];rfl,by rw[au _ _ _ _ _ _ h.out];rfl,by rw[au _ _ _ _ _ _ h.out];rfl,fun j=>bI _ _ _ _ _ h.out⟩
theorem rF.appended{w1:A5}{i:List A9}{a:A9}{j:Obj}(h:rF w n xs v W)
  (m:w1.ownsRow (w.heap.size+2) 49 6 a (n+1) (xs++i)) (c:(W.alloc j).grownBy w1 v.ownBlock):
  rF w (n+1) (xs++i) a (w1.setCell ⟨w.heap.size+1,2,R⟩ a)/\w1.heap[w.heap.size+1]?=Q (.cells #[B3 V,A0 A2 0,v] 29 (0,0))/\(∀k,k<W.heap.size->Q k≠v.ownBlock->w1.heap[k]?=W.heap[k]?):=by
 have g:∀k,k<w.heap.size+2->Q k≠v.ownBlock:=fun k f b=>by have:=(h.row.lt k b.symm).1;omega
 have o:=h.siz;have d:∀k,k<W.heap.size->Q k≠v.ownBlock->w1.heap[k]?=W.heap[k]?:=fun k f l=>(c.block k (by simp;omega) l).trans (cC W _ k f);have e:=(d _ (ai h.out) (g _ (by omega))).trans h.out;have q:W.heap.size<=w1.heap.size:=by have:=c.size;simp at this;omega
 refine⟨⟨?_,aL _ _ 2 _ _ _ e,kI m (by simp) a,?_,?_⟩,e,d⟩
 ·rw[aC _ _ _ _ (by simp),d _ (ai h.res) (g _ (by omega))];exact h.res
 ·refine h.bel.trans ((((ah w.heap.size W).alloc h.bel.size j).grown c (by have:=h.bel.size;simp;omega) (fun k b=>by have:=(h.row.lt k b).1;omega)).setCell (p:=⟨w.heap.size+1,2,R⟩) (by simp) a)
 ·simp[World.setCell];omega
theorem Ea(s:ByteArray)(dk:s.size<=65536)(n:Bool×Nat×List Tk)(o:za s (s.size+1) 0 1=n)(w:A5):
  Br Ax 8 #[.string s] w fun e l=>∃v,e= .returned (.agg #[.bool n.1,.int .i64 (amr n),v])/\l.ownsRow w.heap.size 49 6 v (vv n).length (ul (vv n))/\Below w.heap.size w l:=by
 have ds:∀w:A5,(zeroValue 29).run Ax w= .ok (.agg #[.bool U,.int .i64 0,.slice R 0 0]) w:=fun w=>by kernel_rfl
 have bh:Rel s n [] 0 1 (s.size+1):=⟨by omega,by omega,by omega,by omega,by simp,by rw[o];rfl⟩;have bj:=bh.blks;have bk:=D9 s 0 (by omega);have bd:=fun w=>mF s (by omega) 0 (by omega) w;have bx:=fun (a:Nat) (bw:a<=s.size) w=>mF s (by omega) a bw w;have b7:Hid (∀(a:Nat)(bw:a<=s.size) w,Br Ax 21 #[.string s,.int .i64 a] w fun e l=>e= .returned (.int .i64 (blk s (s.size+1) a))/\l=w):=bx;have b8:Hid (∀(p:Nat)(i:p<s.size)(w:A5),Br Ax 22 #[.string s,.int .i64 p] w fun e l=>∃g be d f ap,e= .returned (.tuple #[.agg #[.int .i64 g,.int .i64 p,.int .i64 be,.int .i64 0,.int .i64 d,.string f],.int .i64 ap])/\an1 (rdI s p) g be d f ap/\Below w.heap.size w l):=fun p i w=>DK s (by omega) p i w;clear o bh bx;generalize blk s (s.size+1) 0=ca at bj bk bd;go_enter Tryz.func8,Tryz.ntmps8;go_wp2_with (go_at_call 21;refine(bd _).mono ?_;rintro e l ⟨rfl,rfl⟩);go_loopw [4,5,6,7] (fun c8 K ea d9 wr=>∃(pre:List Tk) (p:Nat) (b:Int) (ad:Nat) (v:A9),c8= .int .i64 b/\K= .int .i64 p/\Rel s n pre p b ad/\Stop s p/\rF w pre.length (ul pre) v wr) (fun _ K _ _ _=>s.size-(intOf K).toNat)
 case atStart=>
  refine⟨[],ca,1,s.size+1,.slice R 0 0,rfl,rfl,bj,bk,⟨(cC _ _ _ (by simp)).trans (ay w _),?_,cE _ _ _ _,((ah _ w).alloc (ae _) _).alloc (by simp) _,by simp⟩⟩;have:=ay (w.alloc (.cells #[.bool U,.int .i64 0,.slice R 0 0] 29)) (.cells #[.bool V,.int .i64 0,.slice R 0 0] 29);rw[dr]at this;exact this
 case round=>
  obtain⟨pre,p,b,ad,v,rfl,rfl,x,am,u⟩:=hrel;obtain⟨A,B,C,E,y,z,r,of⟩:=u.cells;clear bd;by_cases i:p<s.size
  ·have c1:(p:Int)<(s.size:Int):=by omega
   have al:=x.tok i (am.nb i) (am.nd i);have ak:=x.bad i (am.nb i) (am.nd i);have ao:=iA s p i;have bE:=b8.out p i;go_wp2_with (go_at_call 22;fail);refine(bE _).mono ?_;rintro e h ⟨g,be,d,f,ap,rfl,H,cB⟩;have q:=u.below cB;clear bE A B C E y z r of;obtain⟨A,B,C,E,y,z,r,of⟩:=q.cells;have dn:=ai q.res;have dq:=ai q.out;generalize rdI s p=cb at al ak ao H;obtain⟨c5,c,dx,d6,d7,d8⟩:=cb;cases c5 with
   |false=>
    have o:=ak rfl;have cF:=H.no rfl;subst cF;have dc:(0:Int)<=(c:Int):=by omega
    have cz:=o;subst cz;clear al ak ao H o;go_wp2_with fail;refine aI (gi rfl _ _ w.heap.size _ _ _ _ rfl ((cC _ _ _ (by simp[World.setCell];omega)).trans (aL _ _ 2 _ _ _ (aL _ _ 1 _ _ _ (aL h _ 0 _ _ _ q.res)))) Tryz.underlying29 rfl (by kernel_rfl)) rfl ⟨_,rfl,cE _ _ _ _,?_⟩;refine Below.alloc ?_ (by simp[World.setCell];omega) _;exact(((q.bel.setCell (p:=⟨w.heap.size,0,R⟩) (ae _) _).setCell (p:=⟨w.heap.size,1,R⟩) (ae _) _).setCell (p:=⟨w.heap.size,2,R⟩) (ae _) _)
   |true=>
    obtain⟨bl,bn,bo,br,bs,F⟩:=H.yes rfl;simp only at bl bn bo br bs F;have bt:=al rfl;have an:=ao rfl;simp only at bt an;subst bl bn bo br bs;clear al ak ao H;have ag:=bt.blks;have a0:=D9 s c an.2.1;have cI:=jm s (s.size+1) c an.2.1;have bb:=b7.out c an.2.1;generalize blk s (s.size+1) c=b6 at ag a0 cI bb;have dd:=x.l0;have dg:=x.l1;have da:=x.cn;have m:(h.alloc (.cells #[.int .i64 g,.int .i64 p,.int .i64 (c:Int),.int .i64 b,.int .i64 d,.string f] 49)).heap[h.heap.size]?=Q (.cells #[.int .i64 g,.int .i64 p,.int .i64 (c:Int),.int .i64 b,.int .i64 d,.string f] 49 (0,0)):=ay h _;have j:rF w pre.length (ul pre) v (h.alloc (.cells #[.int .i64 g,.int .i64 p,.int .i64 (c:Int),.int .i64 b,.int .i64 d,.string f] 49)):=q.below ((ah _ h).alloc (ae _) _);have bA:Q h.heap.size≠v.ownBlock:=fun e=>by have:=(q.row.lt _ e.symm).2;omega
    by_cases ar:g=7
    ·subst ar;rw[ab rfl]at F;subst F;go_upto_region 13 with fail
     generalize h.alloc (.cells #[.int .i64 7,.int .i64 p,.int .i64 (c:Int),.int .i64 b,.int .i64 d,.string f] 49)=k at m j⊢;clear A B C E y z r of;obtain⟨A,B,C,E,y,z,r,of⟩:=j.cells;obtain⟨cc,ce,cf,cg,ch,ck,cl⟩:=aJ (show dE h.heap.size k 7 p (c:Int) b d f from m);have c2:=ai j.out;have a5:=ai m;obtain⟨a9,a3,a6,a7,a8⟩:=dD Tryz.info49;go_wp2_with (first|(at_builtin;refine mw _ rfl _ _ 27 rfl (w.heap.size+2) 49 a9 _ 6 56 Tryz.underlying27 a3 a6 a7 a8 rfl (by decide) _ _ _ rfl (j.row.alloc _) ⟨k.heap.size,0,R⟩ 1 1 [.int .i64 7,.int .i64 p,.int .i64 (c:Int),.int .i64 b,.int .i64 d,.string f] rfl rfl (World.news_of_block (cs:=#[.int .i64 7,.int .i64 p,.int .i64 (c:Int),.int .i64 b,.int .i64 d,.string f]) (fr:=(0,0)) (ay k _)) (by intro c6 J;simp at J;rcases J with rfl|rfl|rfl|rfl|rfl|rfl<;>rfl) (by unfold maxLen;omega) (by omega) (by simp;omega) ?_;intro c7 t I a2 _;obtain⟨cy,cp,rfl⟩:=B1 I;obtain⟨av,G,a4⟩:=j.appended I a2;have a1:=(a4 _ a5 bA).trans m;have c3:t.cell? ⟨w.heap.size+1,2,R⟩=Q v:=by {rw[au _ _ _ _ _ _ G];rfl};have c4:t.frozen? ⟨w.heap.size+1,2,R⟩=U:=bI _ _ _ _ _ G;obtain⟨cq,cr,ct,cu,cv,cw,cx⟩:=aJ (show dE h.heap.size t 7 p (c:Int) b d f from a1))|(go_at_call 21;refine(bb _).mono ?_;rintro e l ⟨rfl,rfl⟩));exact⟨⟨pre++[⟨7,p,c,b,d,f⟩],b6,b+1,ad-1,_,rfl,rfl,ag,a0,by rw[aB,qh];exact av⟩,by simp[intOf];omega⟩
    ·have c9:(g==7)=U:=by rw[bH];exact ar
     rw[aa ar]at F;subst F;rw[Int.add_zero]at ag;go_upto_region 13 with fail
     generalize h.alloc (.cells #[.int .i64 g,.int .i64 p,.int .i64 (c:Int),.int .i64 b,.int .i64 d,.string f] 49)=k at m j⊢;clear A B C E y z r of;obtain⟨A,B,C,E,y,z,r,of⟩:=j.cells;obtain⟨cc,ce,cf,cg,ch,ck,cl⟩:=aJ (show dE h.heap.size k g p (c:Int) b d f from m);have c2:w.heap.size+1<k.heap.size:=ai j.out;have a5:h.heap.size<k.heap.size:=ai m;obtain⟨a9,a3,a6,a7,a8⟩:=dD Tryz.info49;go_wp2_with (first|(at_builtin;refine mw _ rfl _ _ 27 rfl (w.heap.size+2) 49 a9 _ 6 56 Tryz.underlying27 a3 a6 a7 a8 rfl (by decide) _ _ _ rfl (j.row.alloc _) ⟨k.heap.size,0,R⟩ 1 1 [.int .i64 g,.int .i64 p,.int .i64 (c:Int),.int .i64 b,.int .i64 d,.string f] rfl rfl (World.news_of_block (cs:=#[.int .i64 g,.int .i64 p,.int .i64 (c:Int),.int .i64 b,.int .i64 d,.string f]) (fr:=(0,0)) (ay k _)) (by intro c6 J;simp at J;rcases J with rfl|rfl|rfl|rfl|rfl|rfl<;>rfl) (by unfold maxLen;omega) (by omega) (by simp;omega) ?_;intro c7 t I a2 _;obtain⟨cy,cp,rfl⟩:=B1 I;obtain⟨av,G,a4⟩:=j.appended I a2;have a1:=(a4 _ a5 bA).trans m;have c3:t.cell? ⟨w.heap.size+1,2,R⟩=Q v:=by {rw[au _ _ _ _ _ _ G];rfl};have c4:t.frozen? ⟨w.heap.size+1,2,R⟩=U:=bI _ _ _ _ _ G;obtain⟨cq,cr,ct,cu,cv,cw,cx⟩:=aJ (show dE h.heap.size t g p (c:Int) b d f from a1))|(go_at_call 21;refine(bb _).mono ?_;rintro e l ⟨rfl,rfl⟩));exact⟨⟨pre++[⟨g,p,c,b,d,f⟩],b6,b,ad-1,_,rfl,rfl,ag,a0,by rw[aB,qh];exact av⟩,by simp[intOf];omega⟩
  ·have o:=x.atEnd (by omega);have c1:¬(p:Int)<(s.size:Int):=by omega
   subst o;obtain⟨K,cm,rfl⟩:=abf u.row;obtain⟨L,af⟩:∃L,pre.length=L:=⟨_,rfl⟩;rw[af]at r;have bD:=u.row;rw[af]at bD;have b9:Hid (pre.length=L):=af;clear af;go_wp2_with fail;refine aI (gi rfl _ _ w.heap.size _ _ _ _ rfl (aL _ _ 2 _ _ _ (aL _ _ 1 _ _ _ (aL wr _ 0 _ _ _ u.res))) Tryz.underlying29 rfl (by kernel_rfl)) rfl ⟨_,rfl,?_,(((u.bel.setCell (p:=⟨w.heap.size,0,R⟩) (ae _) _).setCell (p:=⟨w.heap.size,1,R⟩) (ae _) _).setCell (p:=⟨w.heap.size,2,R⟩) (ae _) _)⟩;have c0:=kI (a:=⟨w.heap.size,2,R⟩) (kI (a:=⟨w.heap.size,1,R⟩) (kI (a:=⟨w.heap.size,0,R⟩) bD (by simp) (.bool V)) (by simp) (.int .i64 0)) (by simp) (.slice K L cm);show World.ownsRow _ _ _ _ _ pre.length (ul pre);rw[b9.out];exact agA c0 (by omega)
theorem Iz(s:ByteArray)(b:65536<s.size)(d:s.size<=1048576)(w:A5):
  Br Ax 8 #[.string s] w fun e a=>e= .returned (.agg #[.bool U,.int .i64 65536,.slice R 0 0])/\Below w.heap.size w a:=by
 have f:∀w:A5,(zeroValue 29).run Ax w= .ok (.agg #[.bool U,.int .i64 0,.slice R 0 0]) w:=fun w=>by kernel_rfl
 have c:(65536:Int)<(s.size:Int):=by omega
 go_enter Tryz.func8,Tryz.ntmps8;go_wp2_with fail;exact aI (gi rfl _ _ w.heap.size _ _ _ _ rfl (ay w _) Tryz.underlying29 rfl (by kernel_rfl)) rfl ⟨rfl,(ah _ w).alloc (ae _) _⟩
theorem zv(s:ByteArray)(d:s.size<=1048576)(w:A5):
  Br Ax 8 #[B0 s] w fun e b=>∃v,e= .returned (.agg #[B3 (scR s).1,A0 A2 (amr (scR s)),v])/\b.ownsRow w.heap.size 49 6 v (vv (scR s)).length (ul (vv (scR s)))/\Below w.heap.size w b:=by
 unfold scR;by_cases a:65536<s.size
 ·rw[ab a];refine(Iz s a d w).mono ?_;rintro e b ⟨rfl,c⟩;exact⟨_,rfl,cE _ _ _ _,c⟩
 ·rw[aa a];exact Ea s (by omega) _ rfl w
def Eb(k:Int):ByteArray:=if k=1 then⟨#[110,97,109,101]⟩ else if k=2 then⟨#[55]⟩ else if k=3 then⟨#[55,46,53]⟩ else if k=4 then⟨#[34,115,34]⟩ else dB k
theorem ak7{k:Int}(h:(Eb k).size≠0):∃n x,Iv (Eb k) k n x:=by
 unfold Eb at h⊢;split
 ·rename_i a;subst a;exact⟨_,_,agK (by decide+kernel)⟩
 split
 ·rename_i a;subst a;exact⟨_,_,(show xy 7=(⟨#[55]⟩:ByteArray) by decide+kernel) ▸ akA 7 (by decide) (by decide)⟩
 split
 ·rename_i a;subst a;exact⟨_,_,akw (by decide+kernel)⟩
 split
 ·rename_i a;subst a;exact⟨_,_,(show ey (cD ⟨#[115]⟩)=(⟨#[34,115,34]⟩:ByteArray) by decide+kernel) ▸ akx ⟨#[115]⟩⟩
 ·rename_i b c d e;rw[aa b,aa c,aa d,aa e]at h;exact⟨_,_,akv h⟩
theorem Ld{k:Int}(c:1<=k)(d:k<=78):(Eb k).size<=11:=by
 have a:∀b:Fin 79,(Eb (b.val:Int)).size<=11:=by decide+kernel
 have:=a ⟨k.toNat,by omega⟩
 rwa [show((⟨k.toNat,by omega⟩:Fin 79).val:Int)=k by simp;omega]at this
theorem Le(k:Int)(w:A5):Br Ax 10 #[A0 A2 k] w fun e i=>e= .returned (B0 (Eb k))/\Below w.heap.size w i:=by
 have g:=fun w=>aka k 0 0 0 0 ⟨#[]⟩ (by decide) (by decide) (by decide) w;have f:=ah w.heap.size w;unfold Eb;by_cases a:k=1
 ·rw[ab a];subst a;go_in;go_wp2_with fail;go_ret;exact⟨rfl,f⟩
 by_cases b:k=2
 ·rw[aa a,ab b];subst b;go_in;go_wp2_with fail;go_ret;exact⟨rfl,f⟩
 by_cases c:k=3
 ·rw[aa a,aa b,ab c];subst c;go_in;go_wp2_with fail;go_ret;exact⟨rfl,f⟩
 by_cases d:k=4
 ·rw[aa a,aa b,aa c,ab d];subst d;go_in;go_wp2_with fail;go_ret;exact⟨rfl,f⟩
 unfold J2 at g;rw[aa a,aa b,aa c,aa d]at g⊢;have j:(k==1)=U:=by simpa using a
 have l:(k==2)=U:=by simpa using b
 have m:(k==3)=U:=by simpa using c
 have n:(k==4)=U:=by simpa using d
 clear a b c d;go_in;go_wp2_with fail;refine cJ (g _) fun w1 h=>?_;go_wp2_with fail;go_ret;exact⟨rfl,h⟩
theorem aeE(w:A5)(k m:A9)(l:List Int)(f:dm w k l)(g:dm w m l)(t:l.length<=1048576):
  Br Ax 6 #[k,m] w fun e v=>e= .returned (B3 V)/\Below w.heap.size w v:=by
 obtain⟨o,q,rfl⟩:=f.form;obtain⟨p,r,rfl⟩:=g.form;obtain⟨b,d⟩:=aA l.length;have n:=aw d;have j:Hid (dm w (O o b q) l/\dm w (O p b r) l):=by rw[<-d];exact⟨f,g⟩
 rw[d]at t⊢;clear f g d;go_in;go_wp21
 go_loopw [13] (fun i wr=>∃a:Nat,a<=b/\i= A0 A2 a/\Below w.heap.size w wr) (fun i _=>b-(intOf i).toNat)
 case atStart=>exact⟨0,by omega,rfl,ah _ _⟩
 case round=>
  obtain⟨a,B,rfl,c⟩:=hrel;by_cases u:a<b
  ·obtain⟨C,h⟩:=co n.out u;obtain⟨x,rfl,z⟩:=(j.1.below c).get h;obtain⟨y,rfl,A⟩:=(j.2.below c).get h;have s:(a:Int)<(b:Int):=by omega
   clear h;go_wp21
   go_quiet (fail)
   go_wp21
   exact⟨⟨a+1,by omega,by go_num,mE c _⟩,by simp[intOf];omega⟩
  ·obtain rfl:a=b:=by omega
   have s:¬(a:Int)<(a:Int):=by omega
   go_wp21
   go_ret;exact⟨rfl,c⟩
theorem aeF(op:Int):4<=(pwF op).2/\(pwF op).2<=11:=by
 unfold pwF
 repeat' split
 all_goals exact⟨by decide,by decide⟩
theorem ac7(k op:Int):2<=xC k op/\xC k op<=11:=by
 have:=aeF op;unfold xC
 repeat' split
 all_goals omega
abbrev Cel(W:A5)(b:Nat)(N:Nd)(vn vk:A9):Prop:=W.cell? ⟨b,0,R⟩=Q (A0 A2 N.k)/\W.cell? ⟨b,1,R⟩=Q (A0 A2 N.f)/\W.cell? ⟨b,2,R⟩=Q (A0 A2 N.t)/\W.cell? ⟨b,3,R⟩=Q (A0 A2 N.l)/\W.cell? ⟨b,4,R⟩=Q (A0 A2 N.op)/\W.cell? ⟨b,5,R⟩=Q (A0 A2 N.n)/\W.cell? ⟨b,6,R⟩=Q (B0 N.x)/\W.cell? ⟨b,7,R⟩=Q vn/\W.cell? ⟨b,8,R⟩=Q vk
theorem ak8{g:Addr}{j tab:Nat}(al:N.k≠29->N.k≠28->1<=N.op/\N.op<=18){cn ck:Nat}(h:NdR w0 g i N an M cn ak L ck)(a0:N.ks.length=2){q r:Nat}(C:N.ks[0]?=Q (q:Int))(l:N.ks[1]?=Q (r:Int)){e:Int}(a5:0<=e/\e<=50){am I J:ByteArray}(z:Hid (Wr w0 (O (Q g) n j) tab 113 #[pW w0,A0 A2 (q:Int),A0 A2 (F7 N e)] I))(ar:Hid (Wr w0 (O (Q g) n j) tab 113 #[pW w0,A0 A2 (r:Int),A0 A2 (xC N.k N.op)] J)):
  Wr w0 (O (Q g) n j) tab 160 #[pW w0,jo N (O an M cn) (O ak L ck),B0 am,A0 A2 e] (I++am++J):=by
 intro ad F B a1;have ag:=B.lt;have a4:=ac7 N.k N.op;obtain⟨b,rfl⟩:=h.ks.ptr;obtain rfl:L=2:=by have:=h.hL;omega
 have c:=aw h;have y:=aw fun a3 a2=>Kf N a3 a2 al;unfold jo at y⊢;unfold F7 at z;generalize xC N.k N.op=K at *;simp only[ax]at a1;have a:=aw (Bx.new B N (O an M cn) (O (Q b) 2 ck));obtain⟨m,o,p,s,t,u,v,w,x⟩:=a.cells;have ao:=a.kid0 c.ks C;have ap:=a.kid c.ks l (by decide);have E:Hid (∀{ad:ByteArray}{d:A5},Bx w0 (O (Q g) n j) tab F N (O an M cn) (O (Q b) 2 ck) ad d->Cel d F.heap.size N (O an M cn) (O (Q b) 2 ck)/\d.cell? ⟨b.block,b.off+1,R⟩=Q (A0 A2 (r:Int))):=fun a=>⟨a.cells,a.kid c.ks l (by decide)⟩;clear B h al a0;by_cases f:K=e;all_goals
  first|have av:=kqs f|have av:(K==e)=U:=by simpa using f
  first|rw[ab f]at z|rw[aa f]at z
  clear f;go_in
  repeat (go_wp2_with fail;(first|(go_at_call 200;refine cJ (y _ _ _) fun d A=>?_;have a:=aw (a.below A);clear m o p s t u v w x;obtain⟨m,o,p,s,t,u,v,w,x⟩:=a.cells;have ao:=a.kid0 c.ks C;have ap:=a.kid c.ks l (by decide))|(refine Bx.stp a (ah _ _) (by with_reducible first|exact aw (D4 _)|assumption) ag (by(try simp only[ax]);omega) ?_;intro d a;have a:=aw a;clear m o p s t u v w x;obtain⟨m,o,p,s,t,u,v,w,x⟩:=a.cells;have ao:=a.kid0 c.ks C;have ap:=a.kid c.ks l (by decide))))
  go_wp2_with fail;go_region_held3 (fun af=>Cel af F.heap.size N (O an M cn) (O (Q b) 2 ck)/\af.cell? ⟨b.block,b.off+1,R⟩=Q (A0 A2 (r:Int))) (first|exact E H|exact E G|exact E (a.below (dJ (ah _ _)))|go_keep) (first|(go_at_call 200;refine cJ (y _ _ _) fun d A=>?_;have G:=(a.below (dJ (ah _ _))).below A)|(go_at_call 113;refine Bx.stp (aw G) (ah _ _) ar ag (by(try simp only[ax]);omega) ?_;intro d H))
  go_wp2_with fail;go_end0
  exact Bx.fin (aw H) (by simp only[fh])
theorem ahv{f:Addr}{q:Nat}{tab:Nat}(af:n<=1048576)(H:i<n)(e:N.k=31->1<=N.op/\N.op<=18){cn ck:Nat}(l:NdR w0 f i N an M cn ak L ck)(c:N.k=31){r:Int}(ad:¬jH N.k N.op<r)(ag:(pJ (60+N.op)).size<=4){p:ByteArray}(m:Hid (Wr w0 (O (Q f) n q) tab 160 #[pW w0,jo N (O an M cn) (O ak L ck),B0 (⟨#[32]⟩++pJ (60+N.op)++⟨#[32]⟩),A0 A2 (jH N.k N.op)] p)):
  Wr w0 (O (Q f) n q) tab 113 #[pW w0,A0 A2 (i:Int),A0 A2 r] p:=by
 intro C t b K;have w:=b.lt;obtain⟨z0,A,B⟩:=b.cells;obtain⟨al,am,ao,ap,ar,av,a0,a1,a2,_,_⟩:=l.rd t b.bel;have a:=aw (Bx.new b N (O an M cn) (O ak L ck));have I:(i:Int)<(n:Int):=by omega
 have J:(0:Int)<=(i:Int):=by omega
 have a6:=kqf c;have G:=kqs c;have j:=aw fun z y=>Bc N z y e;have u:=aw (xo (60+N.op));obtain⟨a3,a4⟩:=e c;have x:IntKind.i64.wrap (60+N.op)=60+N.op:=by rw[di];omega
 generalize pJ (60+N.op)=s at *;have E:¬9223372036854775807<1+s.size:=by omega
 have F:¬9223372036854775807<1+s.size+1:=by omega
 unfold jo at j m;generalize jH N.k N.op=a5 at *;clear b l c e B A;go_in;go_wp2_with (go_at_call 159;refine cJ (j _ _ _) fun o d=>?_;have a:=aw (a.below d);obtain⟨a7,a8,a9,bb,bd,be,bf,bh,bj⟩:=a.cells);go_region_held3 (fun v=>Cel v t.heap.size N (O an M cn) (O ak L ck)) (first|exact h.cells|exact g.cells|exact(a.below (dJ (ah _ _))).cells|go_keep) (first|(go_at_call 66;(try rw[x]);refine cJ (u _) fun o d=>?_;have g:=(a.below (dJ (ah _ _))).below d)|(go_at_call 160;refine Bx.stp (aw g) (ah _ _) m w (by omega) ?_;intro o h))
 go_wp2_with fail;go_end0
 exact Bx.fin (aw h) rfl
section
variable (w0 : World) (vt : Value) (t : Nat)
inductive Gc (p1:Addr) (n i:Nat) (ns:List Nd) (N:Nd) (vn vk:Value):FuncId->Array Value->ByteArray->Prop
 |blk {Y:ByteArray}:Hid (N.k=1)->Hid (WB w0 vt t i Y)->Gc p1 n i ns N vn vk 71 #[pW w0,.int .i64 (i:Int)] (Y)
 |let0:N.nm.length<=200->Hid (N.k=2)->N.ks.length=0->Gc p1 n i ns N vn vk 71 #[pW w0,.int .i64 (i:Int)] (⟨#[108,101,116,32]⟩++ft N.nm)
 |let1 {X:ByteArray}:N.nm.length<=200->Hid (N.k=2)->0<N.ks.length->Hid (WX w0 vt t N.ks X)->Gc p1 n i ns N vn vk 71 #[pW w0,.int .i64 (i:Int)] (⟨#[108,101,116,32]⟩++ft N.nm++(⟨#[32,61,32]⟩++X))
 |cst {s E:ByteArray}{q:Nat}:Hid (N.k=3)->N.ks.length=1->N.nm.length=1->N.nm[0]?=some s->N.ks[0]?=some (q:Int)->Hid (WE w0 vt t q E)->Gc p1 n i ns N vn vk 71 #[pW w0,.int .i64 (i:Int)] (⟨#[99,111,110,115,116,32]⟩++s++⟨#[32,61,32]⟩++E)
 |fns {s Y:ByteArray}{q:Nat}:Hid (N.k=4)->N.ks.length=1->N.nm.length=1->N.nm[0]?=some s->N.ks[0]?=some (q:Int)->Hid (WD w0 vt t q Y)->Gc p1 n i ns N vn vk 71 #[pW w0,.int .i64 (i:Int)] (⟨#[102,110,32]⟩++s++Y)
 |set {X Z:ByteArray}{m:Nat}:Hid (N.k=5)->1<=m/\m<N.ks.length->Hid (N.n=(m:Int))->Hid (WX w0 vt t (N.ks.take m) X)->Hid (WX w0 vt t (N.ks.drop m) Z)->Gc p1 n i ns N vn vk 71 #[pW w0,.int .i64 (i:Int)] (X++⟨#[32,61,32]⟩++Z)
 |one {E:ByteArray}{q:Nat}:Hid (N.k=6)->N.ks.length=1->N.ks[0]?=some (q:Int)->Hid (WE w0 vt t q E)->Gc p1 n i ns N vn vk 71 #[pW w0,.int .i64 (i:Int)] (E)
 |iff {Y:ByteArray}:Hid (N.k=7)->Hid (Wr w0 vt t 115 #[pW w0,jo N vn vk,.string ⟨#[105,102,32]⟩] Y)->Gc p1 n i ns N vn vk 71 #[pW w0,.int .i64 (i:Int)] (Y)
 |whl {E Y:ByteArray}{q r:Nat}:Hid (N.k=8)->N.ks.length=2->N.ks[0]?=some (q:Int)->N.ks[1]?=some (r:Int)->Hid (WE w0 vt t q E)->Hid (WB w0 vt t r Y)->Gc p1 n i ns N vn vk 71 #[pW w0,.int .i64 (i:Int)] (⟨#[119,104,105,108,101,32]⟩++E++⟨#[32]⟩++Y)
 |fr {X Y Z:ByteArray}{k q:Nat}:N.nm.length<=200->Hid (N.k=9)/\Z=⟨#[32,61,32]⟩/\(k=2\/k=3)\/Hid (N.k=10)/\Z=⟨#[32,105,110,32]⟩/\k=1->N.ks.length=k+1->N.ks[k]?=some (q:Int)->Hid (WX w0 vt t (N.ks.take k) X)->Hid (WB w0 vt t q Y)->Gc p1 n i ns N vn vk 71 #[pW w0,.int .i64 (i:Int)] (⟨#[102,111,114,32]⟩++ft N.nm++Z++X++⟨#[32]⟩++Y)
 |brk:Hid (N.k=11)->Gc p1 n i ns N vn vk 71 #[pW w0,.int .i64 (i:Int)] (⟨#[98,114,101,97,107]⟩)
 |nxt:Hid (N.k=12)->Gc p1 n i ns N vn vk 71 #[pW w0,.int .i64 (i:Int)] (⟨#[110,101,120,116]⟩)
 |ret0:Hid (N.k=13)->N.ks.length=0->Gc p1 n i ns N vn vk 71 #[pW w0,.int .i64 (i:Int)] (⟨#[114,101,116,117,114,110]⟩)
 |ret1 {X:ByteArray}:Hid (N.k=13)->0<N.ks.length->Hid (WX w0 vt t N.ks X)->Gc p1 n i ns N vn vk 71 #[pW w0,.int .i64 (i:Int)] (⟨#[114,101,116,117,114,110]⟩++(⟨#[32]⟩++X))
 |try_ {X Y:ByteArray}{q r:Nat}:N.nm.length<=200->Hid (N.k=14)->N.ks.length=2->N.ks[0]?=some (q:Int)->N.ks[1]?=some (r:Int)->Hid (WB w0 vt t q X)->Hid (WB w0 vt t r Y)->Gc p1 n i ns N vn vk 71 #[pW w0,.int .i64 (i:Int)] (⟨#[116,114,121,32]⟩++X++⟨#[32,99,97,116,99,104,32]⟩++ft N.nm++⟨#[32]⟩++Y)
 |thr {E:ByteArray}{q:Nat}:Hid (N.k=15)->N.ks.length=1->N.ks[0]?=some (q:Int)->Hid (WE w0 vt t q E)->Gc p1 n i ns N vn vk 71 #[pW w0,.int .i64 (i:Int)] (⟨#[116,104,114,111,119,32]⟩++E)
 |dfr {E:ByteArray}{q:Nat}:Hid (N.k=16)->N.ks.length=1->N.ks[0]?=some (q:Int)->Hid (WE w0 vt t q E)->Gc p1 n i ns N vn vk 71 #[pW w0,.int .i64 (i:Int)] (⟨#[100,101,102,101,114,32]⟩++E)
 |bod {Y Z:ByteArray}{q:Nat}:N.nm.length<=200->(N.op≠1/\Z=ByteArray.empty\/Hid (N.op=1)/\(N.nm.length=0/\Z=⟨#[46,46,46]⟩\/0<N.nm.length/\Z=⟨#[44,32]⟩++⟨#[46,46,46]⟩))->N.ks.length=1->N.ks[0]?=some (q:Int)->Hid (WB w0 vt t q Y)->Gc p1 n i ns N vn vk 114 #[pW w0,.int .i64 (i:Int)] (⟨#[40]⟩++ft N.nm++Z++⟨#[41,32]⟩++Y)
 |br2 {word E Y:ByteArray}{q r:Nat}:N.ks.length=2->N.ks[0]?=some (q:Int)->N.ks[1]?=some (r:Int)->Hid (WE w0 vt t q E)->Hid (WB w0 vt t r Y)->Gc p1 n i ns N vn vk 115 #[pW w0,jo N vn vk,.string word] (word++E++⟨#[32]⟩++Y)
end
theorem abg{g:A5}{k:Addr}{n q:Nat}{ns:List Nd}(L:gw g (O (Q k) n q) ns)(al:D5 g k ns)(ap:ns.length=n)(bD:n<=1048576){tab i:Nat}(bt:i<n){N:Nd}(bA:N.ks.length<=1048576){an t:Option Addr}{o cn m ck:Nat}(b:NdR g k i N an o cn t m ck){f:FuncId}{args:Array A9}{y:ByteArray}(ad:Gc g (O (Q k) n q) tab k n i ns N (O an o cn) (O t m ck) f args y):
  Wr g (O (Q k) n q) tab f args y:=by
 intro w a8 h u;have ao:=h.lt;obtain⟨z0,bf,bh⟩:=h.cells;have J:=b.hL;have K:=b.hM;have bn:=b.cap;have a:=aw (Bx.new h N (O an o cn) (O t m ck));obtain⟨av,a0,a1,a2,a3,a4,a5,a6,a7,_,_⟩:=b.rd a8 h.bel;have bw:(i:Int)<(n:Int):=by omega
 have bx:(0:Int)<=(i:Int):=by omega
 cases ad
 case' let1|ret1=>have ar:(0:Int)<(m:Int):=by omega
 case' let1 hX=>have s:=aw (hX _ b.ks)
 case' ret1 hX=>have s:=aw (hX _ b.ks)
 case' iff hX=>unfold jo at hX
 case' set c _ hm _ hX hZ=>
  obtain⟨p,rfl⟩:=b.ks.ptr;have s:=aw (hX (O (Q p) c ck) (b.ks.take c (by omega)));have bj:=aw (hZ (O (Q (p.add c)) (m-c) (ck-c)) (b.ks.drop c _ (by omega) (by omega)));have af:¬ck=0:=by omega
  have ag:(c:Int)<=(ck:Int):=by omega
  have bo:(c:Int)<=(m:Int):=by omega
  have br:¬ck=c:=by omega
  have bs:(0:Int)<=(c:Int):=by omega
 case' fr v _ _ e _ _ hX _=>
  obtain⟨p,rfl⟩:=b.ks.ptr;have s:=aw (hX (O (Q p) v ck) (b.ks.take v (by omega)));have af:¬ck=0:=by omega
  have ag:(v:Int)<=(ck:Int):=by omega
  clear hX;obtain⟨e,rfl,rfl|rfl⟩|⟨e,rfl,rfl⟩:=e
 case' bod e _ _ _=>
  obtain⟨e,rfl⟩|⟨e,⟨am,rfl⟩|⟨am,rfl⟩⟩:=e;all_goals first|have I:=kqs e.out|have I:(N.op==1)=U:=by simpa using e
  all_goals try have ar:(0:Int)<(o:Int):=by omega
 all_goals
  try simp only[ax]at u
  try (have l:=b.ks.ptr;obtain⟨p,rfl⟩:=l)
  try (have l:=b.nm.ptr;obtain⟨bE,rfl⟩:=l)
  try have bk:Hid (Wr g (O (Q k) n q) tab 111 #[pW g,O _ o cn] (ft N.nm)):=fun w x h u=>aec g _ _ N.nm w tab x h b.nm (by omega) u
  have d:=aw b;try have b0:=kqf (by with_reducible assumption:Hid (N.k=_)).out
  try have bl:=kqs (by with_reducible assumption:Hid (N.k=_)).out
  try (have l:=J.symm.trans (by with_reducible assumption:N.ks.length=_);subst l)
  try (have l:=K.symm.trans (by with_reducible assumption:N.nm.length=_);subst l)
  obtain⟨z,A,B,C,E,r,F,G,H⟩:=a.cells
  (try have a9:=a.kid0 d.ks (by with_reducible assumption))
  (try have bb:=a.kid d.ks (j:=1) (by with_reducible assumption) (by decide))
  (try have bd:=a.kid d.ks (j:=2) (by with_reducible assumption) (by decide))
  (try have be:=a.kid d.ks (j:=3) (by with_reducible assumption) (by decide))
  (try rw[(by with_reducible assumption:Hid (N.n=_)).out]at r)
  try have b1:=a.name0 d.nm (by with_reducible assumption)
  clear h b L al ap bh bf;try unfold jo
  go_in
  repeat (go_wp2_with fail;refine Bx.stp a (ah _ _) (by with_reducible first|exact aw (D4 _)|assumption) ao (by(try simp only[ax]);omega) ?_;intro x a;have a:=aw a;clear z A B C E r F G H;(try clear av a0 a1 a2 a3 a4 a5 a6 a7 z0);obtain⟨z,A,B,C,E,r,F,G,H⟩:=a.cells;(try have a9:=a.kid0 d.ks (by with_reducible assumption));(try have bb:=a.kid d.ks (j:=1) (by with_reducible assumption) (by decide));(try have bd:=a.kid d.ks (j:=2) (by with_reducible assumption) (by decide));(try have be:=a.kid d.ks (j:=3) (by with_reducible assumption) (by decide));(try rw[(by with_reducible assumption:Hid (N.n=_)).out]at r))
  go_wp2_with fail;first|go_end0|refine aI (ip rfl _ _ _) rfl ?_
  exact Bx.fin a (by simp only[fh,ByteArray.empty_append])
section
variable (w0 : World) (vt : Value) (t : Nat)
inductive ExO (n i:Nat) (ns:List Nd) (N:Nd) (vn vk:Value):FuncId->Array Value->ByteArray->Prop
 |par {Y:ByteArray}{least:Int}:jH N.k N.op<least->Hid (WE w0 vt t i Y)->ExO n i ns N vn vk 113 #[pW w0,.int .i64 (i:Int),.int .i64 least] (⟨#[40]⟩++Y++⟨#[41]⟩)
 |inf {S Y:ByteArray}{least:Int}:Hid (N.k=28)/\S=⟨#[32,97,110,100,32]⟩\/Hid (N.k=29)/\S=⟨#[32,111,114,32]⟩->¬jH N.k N.op<least->Hid (Wr w0 vt t 160 #[pW w0,jo N vn vk,.string S,.int .i64 (jH N.k N.op)] Y)->ExO n i ns N vn vk 113 #[pW w0,.int .i64 (i:Int),.int .i64 least] (Y)
 |nod {f:FuncId}{Y:ByteArray}{least:Int}:Hid (N.k=30)/\f=161\/Hid (N.k=35)/\f=163\/(20<=N.k/\N.k<=27)/\f=164->¬jH N.k N.op<least->Hid (Wr w0 vt t f #[pW w0,jo N vn vk] Y)->ExO n i ns N vn vk 113 #[pW w0,.int .i64 (i:Int),.int .i64 least] (Y)
 |idx {Y E:ByteArray}{q r:Nat}{least:Int}:Hid (N.k=32)->¬jH N.k N.op<least->N.ks.length=2->N.ks[0]?=some (q:Int)->N.ks[1]?=some (r:Int)->Hid (WA w0 vt t q Y)->Hid (WE w0 vt t r E)->ExO n i ns N vn vk 113 #[pW w0,.int .i64 (i:Int),.int .i64 least] (Y++⟨#[91]⟩++E++⟨#[93]⟩)
 |fld {Y:ByteArray}{q:Nat}{least:Int}:Hid (N.k=33)->¬jH N.k N.op<least->N.ks.length=1->N.ks[0]?=some (q:Int)->Hid (WA w0 vt t q Y)->ExO n i ns N vn vk 113 #[pW w0,.int .i64 (i:Int),.int .i64 least] (Y++(⟨#[46]⟩++N.x))
 |cal {Y X:ByteArray}{q:Nat}{least:Int}:Hid (N.k=34)->¬jH N.k N.op<least->0<N.ks.length->N.ks[0]?=some (q:Int)->Hid (WA w0 vt t q Y)->Hid (WX w0 vt t (N.ks.drop 1) X)->ExO n i ns N vn vk 113 #[pW w0,.int .i64 (i:Int),.int .i64 least] (Y++⟨#[40]⟩++X++⟨#[41]⟩)
 |fn {Y:ByteArray}{least:Int}:Hid (N.k=36)->¬jH N.k N.op<least->Hid (WD w0 vt t i Y)->ExO n i ns N vn vk 113 #[pW w0,.int .i64 (i:Int),.int .i64 least] (⟨#[102,110]⟩++Y)
 |one {E:ByteArray}{q:Nat}{least:Int}:Hid (N.k=37)->¬jH N.k N.op<least->N.ks.length=1->N.ks[0]?=some (q:Int)->Hid (WE w0 vt t q E)->ExO n i ns N vn vk 113 #[pW w0,.int .i64 (i:Int),.int .i64 least] (⟨#[40]⟩++E++⟨#[41]⟩)
 |un {A E:ByteArray}{q:Nat}:Hid (N.op=21)/\A=⟨#[110,111,116,32]⟩\/Hid (N.op=22)/\A=⟨#[35]⟩\/Hid (N.op=20)/\A=⟨#[126]⟩->N.ks.length=1->N.ks[0]?=some (q:Int)->Hid (Wr w0 vt t 113 #[pW w0,.int .i64 (q:Int),.int .i64 11] E)->ExO n i ns N vn vk 161 #[pW w0,jo N vn vk] (A++E)
end
theorem ahw{l:A5}{h:Addr}{n A:Nat}{ns:List Nd}(ag:gw l (O (Q h) n A) ns)(am:D5 l h ns)(av:ns.length=n)(bw:n<=1048576){tab i:Nat}(bo:i<n){N:Nd}(bt:N.ks.length<=1048576)(G:N.k=31->1<=N.op/\N.op<=18){an y:Option Addr}{x cn c ck:Nat}(d:NdR l h i N an x cn y c ck){f:FuncId}{args:Array A9}{F:ByteArray}(al:ExO l (O (Q h) n A) tab n i ns N (O an x cn) (O y c ck) f args F):
  Wr l (O (Q h) n A) tab f args F:=by
 intro bj be g ap;have ar:=g.lt;obtain⟨z0,bf,bh⟩:=g.cells;have af:=d.hL;have bk:=d.cap;have a:=aw (Bx.new g N (O an x cn) (O y c ck));obtain⟨a1,a2,a3,a4,a5,a6,a7,a8,a9,_,_⟩:=d.rd be g.bel;have br:(i:Int)<(n:Int):=by omega
 have bs:(0:Int)<=(i:Int):=by omega
 have E:=aw fun bd bb=>Bc N bd bb G;unfold jo at E;clear G;cases al
 case' inf b _ hX=>obtain⟨b,rfl⟩|⟨b,rfl⟩:=b
 case' nod b _ hX=>obtain⟨b,rfl⟩|⟨b,rfl⟩|⟨b,rfl⟩:=b
 case' un b _ _ _=>obtain⟨b,rfl⟩|⟨b,rfl⟩|⟨b,rfl⟩:=b
 case' cal B _ _ _ _ hX=>
  obtain⟨m,rfl⟩:=d.ks.ptr;have bn:(1:Int)<=(c:Int):=by omega
  have bl:1<=c:=by omega
  have bx:(0:Int)<(c:Int):=by omega
  by_cases ao:ck=1
  case' pos=>
   subst ao;obtain rfl:c=1:=by omega
   have J:=aw (hX (O (Q m) 0 0) (.inl ⟨by rw[List.drop_eq_nil_iff];omega,_,_,rfl⟩))
  case' neg=>have J:=aw (hX (O (Q ⟨m.block,m.off+1,R⟩) (c-1) (ck-1)) (d.ks.drop 1 _ (by omega) (by omega)))
 all_goals
  generalize a0:jH N.k N.op=bA at *;clear a0;try unfold jo at *
  try simp only[ax]at ap
  try (have C:=d.ks.ptr;obtain⟨m,rfl⟩:=C)
  have e:=aw d;first|have B:=kqf (by with_reducible assumption:Hid (N.k=_)).out;have ad:=kqs (by with_reducible assumption:Hid (N.k=_)).out|have B:=kqf (by with_reducible assumption:Hid (N.op=_)).out;have ad:=kqs (by with_reducible assumption:Hid (N.op=_)).out|have B:∀z:Int,28<=z->(N.k==z)=U:=fun z g=>by simp;omega|skip
  try (have C:=af.symm.trans (by with_reducible assumption:N.ks.length=_);subst C)
  obtain⟨o,p,q,r,s,t,u,v,w⟩:=a.cells
  (try have H:=a.kid0 e.ks (by with_reducible assumption))
  (try have I:=a.kid e.ks (j:=1) (by with_reducible assumption) (by decide))
  clear g d ag am av bh bf;go_in
  repeat (go_wp2_with fail;(first|(go_at_call 159;refine cJ (E _ _ _) fun K L=>?_;have a:=aw (a.below L);clear o p q r s t u v w;obtain⟨o,p,q,r,s,t,u,v,w⟩:=a.cells;(try have H:=a.kid0 e.ks (by with_reducible assumption));(try have I:=a.kid e.ks (j:=1) (by with_reducible assumption) (by decide)))|(refine Bx.stp a (ah _ _) (by with_reducible first|exact aw (D4 _)|assumption) ar (by(try simp only[ax]);omega) ?_;intro K a;have a:=aw a;clear o p q r s t u v w;(try clear a1 a2 a3 a4 a5 a6 a7 a8 a9 z0);obtain⟨o,p,q,r,s,t,u,v,w⟩:=a.cells;(try have H:=a.kid0 e.ks (by with_reducible assumption));(try have I:=a.kid e.ks (j:=1) (by with_reducible assumption) (by decide)))))
  go_wp2_with fail;first|go_end0|refine aI (ip rfl _ _ _) rfl ?_
  exact Bx.fin a (by simp only[fh,ByteArray.empty_append])
section
variable (w0 : World) (vt : Value) (t : Nat)
inductive BrO (p1:Addr) (n i:Nat) (ns:List Nd) (N:Nd) (vn vk:Value):FuncId->Array Value->ByteArray->Prop
 |br3 {word E Y Z:ByteArray}{q r c:Nat}:N.ks.length=3->N.ks[0]?=some (q:Int)->N.ks[1]?=some (r:Int)->N.ks[2]?=some (c:Int)->Hid (WE w0 vt t q E)->Hid (WB w0 vt t r Y)->c<n/\(nodeI ns c).k≠7->Hid (WB w0 vt t c Z)->BrO p1 n i ns N vn vk 115 #[pW w0,jo N vn vk,.string word] (word++E++⟨#[32]⟩++Y++⟨#[32,101,108,115,101,32]⟩++Z)
 |bre {word E Y Z:ByteArray}{q r c:Nat}:N.ks.length=3->N.ks[0]?=some (q:Int)->N.ks[1]?=some (r:Int)->N.ks[2]?=some (c:Int)->Hid (WE w0 vt t q E)->Hid (WB w0 vt t r Y)->c<n/\(nodeI ns c).k=7->Hid (∀an M cn ak L ck,NdR w0 p1 c (nodeI ns c) an M cn ak L ck->Wr w0 vt t 115 #[pW w0,jo (nodeI ns c) (.slice an M cn) (.slice ak L ck),.string ⟨#[32,101,108,105,102,32]⟩] Z)->BrO p1 n i ns N vn vk 115 #[pW w0,jo N vn vk,.string word] (word++E++⟨#[32]⟩++Y++Z)
 |neg {A E:ByteArray}{c:Nat}:N.ks.length=1->N.ks[0]?=some (c:Int)->Hid (N.op=19)->c<n/\((nodeI ns c).k=30/\((nodeI ns c).op=19/\A=⟨#[45]⟩++⟨#[32]⟩\/(nodeI ns c).op≠19/\A=⟨#[45]⟩)\/(nodeI ns c).k≠30/\A=⟨#[45]⟩)->Hid (Wr w0 vt t 113 #[pW w0,.int .i64 (c:Int),.int .i64 11] E)->BrO p1 n i ns N vn vk 161 #[pW w0,jo N vn vk] (A++E)
end
theorem Ec{c:Addr}{o:Nat}{ns:List Nd}(x:gw w0 (O (Q c) n o) ns)(y:D5 w0 c ns)(bj:ns.length=n)(bt:n<=1048576){tab:Nat}{cn ck:Nat}(l:NdR w0 c i N an M cn ak L ck){f:FuncId}{args:Array A9}{a5:ByteArray}(bf:BrO w0 (O (Q c) n o) tab c n i ns N (O an M cn) (O ak L ck) f args a5):
  Wr w0 (O (Q c) n o) tab f args a5:=by
 intro bl a7 a1 bh;have a6:=a1.lt;have be:=l.hL;have bo:=l.cap;have a:=aw (Bx.new a1 N (O an M cn) (O ak L ck));cases bf
 case' br3 b _ _ _ _ _ _ g hX=>
  obtain⟨u,s,w,t,r,v,m⟩:=zn x y (show b<ns.length by omega);obtain⟨g,p⟩:=g;have a0:((nodeI ns b).k==7)=U:=by simpa using p
  clear p
 case' bre b _ _ _ _ _ _ g hX=>
  obtain⟨u,s,w,t,r,v,m⟩:=zn x y (show b<ns.length by omega);obtain⟨g,p⟩:=g;have a0:=kqs p;clear p;have a9:=aw (hX _ _ _ _ _ _ m);unfold jo at a9;clear hX
 case' neg b _ _ ho g hX=>
  obtain⟨u,s,w,t,r,v,m⟩:=zn x y (show b<ns.length by omega);have bn:=kqf ho.out;obtain⟨g,⟨z,⟨A,rfl⟩|⟨A,rfl⟩⟩|⟨z,rfl⟩⟩:=g;all_goals first|have a0:=kqs z|have a0:((nodeI ns b).k==30)=U:=by simpa using z
  all_goals first|have bd:=kqs A|have bd:((nodeI ns b).op==19)=U:=by simpa using A|skip
  all_goals clear z;try clear A
 all_goals
  try simp only[ax]at bh
  have bs:(b:Int)<(n:Int):=by omega
  have br:(0:Int)<=(b:Int):=by omega
  generalize nodeI ns b=a4 at *;have av:=aw m;obtain⟨q,rfl⟩:=l.ks.ptr;have d:=aw l;have bk:=be.symm.trans (by with_reducible assumption:N.ks.length=_);subst bk;obtain⟨ad,af,ag,al,am,ao,ap,ar,h⟩:=a.cells;have a2:=a.kid0 d.ks (by with_reducible assumption)
  (try have a8:=a.kid d.ks (j:=1) (by with_reducible assumption) (by decide))
  (try have a3:=a.kid d.ks (j:=2) (by with_reducible assumption) (by decide))
  obtain⟨B,C,E,F,G,H,I,J,K,_,_⟩:=av.rd _ a.pr.bel;have z0:=a.pr.cells.1;clear a1 l m x y bj;unfold jo;go_in
  repeat (go_wp2_with fail;refine Bx.stp a (by first|exact ah _ _|exact dJ (bG _ _)) (by with_reducible first|exact aw (D4 _)|assumption) a6 (by(try simp only[ax]);omega) ?_;intro bb a;have a:=aw a;clear ad af ag al am ao ap ar h;obtain⟨ad,af,ag,al,am,ao,ap,ar,h⟩:=a.cells;have a2:=a.kid0 d.ks (by with_reducible assumption);(try have a8:=a.kid d.ks (j:=1) (by with_reducible assumption) (by decide));(try have a3:=a.kid d.ks (j:=2) (by with_reducible assumption) (by decide));obtain⟨B,C,E,F,G,H,I,J,K,_,_⟩:=av.rd _ a.pr.bel;have z0:=a.pr.cells.1)
  go_wp2_with fail;first|go_region_held3 (fun e=>e.cell? ⟨w0.heap.size,0,R⟩=Q (O (Q c) n o)/\e.cell? ⟨a7.heap.size,8,R⟩=Q (O (Q q) 1 ck)/\e.cell? q=Q (A0 A2 (b:Int))/\NdC e (c.add (b*9)) a4 (O u s w) (O t r v)) (first|exact⟨z0,h,a2,B,C,E,F,G,H,I,J,K⟩|((repeat' refine And.intro ?_ ?_)<;>go_keep)) (fail)|go_region_held3 (fun e=>e.cell? ⟨w0.heap.size,0,R⟩=Q (O (Q c) n o)/\e.cell? ⟨a7.heap.size,8,R⟩=Q (O (Q q) 3 ck)/\e.cell? ⟨q.block,q.off+2,R⟩=Q (A0 A2 (b:Int))/\NdC e (c.add (b*9)) a4 (O u s w) (O t r v)) (first|exact⟨z0,h,a3,B,C,E,F,G,H,I,J,K⟩|((repeat' refine And.intro ?_ ?_)<;>go_keep)) (fail)
  repeat (go_wp2_with fail;refine Bx.stp a (by first|exact ah _ _|exact dJ (bG _ _)) (by with_reducible first|exact aw (D4 _)|assumption) a6 (by(try simp only[ax]);omega) ?_;intro bb a;have a:=aw a;clear ad af ag al am ao ap ar h;obtain⟨ad,af,ag,al,am,ao,ap,ar,h⟩:=a.cells;have a2:=a.kid0 d.ks (by with_reducible assumption);(try have a8:=a.kid d.ks (j:=1) (by with_reducible assumption) (by decide));(try have a3:=a.kid d.ks (j:=2) (by with_reducible assumption) (by decide));obtain⟨B,C,E,F,G,H,I,J,K,_,_⟩:=av.rd _ a.pr.bel;have z0:=a.pr.cells.1)
  go_wp2_with fail;first|go_end0|refine aI (ip rfl _ _ _) rfl ?_
  exact Bx.fin a (by simp only[fh])
def ahx(ns:List Nd)(B:Nat)(a:List Int):Prop:=∀b∈a,∃k:Nat,b=(k:Int)/\k<B/\k<ns.length/\gF (nodeI ns k).k=V
theorem aeG(c:A5)(p v:A9)(ns:List Nd)(d:Int->ByteArray)(t:Int)(B:Nat)(ad:OkE c p ns d t B)(f:List Int)(z:dm c v f)(L:ahx ns B f)(a0:f.length<=1048576)(T:ByteArray)(w:A5)(h:Pr c p T t w)(ar:T.size+(ft (f.map d)).size<=140737488355328):
  Br Ax 112 #[.pointer (Q ⟨c.heap.size,0,R⟩),v] w fun e an=>e= .returned (.tuple #[])/\Pr c p (T++ft (f.map d)) t an/\Kq c.heap.size w an:=by
 have n:=CB h z L ad;obtain⟨a3,a4,rfl⟩:=z.form;clear h z L ad;obtain⟨o,y⟩:=aA f.length;rw[y]at a0 n⊢;have G:=aw y;clear y;obtain⟨b,u⟩:=aA (f.map d);rw[u]at ar⊢;have F:Hid (f.map d=b/\b.length=o):=⟨u,by rw[<-u,cA];exact G⟩;clear u;go_in;go_wp2_with fail;go_loopw [8] (fun A wr=>∃a:Nat,a<=o/\A= A0 A2 a/\Hid (Pr c p (T++ft (b.take a)) t wr/\Kq c.heap.size w wr)) (fun A _=>o-(intOf A).toNat)
 case atStart=>exact⟨0,by omega,rfl,by rw[show T++ft (b.take 0)=T from ByteArray.append_empty];exact n.1,Kq.refl _ _⟩
 case round=>
  obtain⟨a,a6,rfl,g⟩:=hrel;by_cases av:a<o
  ·obtain⟨a2,x⟩:=co G.out av;obtain⟨k,rfl,af,a1,ag⟩:=n.2.2.1 a2 (cG x);obtain⟨ao,rfl,ap⟩:=(n.2.1.below g.1.bel).get x;have a8:(a:Int)<(o:Int):=by omega
   have a7:(0:Int)<=(a:Int):=by omega
   have ak:b[a]?=Q (d k):=by rw[<-F.out.1,bK,x];rfl
   have J:=pF b a (d k) ak;have K:=Cq b (a+1);have m:=dC J K;have s:=dC af ag;clear J K x ak af a1 ag;by_cases I:a=0
   ·subst I;have i:ft (b.take (0+1))=ft (b.take 0)++d k:=by rw[m.out.1,ab rfl]
    have j:=m.2;rw[i,ax]at j;have l:=dC i j;clear i j m;have a5:wr.cell? ao=Q (A0 A2 (k:Int)):=by simpa [Addr.add] using ap
    go_wp2_with fail;refine(n.2.2.2.zero k _ _ s.1 s.2 g.1 (by have:=l.2;rw[ax];omega)).mono ?_;rintro e C ⟨rfl,p2,r⟩;have q:=dC p2 r;clear p2 r;go_wp2_with fail;refine⟨⟨1,by omega,by go_num,?_,g.2.trans q.2⟩,by simp[intOf];omega⟩;rw[show(1:Nat)=0+1 from rfl,l.out.1,<-fh];exact q.1
   ·have i:ft (b.take (a+1))=ft (b.take a)++js++d k:=by rw[m.out.1,aa I]
    have j:=m.2;rw[i,ax,ax]at j;have H:js.size=2:=rfl;have l:=iF i j H;clear i j H m;have a9:(0:Int)<(a:Int):=by omega
    go_wp2_with fail;refine(ga c p _ _ _ _ g.1 (by have:=l.2;rw[ax];show _+js.size<=_;omega)).mono ?_;rintro e C ⟨rfl,p2,r⟩;have q:Hid (Pr c p (T++ft (b.take a)++js) t C/\Kq c.heap.size wr C):=⟨p2,r⟩;clear p2 r;go_wp2_with fail;refine(n.2.2.2.zero k _ _ s.1 s.2 q.1 (by have:=l.2;rw[ax,ax];omega)).mono ?_;rintro e bb ⟨rfl,am,al⟩;have E:=dC am al;clear am al;go_wp2_with fail;refine⟨⟨a+1,by omega,by go_num,?_,(g.2.trans q.2).trans E.2⟩,by simp[intOf];omega⟩;rw[l.out.1,<-fh,<-fh];exact E.1
  ·obtain rfl:a=o:=by omega
   go_wp2_with fail;go_end0
   refine⟨rfl,?_,g.2⟩;have:=g.1
   rwa [dj (by rw[F.out.2];exact ae _)]at this
