import Derived.Test.YtkfgnpcanadjhaaGreatDoorHSk27
set_option linter.all false
set_option maxRecDepth 100000
set_option maxHeartbeats 6400000
namespace Go.Proofs.YtkfgnpcanadjhaaGreatDoor
open Go.RowKit Go.Maps Go.WideMaps
section
variable {tk : Nat → Tk} {n : Nat}
theorem acJ{t:Int}{i j:Nat}(ht:(tk i).k=t)(h:i<n):∀(f:Nat)(st:List Int)(c:Nat)(b r:List Int)(m d:Nat),iF f st t c=some (b,some true,d)->D tk n m (b++r) (i+1) j->∃l,D tk n l (st++r) i j
 |0,_,_,_,_,_,_,a,_=>by simp[iF]at a
 |f+1,[],_,_,_,_,_,a,_=>by simp[iF]at a
 |f+1,s::q,c,b,r,m,d,a,p=>by
  by_cases o:s<100
  ·obtain⟨rfl,e,_⟩:=qh a o
   have e:decide (s=t)=true:=by simpa using e.symm
   exact⟨m+1,.tok o (by rw[ht];exact(bi e).symm) h p⟩
  ·rcases jq a (by omega) with⟨v,g⟩|⟨_,_,g,_⟩
   ·obtain⟨l,u⟩:=acJ ht h f _ _ b r m d g p
    exact⟨l+1,.exp (r:=q++r) (by omega) h (by rw[ht];exact v) (by rw[ht,<-cG];exact u)⟩
   ·simp at g
theorem Hk{t:Int}{i j m:Nat}(ht:(tk i).k=t)(c:i<n):∀(st:List Int),(dF st t).2=true->D tk n m (dF st t).1 (i+1) j->∃g,D tk n g st i j
 |[],a,_=>by simp[dF]at a
 |s::r,a,b=>by
  by_cases f:s<100
  ·rw[ob f]at a b
   exact⟨m+1,.tok f (by rw[ht];exact(bi a).symm) c b⟩
  ·by_cases e:(xE s t).1=[]/\(xE s t).2=true
   ·rw[re (by omega) e]at a b
    obtain⟨g,d⟩:=Hk ht c r a b
    exact⟨g+1,.exp (by omega) c (by rw[ht];exact e.2) (by rw[ht,e.1];exact d)⟩
   ·rw[dF,aa f,aa e]at a b
    split at a
    ·rename_i q l o h
     have p:l=true:=a
     subst p
     rw[h]at b
     exact acJ ht c 8 [s] 0 q r m o h b
    ·simp at a
theorem ajh:∀(f:List Tk)(st g:List Int)(i m j:Nat),Fd st f g->(∀q T,f[q]?=some T->tk (i+q)=T)->i+f.length<=n->D tk n m g (i+f.length) j->∃l,D tk n l st i j
 |[],st,g,i,m,j,k,_,_,h=>by cases k;exact⟨m,h⟩
 |T::f,st,g,i,m,j,k,ht,s,h=>by
  cases k with
  |cons a b c d e=>
   rw[co]at s h
   obtain⟨l,p⟩:=ajh f _ g (i+1) m j e (fun q o r=>by rw[show i+1+q=i+(q+1) by omega];exact ht (q+1) o (by simpa using r)) (by omega) (by rw[show i+1+f.length=i+(f.length+1) by omega];exact h)
   exact Hk (by rw[show tk i=T from ht 0 T rfl]) (by omega) st d p
end
def No6(st:List Int):Prop:=∀a∈st,a≠6/\a<=133
theorem afj:((List.range 34).all fun s=>(List.range 78).all fun t=>(xE ((s:Int)+100) ((t:Int)+1)).1.all fun x=>decide (x≠6)||!(xE ((s:Int)+100) ((t:Int)+1)).2)=true:=by decide+kernel
theorem ahH{s t:Int}(i:100<=s)(j:s<=133)(k:1<=t)(l:t<=78)(h:(xE s t).2=true):No6 (xE s t).1:=by
 have e:=List.all_eq_true.1 afj (s-100).toNat (by rw[wG];omega)
 have a:=List.all_eq_true.1 e (t-1).toNat (by rw[wG];omega)
 have f:(((s-100).toNat:Nat):Int)+100=s:=by omega
 have g:(((t-1).toNat:Nat):Int)+1=t:=by omega
 rw[f,g]at a
 refine fun d c=>⟨?_,(Hw i j k l).1 d c⟩
 have b:=List.all_eq_true.1 a d c
 rw[h]at b
 simpa using b
theorem Fv{t:Int}(k:1<=t)(l:t<=78):∀(f:Nat)(st:List Int)(c:Nat)(b:List Int)(e:Nat),No6 st->iF f st t c=some (b,some true,e)->No6 b/\t≠6
 |0,_,_,_,_,_,a=>by simp[iF]at a
 |f+1,[],_,_,_,_,a=>by simp[iF]at a
 |f+1,s::q,c,b,e,i,a=>by
  have j:No6 q:=fun d hx=>i d (ep _ hx)
  have o:=i s (da ..)
  by_cases m:s<100
  ·obtain⟨rfl,g,_⟩:=qh a m
   have g:decide (s=t)=true:=by simpa using g.symm
   have:=bi g
   exact⟨j,by omega⟩
  ·rcases jq a (by omega) with⟨n,h⟩|⟨_,_,h,_⟩
   ·refine Fv k l f _ _ b e (fun d hx=>?_) h
    rcases List.mem_append.1 hx with hx|hx
    ·exact ahH (by omega) o.2 k l n d hx
    ·exact j d hx
   ·simp at h
theorem acK{t:Int}(f:1<=t)(g:t<=78):∀(a:List Int),No6 a->(dF (a++[6]) t).2=true->(t=6/\(dF (a++[6]) t).1=[])\/(t≠6/\∃b,(dF (a++[6]) t).1=b++[6]/\No6 b)
 |[],_,c=>by
  rw[er,ob (by omega)]at c⊢
  exact .inl ⟨(bi c).symm,rfl⟩
 |s::a,i,c=>by
  have e:No6 a:=fun d hx=>i d (ep _ hx)
  have j:=i s (da ..)
  rw[fl]at c⊢
  by_cases o:s<100
  ·rw[ob o]at c⊢
   have:=bi c
   exact .inr ⟨by omega,a,rfl,e⟩
  ·by_cases hx:(xE s t).1=[]/\(xE s t).2=true
   ·rw[re (by omega) hx]at c⊢
    exact acK f g a e c
   ·obtain⟨k,b,l,h,_⟩:=B9 (by omega) j.2 f g hx
    rw[rf (by omega) hx h]at c⊢
    have p:b=true:=c
    subst p
    obtain⟨m,n⟩:=Fv f g 8 [s] 0 k l (fun d hx=>by rw[List.mem_singleton.1 hx];exact j) h
    refine .inr ⟨n,k++a,by rw[cG],fun d hx=>?_⟩
    rcases List.mem_append.1 hx with hx|hx
    ·exact m d hx
    ·exact e d hx
theorem acL:∀(g:List Tk)(a:List Int)(c:List Int),No6 a->Fd (a++[6]) g c->∃b,c=b++[6]/\No6 b
 |[],a,c,f,d=>by cases d;exact⟨a,rfl,f⟩
 |T::g,a,c,f,d=>by
  cases d with
  |cons i j k l h=>
   rcases acK i j a f l with⟨e,_⟩|⟨_,b,e,m⟩
   ·exact absurd e k
   ·rw[e]at h
    exact acL g b c m h
theorem ahI{s:ByteArray}{toks:List Tk}{st:List Int}(B:js s=(toks,st, -1))(h:(dF st 6).2=true):∃(m:Nat) (R:Fo) (e:Int),toks.length=m+1/\rE toks m=⟨6,(s.size:Nat),(s.size:Nat),e,0,⟨#[]⟩⟩/\P (rE toks) (m+1) .stats 0 R m/\∀q,q<m->(rE toks q).k≠6:=by
 obtain⟨a,e,c,f⟩:=yL s _ _ _ _ _ toks st B
 rw[er]at c
 have L:No6 [100]:=fun an I=>by rw[List.mem_singleton.1 I];omega
 obtain⟨r,A,F⟩:=acL a [100] st L f
 have G:toks.length=a.length+1:=by rw[c];simp
 have l:rE toks a.length=⟨6,(s.size:Nat),(s.size:Nat),e,0,⟨#[]⟩⟩:=GC (by rw[c,gq (ah _),fw];rfl)
 have C:(dF st 6).1=[]:=by
  rw[A]at h⊢
  rcases acK (by omega) (by omega) r F h with⟨_,g⟩|⟨g,_⟩
  ·exact g
  ·exact absurd rfl g
 have p:∀q b,a[q]?=some b->rE toks q=b:=fun q b d=>GC (by rw[c,gL (List.getElem?_eq_some_iff.1 d).1];exact d)
 have o:∀i,(rE toks i).k<100/\(i<a.length->(rE toks i).k≠6):=fun i=>by
  rcases Nat.lt_trichotomy i a.length with g|g|g
  ·rw[p i _ (aF g)]
   have:=afG f (xg g)
   exact⟨by omega,fun _=>this.2.2⟩
  ·rw[g,l];exact⟨by simp,fun g=>by omega⟩
  ·unfold rE;rw[aL,iC (by omega)];exact⟨by simp[zTk],fun g=>by omega⟩
 obtain⟨J,u⟩:=Hk (tk:=rE toks) (n:=a.length+1) (t:=6) (i:=a.length) (j:=a.length+1) (m:=0) (by rw[l]) (by omega) st h (by rw[C];exact .nil)
 obtain⟨ak,v⟩:=ajh (tk:=rE toks) (n:=a.length+1) a _ st 0 J _ f (fun q b d=>by rw[qG];exact p q b d) (by omega) (by rw[qG];exact u)
 obtain⟨K,al,k,w,x,_⟩:=D.split v [100] [6] rfl
 obtain⟨z,ad,am,y,_⟩:=x.toks
 have af:=y.nils
 obtain rfl:k=a.length:=by omega
 obtain⟨R,E⟩:=(aeC (n:=a.length+1) (fun i=>(o i).1) K).stats w (Nat.lt_succ_self _) (.inr z)
 exact⟨a.length,R,e,G,l,E,fun q H=>(o q).2 H⟩
theorem aji{s:ByteArray}(h:s.size<=65536){toks:List Tk}{st:List Int}(b:js s=(toks,st, -1))(g:(dF st 6).2=true):∃m R a,PF s toks m R a:=by
 obtain⟨m,R,a,c,d,e,f⟩:=ahI b g
 exact⟨m,R,a,aiw h b c d e f⟩
theorem xB(s:ByteArray):∀(f:Nat)(st:List Int)(p:Nat)(l:Int)(c:List Tk),¬0<=(tF s f st p l c).2.2->(tF s f st p l c).2.2= -1
 |0,st,p,l,c,a=>by simp[tF]at a
 |f+1,st,p,l,c,a=>by
  rw[tF]at a⊢
  split
  ·rfl
  ·rename_i g
   rw[aa g]at a
   split
   ·rename_i d
    rw[ab d]at a
    split
    ·rename_i b
     rw[ab b]at a
     exact xB s f _ _ _ _ a
    ·rename_i b
     rw[aa b]at a
     exact xB s f _ _ _ _ a
   ·rename_i d
    rw[aa d]at a
    split
    ·rename_i b
     rw[ab b]at a
     split
     ·rename_i e
      rw[ab e]at a
      exact xB s f _ _ _ _ a
     ·rename_i e
      rw[aa e]at a
      exact absurd (by simp) a
    ·rename_i b
     rw[aa b]at a
     exact absurd (by simp) a
theorem ac0(s:ByteArray)(a:¬0<=(js s).2.2):(js s).2.2= -1:=xB s _ _ _ _ _ a
theorem ahJ(s:ByteArray):∃c a k,Out s c a k:=by
 by_cases j:65536<s.size
 ·exact⟨_,_,_,.big j⟩
 by_cases b:0<=(js s).2.2
 ·exact⟨_,_,_,.at_ (by omega) b (by unfold kJ;rw[ab b])⟩
 by_cases e:(dF (js s).2.1 6).2=true
 ·obtain⟨⟨i,m,l⟩,d⟩:∃g,js s=g:=⟨_,rfl⟩
  rw[d]at b e
  have f:=ac0 s (by rw[d];exact b)
  rw[d]at f
  simp only at f b e
  subst f
  obtain⟨o,g,n,h⟩:=aji (by omega) d e
  exact⟨_,_,_,.ok (toks:=i) (by omega) (by unfold kJ;rw[d,aa (by simp),ab e]) h⟩
 ·exact⟨_,_,_,.at_ (z:=(s.size:Nat)) (by omega) (by omega) (by unfold kJ;rw[aa b,aa e])⟩
def Aq(op:Int):ByteArray:=if op=19 then⟨#[45]⟩ else if op=20 then⟨#[126]⟩ else if op=22 then⟨#[35]⟩ else⟨#[110,111,116,32]⟩
theorem zE(op:Int)(w:World):Calls Tryz.prog 142 #[.int .i64 op] w fun e d=>e= .returned (.string (Aq op))/\Below w.heap.size w d:=by
 unfold Aq
 by_cases a:op=19
 ·rw[ab a]
  subst a
  go_enter Tryz.func142,Tryz.ntmps142
  go_wp2
  go_ret
  exact⟨rfl,ag _ _⟩
 rw[aa a]
 have f:(op==19)=false:=by simpa using a
 by_cases b:op=20
 ·rw[ab b]
  subst b
  go_enter Tryz.func142,Tryz.ntmps142
  go_wp2
  go_ret
  exact⟨rfl,ag _ _⟩
 rw[aa b]
 have g:(op==20)=false:=by simpa using b
 by_cases c:op=22
 ·rw[ab c]
  subst c
  go_enter Tryz.func142,Tryz.ntmps142
  go_wp2
  go_ret
  exact⟨rfl,ag _ _⟩
 rw[aa c]
 have h:(op==22)=false:=by simpa using c
 clear a b c
 go_enter Tryz.func142,Tryz.ntmps142
 go_wp2
 go_ret
 exact⟨rfl,ag _ _⟩
theorem K7(j:World)(a:List Nd)(L:List Im)(base:Nat)(A:Value)(t:Tp j a L base A)(i:Nat)(u:i<a.length)(w:World)(n:Below j.heap.size j w):
  Calls Tryz.prog 143 #[nV (jo L i)] w fun e c=>e= .returned (.bool (C1 (ae a i)))/\Below w.heap.size w c:=by
 obtain⟨g,J,E,H,F,h,d⟩:=rx t u
 have q:=fun w=>de g w
 have f:=fun w=>mq (dL (ae a i).k) g w
 have r:=(d.cells n).1
 rw[h]
 unfold C1
 by_cases b:(ae a i).k=30
 ·have o:dL (ae a i).k=4:=by rw[b];rfl
  have B:=(d.cells n).2.2 _ (by rw[o];rfl)
  rw[o]at f⊢
  simp only[jd]at f⊢
  have G:=fun w=>ahw g w
  have s:Hid ((ae a i).k=30):=b
  rw[b]at r
  generalize p:(ae a i).op=z at B
  have C:Hid ((ae a i).op=z):=p
  clear p b d h
  go_enter Tryz.func143,Tryz.ntmps143
  go_wp2_with (go_at_call 307;refine(q _).mono ?_;rintro e c ⟨rfl,x⟩;subst c)
  go_ret
  exact⟨by rw[s.out];rfl,ag _ _⟩
 ·have m:((ae a i).k==30)=false:=by simpa using b
  have l:Hid (((ae a i).k==30)=false):=m
  generalize v:(ae a i).k=y at r m f l
  generalize jd (dL y)=I at f⊢
  clear b d h v
  go_enter Tryz.func143,Tryz.ntmps143
  go_wp2_with (go_at_call 307;refine(q _).mono ?_;rintro e c ⟨rfl,x⟩;subst c)
  go_ret
  exact⟨by rw[l.out];rfl,ag _ _⟩
theorem ac1(a:World)(f:Nat)(b:List Nd)(L:List Im)(base:Nat)(bs:Value)(bk:Tp a b L base bs)(bx:oF a)(t:Nat)(i:Nat)(b5:i<b.length)(bD:(ae b i).k=30)(bE:∀j:Nat,j<b.length->(ae b j).k=31->1<=(ae b j).op/\(ae b j).op<=18)
  (e:Nat) (bb:(ae b i).ks[0]?=some (e:Int)) (bo:e<b.length) (l:ByteArray) (bA:zH a f L t (e:Int) l):
  Pw a f 73 #[vP f,fJ a t,nV (jo L i)] (Aq (ae b i).op++(if(decide ((ae b i).op=19)&&C1 (ae b e))=true then⟨#[32]⟩ else ByteArray.empty)++(if fE (ae b e).k=true then ft l else l)):=by
 intro q h bl
 have a1:Hid (∀d,Below a.heap.size a d->Calls Tryz.prog 139 #[nV (jo L (e:Int))] d fun g a5=>g= .returned (.tuple #[.agg #[.int .i64 (iJ (ae b e)),.int .i64 (jD (ae b e)),.int .i64 (gK (ae b e))],.bool (fE (ae b e).k)])/\Below d.heap.size d a5):=fun d an=>nC a b L base bs bk bx e bo (bE e bo) d an
 have a6:Hid (∀d,Below a.heap.size a d->Calls Tryz.prog 143 #[nV (jo L (e:Int))] d fun g a5=>g= .returned (.bool (C1 (ae b e)))/\Below d.heap.size d a5):=fun d an=>K7 a b L base bs bk e bo d an
 have a7:Hid (∀d:World,Calls Tryz.prog 142 #[.int .i64 (ae b i).op] d fun g a5=>g= .returned (.string (Aq (ae b i).op))/\Below d.heap.size d a5):=fun d=>zE _ d
 have a2:Hid (Pw a f 140 #[vP f,fJ a t,nV (jo L (e:Int)),.bool (fE (ae b e).k)] (if fE (ae b e).k=true then ft l else l)):=nA a f t _ l _ bA
 have a8:Hid (Pw a f 306 #[kF a t,.string (Aq (ae b i).op)] (Aq (ae b i).op)):=iw a f t _ (by unfold Aq;split;decide;split;decide;split;decide;decide)
 have b3:Hid (Pw a f 306 #[kF a t,.string ⟨#[32]⟩] ⟨#[32]⟩):=iw a f t _ (by decide)
 obtain⟨C,cg,b8,av,a9,b0,ap⟩:=rx bk b5
 have cd:=fun h=>mj a.heap.size (ek t) h
 have ce:=fun h=>sw a.heap.size (ek t) h
 have bn:dL (ae b i).k=4:=by rw[bD];rfl
 obtain⟨J,rfl,b4,_⟩:=ap.ks.get bb
 have cb:(0:Int)<(av:Int):=by have:=nI bb;have:=ap.hn;omega
 have cc:0<av:=by omega
 obtain⟨bc,br⟩:∃b6,nV (jo L (e:Int))=b6:=⟨_,rfl⟩
 have o:Hid (∀d,Below a.heap.size a d->d.cell? ⟨C,5,none⟩=some (.slice (some J) av a9)/\d.cell? J=some bc/\d.cell? ⟨C,6,none⟩=some (.int .i64 (ae b i).op)):=fun d an=>⟨(ap.cells an).2.1,by rw[<-br];obtain⟨_,g,_,b7⟩:=(ap.ks.below an).get bb;cases g;simpa [Addr.add] using b7,(ap.cells an).2.2 _ (by rw[bn];rfl)⟩
 rw[br]at a1 a6 a2
 rw[b0,bn]
 simp only[jd]
 have ca:=fun h=>ahw C h
 have r:Hid (Ps a f q h/\Kq a.heap.size h h):=⟨bl,Kq.refl _ _⟩
 obtain⟨E,G,F⟩:=o.out _ bl.pg.bel
 obtain⟨af,bv⟩:∃bd,fE (ae b e).k=bd:=⟨_,rfl⟩
 obtain⟨bt,bw⟩:∃bd,C1 (ae b e)=bd:=⟨_,rfl⟩
 rw[bv]at a1 a2⊢
 rw[bw]at a6⊢
 generalize iJ (ae b e)=z at *
 generalize jD (ae b e)=A at *
 generalize gK (ae b e)=B at *
 obtain⟨p,bF⟩:∃p,Aq (ae b i).op=p:=⟨_,rfl⟩
 rw[bF]at a7 a8⊢
 generalize (ae b i).op=op at *
 unfold fJ kF at *
 generalize ek t=cf at *
 clear bl ap b0 bE bb bA b4 bx bD bn br bv bw bF
 obtain⟨a3,am⟩:∃a3,p++(if(decide (op=19)&&bt)=true then(⟨#[32]⟩:ByteArray) else ByteArray.empty)++(if af=true then ft l else l)=a3:=⟨_,rfl⟩
 rw[am]
 by_cases ba:op=19
 ·subst ba
  cases bt with
  |true=>
   have a0:Hid (a3=p++⟨#[32]⟩++(if af=true then ft l else l)):=by show _=_;rw[<-am];rfl
   clear am
   go_enter Tryz.func73,Tryz.ntmps73
   go_wp2_with fail
   go_region_held3 (fun v=>v.cell? ⟨C,5,none⟩=some (.slice (some J) av a9)/\v.cell? J=some bc/\v.cell? ⟨C,6,none⟩=some (.int .i64 19)) (first|exact o.out _ (r.out.1.below (aq (ag _ _))).pg.bel|exact o.out _ ((r.out.1.below (aq (ag _ _))).below y).pg.bel|exact o.out _ c.pg.bel|go_keep) (first|(go_at_call 142;refine(a7.out _).mono ?_;rintro g b2 ⟨rfl,y⟩)|(go_at_call 306;refine(a8.out _ _ ((r.out.1.below (aq (ag _ _))).below y)).mono ?_;rintro g K ⟨rfl,c,m⟩))
   all_goals
    have s:Hid (Ps a f (q++p) K/\Kq a.heap.size h K):=⟨c,((r.out.2.trans (Kq.of_below (aq (ag _ _)))).trans (Kq.of_below y)).trans m⟩
    obtain⟨E,G,F⟩:=o.out _ c.pg.bel
    clear c m
    go_wp2_with (go_at_call 143;fail)
    refine(a6.out _ s.out.1.pg.bel).mono ?_
    rintro g a4 ⟨rfl,ao⟩
    have H:Hid (Ps a f (q++p) a4/\Kq a.heap.size h a4):=⟨s.out.1.below ao,s.out.2.trans (Kq.of_below ao)⟩
    obtain⟨E,G,F⟩:=o.out _ H.out.1.pg.bel
    clear ao
    go_wp2_with (go_at_call 306;fail)
    refine(b3.out _ _ H.out.1).mono ?_
    rintro g b1 ⟨rfl,c,m⟩
    have bf:Hid (Ps a f (q++p++⟨#[32]⟩) b1/\Kq a.heap.size h b1):=⟨c,H.out.2.trans m⟩
    obtain⟨E,G,F⟩:=o.out _ c.pg.bel
    clear c m
    go_wp2_with (go_at_call 139;fail)
    refine(a1.out _ bf.out.1.pg.bel).mono ?_
    rintro g n ⟨rfl,w⟩
    have x:Below n.heap.size n (n.alloc (.cells #[.int .i64 z,.int .i64 A,.int .i64 B] 165)):=(ag _ n).alloc (ah _) _
    have u:Hid (Ps a f (q++p++⟨#[32]⟩) (n.alloc (.cells #[.int .i64 z,.int .i64 A,.int .i64 B] 165))/\Kq a.heap.size h (n.alloc (.cells #[.int .i64 z,.int .i64 A,.int .i64 B] 165))):=⟨(bf.out.1.below w).below x,(bf.out.2.trans (Kq.of_below w)).trans (Kq.of_below x)⟩
    obtain⟨E,G,F⟩:=o.out _ u.out.1.pg.bel
    clear w x
    go_wp2_with (go_at_call 140;fail)
    refine(a2.out _ _ u.out.1).mono ?_
    rintro g ad ⟨rfl,c,m⟩
    have I:Hid (Ps a f (q++p++⟨#[32]⟩++(if af=true then ft l else l)) ad/\Kq a.heap.size h ad):=⟨c,u.out.2.trans m⟩
    clear c m
    go_wp2_with fail
    go_end0
    refine⟨rfl,?_,I.out.2⟩
    rw[a0.out]
    have:=I.out.1
    simpa only[be] using this
  |false=>
   have a0:Hid (a3=p++(if af=true then ft l else l)):=by show _=_;rw[<-am];simp
   clear am
   go_enter Tryz.func73,Tryz.ntmps73
   go_wp2_with fail
   go_region_held3 (fun v=>v.cell? ⟨C,5,none⟩=some (.slice (some J) av a9)/\v.cell? J=some bc/\v.cell? ⟨C,6,none⟩=some (.int .i64 19)) (first|exact o.out _ (r.out.1.below (aq (ag _ _))).pg.bel|exact o.out _ ((r.out.1.below (aq (ag _ _))).below y).pg.bel|exact o.out _ c.pg.bel|go_keep) (first|(go_at_call 142;refine(a7.out _).mono ?_;rintro g b2 ⟨rfl,y⟩)|(go_at_call 306;refine(a8.out _ _ ((r.out.1.below (aq (ag _ _))).below y)).mono ?_;rintro g K ⟨rfl,c,m⟩))
   all_goals
    have s:Hid (Ps a f (q++p) K/\Kq a.heap.size h K):=⟨c,((r.out.2.trans (Kq.of_below (aq (ag _ _)))).trans (Kq.of_below y)).trans m⟩
    obtain⟨E,G,F⟩:=o.out _ c.pg.bel
    clear c m
    go_wp2_with (go_at_call 143;fail)
    refine(a6.out _ s.out.1.pg.bel).mono ?_
    rintro g a4 ⟨rfl,ao⟩
    have H:Hid (Ps a f (q++p) a4/\Kq a.heap.size h a4):=⟨s.out.1.below ao,s.out.2.trans (Kq.of_below ao)⟩
    obtain⟨E,G,F⟩:=o.out _ H.out.1.pg.bel
    clear ao
    go_wp2_with (go_at_call 139;fail)
    refine(a1.out _ H.out.1.pg.bel).mono ?_
    rintro g n ⟨rfl,w⟩
    have x:Below n.heap.size n (n.alloc (.cells #[.int .i64 z,.int .i64 A,.int .i64 B] 165)):=(ag _ n).alloc (ah _) _
    have u:Hid (Ps a f (q++p) (n.alloc (.cells #[.int .i64 z,.int .i64 A,.int .i64 B] 165))/\Kq a.heap.size h (n.alloc (.cells #[.int .i64 z,.int .i64 A,.int .i64 B] 165))):=⟨(H.out.1.below w).below x,(H.out.2.trans (Kq.of_below w)).trans (Kq.of_below x)⟩
    obtain⟨E,G,F⟩:=o.out _ u.out.1.pg.bel
    clear w x
    go_wp2_with (go_at_call 140;fail)
    refine(a2.out _ _ u.out.1).mono ?_
    rintro g ad ⟨rfl,c,m⟩
    have I:Hid (Ps a f (q++p++(if af=true then ft l else l)) ad/\Kq a.heap.size h ad):=⟨c,u.out.2.trans m⟩
    clear c m
    go_wp2_with fail
    go_end0
    refine⟨rfl,?_,I.out.2⟩
    rw[a0.out]
    have:=I.out.1
    simpa only[be] using this
 ·have a0:Hid (a3=p++(if af=true then ft l else l)):=by show _=_;rw[<-am,az ba];simp
  have b9:(op==19)=false:=by simpa using ba
  clear am ba
  go_enter Tryz.func73,Tryz.ntmps73
  go_wp2_with fail
  go_region_held3 (fun v=>v.cell? ⟨C,5,none⟩=some (.slice (some J) av a9)/\v.cell? J=some bc/\v.cell? ⟨C,6,none⟩=some (.int .i64 op)) (first|exact o.out _ (r.out.1.below (aq (ag _ _))).pg.bel|exact o.out _ ((r.out.1.below (aq (ag _ _))).below y).pg.bel|exact o.out _ c.pg.bel|go_keep) (first|(go_at_call 142;refine(a7.out _).mono ?_;rintro g b2 ⟨rfl,y⟩)|(go_at_call 306;refine(a8.out _ _ ((r.out.1.below (aq (ag _ _))).below y)).mono ?_;rintro g K ⟨rfl,c,m⟩))
  all_goals
   have s:Hid (Ps a f (q++p) K/\Kq a.heap.size h K):=⟨c,((r.out.2.trans (Kq.of_below (aq (ag _ _)))).trans (Kq.of_below y)).trans m⟩
   obtain⟨E,G,F⟩:=o.out _ c.pg.bel
   clear c m
   go_wp2_with (go_at_call 139;fail)
   refine(a1.out _ s.out.1.pg.bel).mono ?_
   rintro g n ⟨rfl,w⟩
   have x:Below n.heap.size n (n.alloc (.cells #[.int .i64 z,.int .i64 A,.int .i64 B] 165)):=(ag _ n).alloc (ah _) _
   have u:Hid (Ps a f (q++p) (n.alloc (.cells #[.int .i64 z,.int .i64 A,.int .i64 B] 165))/\Kq a.heap.size h (n.alloc (.cells #[.int .i64 z,.int .i64 A,.int .i64 B] 165))):=⟨(s.out.1.below w).below x,(s.out.2.trans (Kq.of_below w)).trans (Kq.of_below x)⟩
   obtain⟨E,G,F⟩:=o.out _ u.out.1.pg.bel
   clear w x
   go_wp2_with (go_at_call 140;fail)
   refine(a2.out _ _ u.out.1).mono ?_
   rintro g ad ⟨rfl,c,m⟩
   have I:Hid (Ps a f (q++p++(if af=true then ft l else l)) ad/\Kq a.heap.size h ad):=⟨c,u.out.2.trans m⟩
   clear c m
   go_wp2_with fail
   go_end0
   refine⟨rfl,?_,I.out.2⟩
   rw[a0.out]
   have:=I.out.1
   simpa only[be] using this
theorem qa.strs{base:Nat}{W:World}{v:Value}{xs:List ByteArray}(l:qa base W v xs):bp W v xs/\oz v:=by
 have e:W.ownsRow base 9 1 v xs.length (xs.map Value.string):=l
 rcases e.2 with⟨a,g⟩|⟨c,k,p,a,g,q,m,r,s,t⟩
 ·exact⟨.inl ⟨fj g,none,0,a⟩,fun i o j b=>by rw[a]at b;cases b⟩
 ·refine⟨.inr ⟨⟨c,0,none⟩,k,a,fun d w h=>?_⟩,fun i o j b=>?_⟩
  ·have u:=(List.getElem?_eq_some_iff.1 h).1
   have f:=e
   rw[a]at f
   have n:(⟨c,0,none⟩:Addr).add d=⟨c,d,none⟩:=by unfold Addr.add;split<;>simp_all
   rw[n,f.cellAt d (by omega),bq,h];rfl
  ·rw[a]at b
   cases b
   exact⟨m,rfl⟩
theorem Hl(w:World)(g:Nat)(H I:Value)(c:List ByteArray)(x:ByteArray)(j:bp w H c)(p:bp w I [x])(al:c.length<=1000)(h:w.cell? ⟨g,0,none⟩=some H)(i:w.cell? ⟨g,1,none⟩=some I):
  Calls Tryz.prog 215 #[.slice (some ⟨g,0,none⟩) 2 2] w fun e J=>∃v,e= .returned v/\bp J v (c++[x])/\oz v/\Below w.heap.size w J:=by
 obtain⟨l,n,rfl⟩:=j.form
 obtain⟨m,o,rfl⟩:=p.form
 obtain⟨a,s⟩:∃a,c.length=a:=⟨_,rfl⟩
 rw[s]at al j h
 have f:Hid (bp w (.slice l a n) c/\bp w (.slice m 1 o) [x]/\c.length=a/\w.cell? ⟨g,0,none⟩=some (.slice l a n)/\w.cell? ⟨g,1,none⟩=some (.slice m 1 o)):=⟨j,p,s,h,i⟩
 have ar:((a:Int)+1)<=2000:=by omega
 have u:=aay (a+1) (by omega) (by omega) w
 rw[show((a+1:Nat):Int)=(a:Int)+1 by omega]at u
 clear j p s h i
 go_enter Tryz.func215,Tryz.ntmps215
 go_wp2_with fail
 go_loopw [3,11] (fun y d wr=>Hid (wr=w)/\((d= .int .i64 0/\y= .int .i64 0)\/(d= .int .i64 1/\y= .int .i64 (a:Int))\/(d= .int .i64 2/\y= .int .i64 ((a:Int)+1)))) (fun _ d _=>2-(intOf d).toNat)
 case atStart=>exact⟨rfl,.inl ⟨rfl,rfl⟩⟩
 case round=>
  obtain⟨af,r⟩:=hrel
  have ao:wr=w:=af.out
  subst wr
  rcases r with⟨rfl,rfl⟩|⟨rfl,rfl⟩|⟨rfl,rfl⟩
  ·have h:=f.out.2.2.2.1
   have an:¬(a:Int)<0:=by omega
   go_wp2_with fail
   refine⟨⟨by first|exact True.intro|exact rfl,.inr (.inl ⟨rfl,by first|rfl|go_num⟩)⟩,by simp[intOf]⟩
  ·have i:=f.out.2.2.2.2
   have an:¬(a:Int)+1<0:=by omega
   have ao:IntKind.i64.wrap ((a:Int)+1)=(a:Int)+1:=by rw[bm];omega
   go_wp2_with fail
   refine⟨⟨by first|exact True.intro|exact rfl,.inr (.inr ⟨rfl,by first|rfl|go_num⟩)⟩,by simp[intOf]⟩
  ·go_wp2_with (go_at_call 255;fail)
   refine u.mono ?_
   rintro e K ⟨ak,rfl,L,F⟩
   have ad:Hid (qa w.heap.size K (.slice (some ⟨w.heap.size,0,none⟩) 0 ak) []/\Below w.heap.size w K):=⟨L,F⟩
   clear L F u
   go_wp2_with fail
   go_loopw [6,27] (fun k d wr=>∃A G C,k= .slice A G C/\((d= .int .i64 0/\Hid (qa w.heap.size wr k []/\Below w.heap.size w wr))\/(d= .int .i64 1/\Hid (qa w.heap.size wr k c/\Below w.heap.size w wr))\/(d= .int .i64 2/\Hid (qa w.heap.size wr k (c++[x])/\Below w.heap.size w wr)))) (fun _ d _=>2-(intOf d).toNat)
   case atStart=>exact⟨_,_,_,rfl,.inl ⟨rfl,ad.out⟩⟩
   case round=>
    obtain⟨A,G,C,rfl,r⟩:=hrel
    rcases r with⟨rfl,b⟩|⟨rfl,b⟩|⟨rfl,b⟩
    ·have h:wr.cell? ⟨g,0,none⟩=some (.slice l a n):=ai b.out.2 f.out.2.2.2.1
     have t:=b.out.2.size
     have am:=f.out.2.2.1
     go_wp2_with (at_builtin;refine AE rfl _ _ rfl w.heap.size _ [] rfl b.out.1 t _ c rfl (f.out.1.below b.out.2) (by simp) (by omega) a (by simp;omega) ?_;intro B E w1 z q)
     have ap:qa w.heap.size w1 (.slice B a E) c:=by simpa using z
     exact⟨⟨_,_,_,rfl,.inr (.inl ⟨rfl,ap,b.out.2.trans q⟩)⟩,by simp[intOf]⟩
    ·have i:wr.cell? ⟨g,1,none⟩=some (.slice m 1 o):=ai b.out.2 f.out.2.2.2.2
     have t:=b.out.2.size
     have am:=f.out.2.2.1
     go_wp2_with (at_builtin;refine AE rfl _ _ rfl w.heap.size _ c rfl b.out.1 t _ [x] rfl (f.out.2.1.below b.out.2) (by omega) (by simp) (a+1) (by simp;omega) ?_;intro B E w1 z q)
     exact⟨⟨_,_,_,rfl,.inr (.inr ⟨rfl,z,b.out.2.trans q⟩)⟩,by simp[intOf]⟩
    ·go_wp2_with fail
     go_ret
     exact⟨_,rfl,b.out.1.strs.1,b.out.1.strs.2,b.out.2⟩
def Hn:ByteArray:=⟨#[46,46,46]⟩
def kL(N:Nd):List ByteArray:=if N.op=1 then N.nm++[Hn] else N.nm
theorem NdQ.rest{e:World}{L:List Im}{N:Nd}{b:Nat}{vn:Value}{a:Option Addr}{n c:Nat}(f:NdQ e L N b vn a n c)(h:dL N.k=5){W:World}(g:Below e.heap.size e W):W.cell? ⟨b,6,none⟩=some vn/\W.cell? ⟨b,7,none⟩=some (.bool (decide (N.op=1))):=by
 obtain⟨i,d⟩:=f.rd W g
 unfold gl at d
 rw[h]at d
 exact⟨by rw[au _ _ _ _ _ _ d];rfl,by rw[au _ _ _ _ _ _ d];rfl⟩
theorem Ho(d:World)(h:Nat)(L:List Im)(t:Nat)(N:Nd)(b:Nat)(vn:Value)(a:Option Addr)(n c:Nat)(x:NdQ d L N b vn a n c)(bb:dL N.k=5)(bw:N.nm.length<=200)(bx:(bK (kL N)).size<=1000000):
  Pw d h 181 #[vP h,fJ d t,.pointer (some ⟨b,0,none⟩)] (⟨#[40]⟩++bK (kL N)++⟨#[41]⟩):=by
 intro l i F
 have bE:=fun i=>mj d.heap.size (ek t) i
 have a1:Hid (Pw d h 306 #[kF d t,.string ⟨#[40]⟩] ⟨#[40]⟩):=iw d h t _ (by decide)
 have af:Hid (Pw d h 306 #[kF d t,.string (bK (kL N))] (bK (kL N))):=iw d h t _ (by omega)
 have a2:Hid (∀l i,Ps d h l i->∀I,CallsD Tryz.prog 306 #[kF d t,.string ⟨#[41]⟩] I i fun j ar J=>ar=I/\(j= .returned (.tuple #[])/\Ps d h (l++⟨#[41]⟩) J/\Kq d.heap.size i J)):=fun l i F I=>jC d h t _ l (by decide) I i F
 have C:Hid (∀m B,bp m B (kL N)->oz B->Calls Tryz.prog 89 #[B,.string ⟨#[44,32]⟩] m fun j J=>j= .returned (.string (bK (kL N)))/\Below m.heap.size m J):=fun m B bs bt=>Bh m B _ bs bt (by unfold kL;split;rw[aD];show _+1<=_;omega;omega) (by omega)
 have o:Hid (∀m,Below d.heap.size d m->m.cell? ⟨b,6,none⟩=some vn/\m.cell? ⟨b,7,none⟩=some (.bool (decide (N.op=1)))):=fun m bv=>x.rest bb bv
 have a0:Hid (Ps d h l i):=F
 have ad:Hid (bp d vn N.nm/\oz vn/\N.nm.length<=200):=⟨x.nm,x.jn,bw⟩
 obtain⟨E,a9⟩:∃E,bK (kL N)=E:=⟨_,rfl⟩
 rw[a9]at af C bx⊢
 unfold fJ kF at *
 generalize ek t=b0 at *
 obtain⟨r,s,bc⟩:=x.nm.form
 generalize N.nm.length=u at bc
 subst bc
 clear F x a9 bb
 cases ho:decide (N.op=1) with
 |false=>
  have z:kL N=N.nm:=by unfold kL;rw[aa (iA ho)]
  rw[ho]at o
  have br:Hid (bp d (.slice r u s) (kL N)):=by rw[z];exact ad.out.1
  clear ho z
  go_enter_defers Tryz.func181,Tryz.ntmps181
  go_wp2_with (go_at_call 306;fail)
  refine(a1.out _ _ a0.out).mono ?_
  rintro j e ⟨rfl,g,p⟩
  have q:Hid (Ps d h (l++⟨#[40]⟩) e/\Kq d.heap.size i e):=⟨g,p⟩
  obtain⟨bn,bo⟩:=o.out _ g.pg.bel
  clear g p
  go_wp2_with fail
  go_region_held3 (fun ak=>ak.cell? ⟨b,6,none⟩=some (.slice r u s)) (first|exact(o.out _ (q.out.1.below (aq (ag _ _))).pg.bel).1|exact(o.out _ ((q.out.1.below (aq (ag _ _))).below v).pg.bel).1|exact(o.out _ g.pg.bel).1|go_keep) (first|(go_at_call 89;refine(C.out _ _ (br.out.below (q.out.1.below (aq (ag _ _))).pg.bel) ad.out.2.1).mono ?_;rintro j bD ⟨rfl,v⟩)|(go_at_call 306;refine(af.out _ _ ((q.out.1.below (aq (ag _ _))).below v)).mono ?_;rintro j A ⟨rfl,g,p⟩))
  all_goals
   have w:Hid (Ps d h (l++⟨#[40]⟩++E) A/\Kq d.heap.size i A):=⟨g,((q.out.2.trans (Kq.of_below (aq (ag _ _)))).trans (Kq.of_below v)).trans p⟩
   clear g p
   go_wp2_with fail
   refine pf (f:=306) (by simp) (pE _ _ _ _) ?_
   refine(a2.out _ _ w.out.1 .returning).mono ?_
   rintro j ar bA ⟨rfl,rfl,ao,an⟩
   refine⟨_,gx rfl _ _ _,rfl,?_,w.out.2.trans an⟩
   simpa only[be] using ao
 |true=>
  have z:kL N=N.nm++[Hn]:=by unfold kL;rw[ab (bi ho)]
  rw[ho]at o
  rw[z]at C
  clear ho z
  go_enter_defers Tryz.func181,Tryz.ntmps181
  go_wp2_with (go_at_call 306;fail)
  refine(a1.out _ _ a0.out).mono ?_
  rintro j e ⟨rfl,g,p⟩
  have q:Hid (Ps d h (l++⟨#[40]⟩) e/\Kq d.heap.size i e):=⟨g,p⟩
  obtain⟨bn,bo⟩:=o.out _ g.pg.bel
  clear g p
  go_wp2_with (go_at_call 215;fail)
  have a7:=ay e (.cells #[.string ⟨#[46,46,46]⟩] 9)
  have G:=ay (e.alloc (.cells #[.string ⟨#[46,46,46]⟩] 9)) (.cells #[.slice r u s,.slice (some ⟨e.heap.size,0,none⟩) 1 1] 48)
  rw[db]at G
  have H:Below e.heap.size e ((e.alloc (.cells #[.string ⟨#[46,46,46]⟩] 9)).alloc (.cells #[.slice r u s,.slice (some ⟨e.heap.size,0,none⟩) 1 1] 48)):=((ag _ e).alloc (ah _) _).alloc (by simp) _
  have a8:((e.alloc (.cells #[.string ⟨#[46,46,46]⟩] 9)).alloc (.cells #[.slice r u s,.slice (some ⟨e.heap.size,0,none⟩) 1 1] 48)).cell? ⟨e.heap.size,0,none⟩=some (.string ⟨#[46,46,46]⟩):=ai ((ag _ _).alloc (ah _) _) (by rw[au _ _ _ _ _ _ a7];rfl)
  have bk:=Hl ((e.alloc (.cells #[.string ⟨#[46,46,46]⟩] 9)).alloc (.cells #[.slice r u s,.slice (some ⟨e.heap.size,0,none⟩) 1 1] 48)) (e.heap.size+1) (.slice r u s) (.slice (some ⟨e.heap.size,0,none⟩) 1 1) N.nm Hn (ad.out.1.below (q.out.1.pg.bel.trans (H.mono q.out.1.pg.bel.size))) (.inr ⟨⟨e.heap.size,0,none⟩,1,rfl,fun bd bF am=>by
    cases bd with
    |zero=>simp at am;subst am;exact a8
    |succ bd=>simp at am⟩) (by omega) (by rw[au _ _ _ _ _ _ G];rfl) (by rw[au _ _ _ _ _ _ G];rfl)
  refine bk.mono ?_
  rintro j K ⟨b1,rfl,ap,bf,ba⟩
  have al:Below e.heap.size e K:=H.trans (ba.mono H.size)
  have y:Hid (Ps d h (l++⟨#[40]⟩) K/\Kq d.heap.size i K):=⟨q.out.1.below al,q.out.2.trans (Kq.of_below al)⟩
  obtain⟨a4,a5,a6⟩:=ap.form
  generalize (N.nm++[Hn]).length=bl at a6
  subst a6
  have av:Hid (bp K (.slice a4 bl a5) (N.nm++[Hn])/\oz (.slice a4 bl a5)):=⟨ap,bf⟩
  obtain⟨bn,bo⟩:=o.out _ y.out.1.pg.bel
  clear a7 G a8 H bk ba al ap bf
  go_wp2_with fail
  go_region_held3 (fun ak=>ak.cell? ⟨b,6,none⟩=some (.slice r u s)) (first|exact(o.out _ (y.out.1.below (aq (ag _ _))).pg.bel).1|exact(o.out _ ((y.out.1.below (aq (ag _ _))).below v).pg.bel).1|exact(o.out _ g.pg.bel).1|go_keep) (first|(go_at_call 89;refine(C.out _ _ (av.out.1.below (aq (ag _ _))) av.out.2).mono ?_;rintro j bD ⟨rfl,v⟩)|(go_at_call 306;refine(af.out _ _ ((y.out.1.below (aq (ag _ _))).below v)).mono ?_;rintro j A ⟨rfl,g,p⟩))
  all_goals
   have w:Hid (Ps d h (l++⟨#[40]⟩++E) A/\Kq d.heap.size i A):=⟨g,((y.out.2.trans (Kq.of_below (aq (ag _ _)))).trans (Kq.of_below v)).trans p⟩
   clear g p
   go_wp2_with fail
   refine pf (f:=306) (by simp) (pE _ _ _ _) ?_
   refine(a2.out _ _ w.out.1 .returning).mono ?_
   rintro j ar bA ⟨rfl,rfl,ao,an⟩
   refine⟨_,gx rfl _ _ _,rfl,?_,w.out.2.trans an⟩
   simpa only[be] using ao
theorem ahK(a:World)(c:Nat)(y:List Nd)(L:List Im)(base:Nat)(ba:Value)(a0:Tp a y L base ba)(t:Nat)(ht:t<=100000)(i:Nat)(a4:i<y.length)(N:Nd)(a1:ae y i=N)(ak:N.k=36)(bl:N.ks.length<=1048576)(a5:N.nm.length<=200)(a7:(bK (kL N)).size<=1000000)(A:Nat)(u:N.ks[0]?=some (A:Int))(m:ByteArray)(a2:zH a c L t (A:Int) m):
  Pw a c 134 #[vP c,fJ a t,nV (jo L i)] (⟨#[40]⟩++bK (kL N)++⟨#[41]⟩++⟨#[32]⟩++m):=by
 intro n b r
 obtain⟨f,B,bd,x,af,v,e⟩:=rx a0 a4
 rw[a1]at v e
 have q:=fun b=>de f b
 have br:=fun b=>mj a.heap.size (ek t) b
 have bo:=fun b=>CJ a.heap.size (ek t) b
 have bn:=fun b=>ID a.heap.size (ek t) b
 have a6:=e.hn
 have al:=fun b=>mq (dL N.k) f b
 have s:dL N.k=5:=by rw[ak];rfl
 obtain⟨z,rfl,a3,_⟩:=e.ks.get u
 rw[a6]at a3
 have bk:(0:Int)<(x:Int):=by have:=nI u;omega
 have ar:Hid (Pw a c 181 _ (⟨#[40]⟩++bK (kL N)++⟨#[41]⟩)):=Ho a c L t N f B _ _ _ e s a5 a7
 have av:Hid (Pw a c 306 _ (⟨#[32]⟩)):=iw a c t (⟨#[32]⟩) (by decide)
 have ad:Hid (Pw a c 83 _ (m)):=a2
 obtain⟨a9,am⟩:∃a8,nV (jo L (A:Int))=a8:=⟨_,rfl⟩
 rw[am]at ad
 have o:Hid (∀l,Below a.heap.size a l->l.cell? ⟨f,0,none⟩=some (.int .i64 N.k)/\l.cell? ⟨f,5,none⟩=some (.slice (some z) x af)/\l.cell? ⟨f,6,none⟩=some B/\l.cell? z=some a9):=fun l p=>⟨(e.cells p).1,(e.cells p).2.1,(e.cells p).2.2 _ (by rw[s];rfl),by rw[<-am];obtain⟨_,g,_,bb⟩:=(e.ks.below p).get u;cases g;simpa [Addr.add] using bb⟩
 have H:Hid (Ps a c n b/\Kq a.heap.size b b):=⟨r,Kq.refl _ _⟩
 obtain⟨C,E,F,G⟩:=o.out _ r.pg.bel
 rw[v]
 rw[s]at al⊢
 simp only[jd]at al⊢
 have bf:=fun b=>aj0 f b
 unfold fJ kF at *
 generalize ek t=bs at *
 have bc:Hid (NdQ a L N f B (some z) x af):=e
 clear r e v ak
 go_enter Tryz.func134,Tryz.ntmps134
 go_wp2_with (first|(go_at_call 307;refine(q _).mono ?_;rintro g j ⟨rfl,w⟩;subst j)|(go_at_call 181;fail))
 refine(ar.out _ _ H.out.1).mono ?_
 rintro g an ⟨rfl,d,h⟩
 have I:Hid (Ps a c (n++(⟨#[40]⟩++bK (kL N)++⟨#[41]⟩)) an/\Kq a.heap.size b an):=⟨d,H.out.2.trans h⟩
 obtain⟨C,E,F,G⟩:=o.out _ d.pg.bel
 clear d h
 go_wp2_with (first|(go_at_call 307;refine(q _).mono ?_;rintro g j ⟨rfl,w⟩;subst j)|(go_at_call 306;fail))
 refine(av.out _ _ I.out.1).mono ?_
 rintro g ao ⟨rfl,d,h⟩
 have J:Hid (Ps a c (n++(⟨#[40]⟩++bK (kL N)++⟨#[41]⟩)++(⟨#[32]⟩)) ao/\Kq a.heap.size b ao):=⟨d,I.out.2.trans h⟩
 obtain⟨C,E,F,G⟩:=o.out _ d.pg.bel
 clear d h
 go_wp2_with (first|(go_at_call 307;refine(q _).mono ?_;rintro g j ⟨rfl,w⟩;subst j)|(go_at_call 83;fail))
 refine(ad.out _ _ J.out.1).mono ?_
 rintro g ap ⟨rfl,d,h⟩
 have K:Hid (Ps a c (n++(⟨#[40]⟩++bK (kL N)++⟨#[41]⟩)++(⟨#[32]⟩)++(m)) ap/\Kq a.heap.size b ap):=⟨d,J.out.2.trans h⟩
 obtain⟨C,E,F,G⟩:=o.out _ d.pg.bel
 clear d h
 go_wp2_with (first|(go_at_call 307;refine(q _).mono ?_;rintro g j ⟨rfl,w⟩;subst j))
 go_end0
 refine⟨rfl,?_,K.out.2⟩
 have:=K.out.1
 simpa only[be] using this
