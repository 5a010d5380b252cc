import Derived.Test.YtoahhnnflblfaaaGreatDoorHVk36
import Derived.Test.YtoahhnnflblfaaaGreatDoorHVk33
set_option linter.all false
set_option maxRecDepth 100000
set_option maxHeartbeats 12800000
open Option renaming some->O,none->S
open Go.RowKit renaming Below->Q,Hid->Y,intOf->A9
open Go.Value renaming slice->U,int->A0,int->A4,pointer->A7,nilIface->Br,agg->B4,iface->B5,slice->Ce,tuple->Ck,string->Cr
open Go.Proofs.Tryz renaming prog->V
open Go.Obj renaming cells->Z
open Go renaming World->Ax,Value->A2,Calls->A8,TypeId->B2,ownsRow_succ->B6,undef->C0
open Go.IntKind renaming i64->A1
open Go.Ending renaming returned->A3
open Go.Lib renaming asciiSpaceTab->A5,TabIs->B3
open Bool renaming true->A6,false->B0
open List renaming replicate->B1
namespace Go.Proofs.YtoahhnnflblfaaaGreatDoor
open Go.RowKit Go.Maps Go.WideMaps
theorem ang{w y:ByteArray}{k n:Int}(h:Alo w k n y):1<=k/\k<=78/\k≠6:=by
 have b:=aak w 0 h.ok;have a:=aam w 0 h.ok;unfold rA at a;rw[ab h.ok]at a;rw[h.ki]at b a;exact⟨b.1,b.2,a⟩
theorem an1{T:ByteArray}{p q:Nat}{l:List Wt}(h:Rz T p l q):∀t∈l,1<=Cv t/\Cv t<=78/\Cv t≠6:=by
 induction h with
 |nil=>intro t f;cases f
 |bl b c a=>exact a
 |rem b c d a=>exact a
 |tok b c d g i j k a=>
  intro e hu;rcases List.mem_cons.1 hu with rfl|hu
  ·unfold Cv;rw[aa b];exact ang d
  ·exact a e hu
 |sep b c d a=>
  intro e hu;rcases List.mem_cons.1 hu with rfl|hu
  ·decide
  ·exact a e hu
theorem Tks.at_{T:ByteArray}{e:List Wt}{c:List Tk}(h:Tks T e c):c.length=e.length/\∀(q:Nat) t,e[q]?=O t->∃X:Tk,c[q]?=O X/\X.k=Cv t/\(t.k≠7->X.n=t.n/\X.x=t.x):=by
 induction h with
 |nil=>exact⟨rfl,fun q t h=>by simp at h⟩
 |@tok t s X c f g j l m r u v b=>
  refine⟨by simp[b.1],fun q d a=>?_⟩;cases q with
  |zero=>
   obtain rfl:t=d:=by simpa using a
   exact⟨X,rfl,by unfold Cv;rw[aa f];exact l,fun _=>⟨m,r⟩⟩
  |succ q=>exact b.2 q d (by simpa using a)
 |@sep t s X c f g j b=>
  refine⟨by simp[b.1],fun q d a=>?_⟩;cases q with
  |zero=>
   obtain rfl:t=d:=by simpa using a
   exact⟨X,rfl,by unfold Cv;rw[ab f];exact g,fun i=>absurd f i⟩
  |succ q=>exact b.2 q d (by simpa using a)
def yC(T:ByteArray)(a:Int):Tk:=⟨6,(T.size:Nat),(T.size:Nat),a,0,⟨#[]⟩⟩
theorem Fu{a:List Tk}{X E:Tk}{q:Nat}(h:a[q]?=O X):uD (a++[E]) q=X:=Bq (by rw[iD (List.getElem?_eq_some_iff.1 h).1];exact h)
theorem Fv(a:List Tk)(E:Tk):uD (a++[E]) a.length=E:=Bq (by rw[gF (ag _),gH];rfl)
theorem agi{T:ByteArray}{l e:List Wt}{t:Fo}(w:Rz T 0 e T.size)(r:Cd l e)(u:aau l t):∃d q h,ou T=(d++[yC T q],h, -1)/\(dB h 6).2=A6/\Tks T e d/\(∀X∈d,X.k≠6)/\∃X:Fo,X.bare=t/\P (uD (d++[yC T q])) (d.length+1) .stats 0 X d.length:=by
 have v:=an1 w;obtain⟨j,E⟩:∃j:List Tk,j=e.map fun b=>(⟨Cv b,0,0,0,b.n,b.x⟩:Tk):=⟨_,rfl⟩;have ap:j.length=e.length:=by rw[E,dL]
 have B:∀a b,e[a]?=O b->uD (j++[yC T 0]) a=⟨Cv b,0,0,0,b.n,b.x⟩:=fun a b f=>Fu (by rw[E,cA,f];rfl);have C:uD (j++[yC T 0]) e.length=yC T 0:=by rw[<-ap];exact Fv _ _
 have F:=r.seg (tk:=uD (j++[yC T 0])) (n:=e.length+1) (i:=0) (by omega) fun a b f=>by rw[fE,B a b f];exact⟨rfl,fun _=>⟨rfl,rfl⟩⟩
 rw[fE]at F;obtain⟨_,_,_,av,J⟩:=u _ _ _ (Nat.lt_succ_self _) F (by rw[C];rfl);obtain⟨a3,m⟩:=aje (e.map Cv++[6]) [100,6] 0 av _ J (by simp) (fun x r=>by simp at r;omega) fun a k c=>by
  rw[fE];rcases bv a e.length with g|g
  ·rw[iD (by rw[dL];exact g),cA,aE g]at c;obtain rfl:Cv e[a]=k:=by simpa using c
   rw[B a e[a] (aE g)];have:=v e[a] (lG g);exact⟨rfl,this.1,this.2.1⟩
  ·rw[gF (by rw[dL];exact g),dL]at c;have L:a-e.length=0:=by
    rcases kL (a-e.length) with z|z
    ·exact z
    ·rw[fm (by simp;omega)]at c;cases c
   rw[L]at c;obtain rfl:(6:Int)=k:=by simpa using c
   rw[show a=e.length by omega,C];exact⟨rfl,by decide,by decide⟩
 rw[aan]at m;cases hf:JL [100,6] (e.map Cv) with
 |none=>rw[hf]at m;cases m
 |some h=>
  rw[hf]at m;have am:(dB h 6).2=A6:=by
   by_cases g:(dB h 6).2=A6
   ·exact g
   ·simp[JL,g]at m
  obtain⟨d,q,ao,f⟩:=aih w hf;obtain⟨a0,H⟩:=f.at_;have G:=r.seg (tk:=uD (d++[yC T q])) (n:=d.length+1) (i:=0) (by omega) fun a b c=>by
   obtain⟨X,af,ak,al⟩:=H a b c;rw[fE,Fu af];exact⟨ak,al⟩
  rw[fE,<-a0]at G;obtain⟨X,s,an,_⟩:=u _ _ _ (Nat.lt_succ_self _) G (by rw[Fv];rfl);refine⟨d,q,h,ao,am,f,fun X s=>?_,X,s,an⟩;obtain⟨a,c,K⟩:=fL s;obtain⟨a2,I,a1,_⟩:=H a e[a] (aE (by omega));rw[aE c,K]at I;obtain rfl:=db I;rw[a1];exact(v _ (lG _)).2.2
section
variable {T A x y : ByteArray} {p : Nat} {o : Bool}
theorem aaE(A x y:ByteArray):LD (A++(x++y)) A.size x:=by
 refine⟨by rw[ae,ae];omega,fun a b=>?_⟩;rw[mI,aa (by omega),show A.size+a-A.size=a by omega,mI,ab b]
theorem agj:∀(n p:Nat),(∀i,i<n->ll (aw T (p+i))=A6)->Skp T o p (p+n)
 |0,p,_=> .nil
 |n+1,p,h=> .bl (h 0 (by omega)) (by rw[show p+(n+1)=p+1+n by omega];exact agj n (p+1) fun i a=>by rw[show p+1+i=p+(i+1) by omega];exact h (i+1) (by omega))
theorem agk(c:aw T p=45)(d:aw T (p+1)=45)(e:aw T (p+2)=122)(b:aw T (p+3)=10):Lu T p=p+3:=by
 have g:=bm b (by omega);unfold Lu;refine tu nnB T 3 (T.size+1) p (fun a f=>?_) (by rw[b];decide) (by omega);rcases(show a=0\/a=1\/a=2 by omega) with rfl|rfl|rfl
 ·rw[gI,c];decide
 ·rw[d];decide
 ·rw[e];decide
theorem alz{w:ByteArray}{k c:Int}(b:c∈ss):wj w k c=A6:=by
 have a:wl c=A6/\c≠61/\c≠46/\c≠45:=by
  have:∀c∈ss,wl c=A6/\c≠61/\c≠46/\c≠45:=by decide
  exact this c b
 unfold wj;split
 ·exact a.1
 split
 ·exact bg b
 ·have:nxS k c=A6:=by
   unfold nxS
   repeat' split
   all_goals first|rfl|exact bg a.2.1|exact bg a.2.2.1|exact bg b
  rw[this];simp[a.2.2.2]
theorem anh{c:ByteArray}(m:LD T p c)(h:c∈G7\/(o=A6/\c∈Jp)):Skp T o p (p+c.size)/\aw T p∈ss:=by
 have b:∀a,a<c.size->aw T (p+a)=aw c a:=m.2;rcases h with h|⟨i,h⟩
 ·have j:0<c.size/\(∀a,a<c.size->ll (aw c a)=A6)/\aw c 0∈ss:=by
   simp only[G7,jI,lE,lF]at h;rcases h with rfl|rfl|rfl|rfl|rfl;all_goals refine⟨by decide,fun a e=>?_,by decide⟩
   ·obtain rfl:a=0:=by change a<1 at e;omega
    decide
   ·rcases(show a=0\/a=1 by change a<2 at e;omega) with rfl|rfl<;>decide
   ·obtain rfl:a=0:=by change a<1 at e;omega
    decide
   ·obtain rfl:a=0:=by change a<1 at e;omega
    decide
   ·rcases(show a=0\/a=1\/a=2 by change a<3 at e;omega) with rfl|rfl|rfl<;>decide
  have d:=b 0 j.1;rw[gI]at d;exact⟨agj _ _ fun a e=>by rw[b a e];exact j.2.1 a e,by rw[d];exact j.2.2⟩
 ·simp only[Jp,jI,lE,lF]at h;rcases h with rfl|rfl|rfl
  ·have d:aw T p=10:=b 0 (by decide);exact⟨.nl i d .nil,by rw[d];decide⟩
  ·have d:aw T p=32:=b 0 (by decide);have f:aw T (p+1)=45:=b 1 (by decide);have g:aw T (p+1+1)=45:=b 2 (by decide);have l:aw T (p+1+2)=122:=b 3 (by decide);have k:aw T (p+1+3)=10:=b 4 (by decide);refine⟨.bl (by rw[d];decide) (.rem f g ?_),by rw[d];decide⟩;rw[agk f g l k];exact .nl i k .nil
  ·have d:aw T p=13:=b 0 (by decide);have f:aw T (p+1)=10:=b 1 (by decide);have g:aw T (p+1+1)=10:=b 2 (by decide);exact⟨.bl (by rw[d];decide) (.nl i f (.nl i g .nil)),by rw[d];decide⟩
def ani(c:ByteArray):Nat:=if c.size=2\/c.size=5 then 1 else 0
theorem aix{c:ByteArray}(l:LD T p c)(h:c∈Jq){e:List Wt}{q:Nat}(f:Rz T (p+c.size) e q):Rz T p (B1 (ani c+1) nlW++e) q:=by
 have a:∀i,i<c.size->aw T (p+i)=aw c i:=l.2;simp only[Jq,jI,lE,lF]at h;rcases h with rfl|rfl|rfl|rfl|rfl|rfl
 ·have b:aw T p=10:=a 0 (by decide);exact .sep b (.inl rfl) f
 ·have b:aw T p=59:=a 0 (by decide);exact .sep b (.inr rfl) f
 ·have b:aw T p=10:=a 0 (by decide);have d:aw T (p+1)=10:=a 1 (by decide);exact .sep b (.inl rfl) (.sep d (.inl rfl) f)
 ·have b:aw T p=32:=a 0 (by decide);have d:aw T (p+1)=59:=a 1 (by decide);have g:aw T (p+1+1)=32:=a 2 (by decide);exact .bl (by rw[b];decide) (.sep d (.inr rfl) (.bl (by rw[g];decide) f))
 ·have b:aw T p=10:=a 0 (by decide);have d:aw T (p+1)=45:=a 1 (by decide);have g:aw T (p+1+1)=45:=a 2 (by decide);have k:aw T (p+1+2)=122:=a 3 (by decide);have j:aw T (p+1+3)=10:=a 4 (by decide);refine .sep b (.inl rfl) (.rem d g ?_);rw[agk d g k j];exact .sep j (.inl rfl) f
 ·have b:aw T p=59:=a 0 (by decide);have d:aw T (p+1)=59:=a 1 (by decide);exact .sep b (.inr rfl) (.sep d (.inr rfl) f)
end
theorem Cd.reps{t:Wt}{l e:List Wt}(a:t.k=7)(h:Cd l e):∀n,Cd (t::l) (B1 (n+1) nlW++e)
 |0=> .sep a rfl h
 |n+1=> .more a rfl (Cd.reps a h n)
theorem anj{s:ByteArray}{l:List Wt}{m:List Tk}(h:Tks s l m):∀{y:ByteArray},Dn s m y->∃e,Cd l e/\∀A:ByteArray,Rz (A++y) A.size e (A++y).size:=by
 induction h with
 |nil=>
  intro y a;cases a;refine⟨[],.nil,fun A=>?_⟩;rw[show A++(⟨#[]⟩:ByteArray)=A from ma A];exact .nil
 |@tok b l B m i j v z K L C af u=>
  intro y a;cases a with
  |@cons _ c y _ r a=>
   obtain⟨e,q,t⟩:=u a;refine⟨b::e,.tok i q,fun A=>?_⟩;rcases r.2 with⟨g,_⟩|⟨_,d,E,rfl⟩
   ·exact absurd (z.symm.trans g) j
   ·rw[C,z]at *;have n:A++(b.w++d++y)=(A++(b.w++d))++y:=by simp only[aB]
    have f:=t (A++(b.w++d));rw[<-n]at f;have H:LD (A++(b.w++d++y)) A.size (b.w++d):=aaE A (b.w++d) y;obtain⟨I,J⟩:=H.app;obtain⟨F,G⟩:=anh (o:=Lj b.k) J E;rw[ae,ae,<-iu]at f;exact .tok i j v I (alz G) F f
 |@sep b l B m i j v u=>
  intro y a;cases a with
  |@cons _ c y _ r a=>
   obtain⟨e,q,t⟩:=u a;rcases r.2 with⟨_,g⟩|⟨g,_⟩
   ·refine⟨B1 (ani c+1) nlW++e,Cd.reps i q _,fun A=>?_⟩;have n:A++(c++y)=(A++c)++y:=by simp only[aB]
    have f:=t (A++c);rw[<-n,ae]at f;exact aix (aaE A c y) g f
   ·exact absurd j g
theorem aiy:∀j:Fin 22,(cG fd j.val).size<=6:=by decide+kernel
theorem alA{w y:ByteArray}{k n:Int}(h:Alo w k n y)(B:¬k<5):w.size<=6:=by
 obtain⟨l,c,b,a,r,s,t,u⟩:=h;unfold eE at c b a;by_cases g:bC (aw w 0)=A6
 ·rw[ab g]at b a;simp only at b a;unfold Di at a;rw[b,gh]at a;cases e:uo fd w 22 0 with
  |none=>rw[e]at a;simp only at a;omega
  |some f=>
   obtain⟨v,z,q⟩:=rJ fd w 22 0 f e;have C:(cG fd f).size=w.size:=by have:=congrArg List.length q;rwa [gw,gw,eB,eB]at this
   have:=aiy ⟨f,by omega⟩;simp only at this;omega
 rw[aa g]at c b a;by_cases i:ch (aw w 0)=A6
 ·rw[ab i]at c b a;exfalso;split at a
  ·simp only at a;unfold AC at a;split at a
   ·simp only at a;omega
   ·split at a<;>(simp only at a;omega)
  ·simp only at a;omega
 rw[aa i]at c b a;by_cases j:aw w 0=34
 ·rw[ab j]at c b a;exfalso;split at a<;>(simp only at a;omega)
 rw[aa j,gh]at c b a;by_cases d:od w=0
 ·rw[ab d]at c;cases c
 rw[aa d]at b a;simp only at b a;rw[a,fE]at b;have m:=(GJ w l d).1;rw[a]at m;have:∀k:Fin 79,(ed (k.val:Int)).size<=6:=by decide+kernel
 have:=this ⟨k.toNat,by omega⟩;rw[show((k.toNat:Nat):Int)=k by omega]at this;omega
theorem aiz{s:ByteArray}{l:List Wt}{e:List Tk}(h:Tks s l e):∀{y:ByteArray},Dn s e y->y.size<=cst l:=by
 have k:∀c:ByteArray,c∈G7\/c∈Jp\/c∈Jq->c.size<=5:=fun c d=>by
  simp only[G7,Jp,Jq,jI,lE,lF]at d;rcases d with(rfl|rfl|rfl|rfl|rfl)|(rfl|rfl|rfl)|(rfl|rfl|rfl|rfl|rfl|rfl)<;>decide
 induction h with
 |nil=>intro y b;cases b;exact aG _
 |@tok v l n e q f m r w z t B i=>
  intro y b;cases b with
  |@cons _ j y _ g b=>
   have:=i b;rcases g.2 with⟨a,_⟩|⟨_,c,d,rfl⟩
   ·exact absurd (r.symm.trans a) f
   ·have u:=k c (d.imp id fun a=> .inl a.2);rw[t,ae,ae,cst];unfold wt;split
    ·omega
    ·rename_i a;have:=alA m a;omega
 |@sep v l n e q f m i=>
  intro y b;cases b with
  |@cons _ j y _ g b=>
   have:=i b;rcases g.2 with⟨_,a⟩|⟨a,_⟩
   ·have u:=k j (.inr (.inr a));rw[ae,cst];unfold wt;rw[aa (by omega)];omega
   ·exact absurd f a
structure GdO (y:ByteArray) (ms:List Nd):Prop where
 ok:y.size≠0->(cF ms).1=0
 last:(cF ms).1=0->∃pre ks,ms=pre++[⟨1,0,(y.size:Nat),1,0,0,⟨#[]⟩,[],ks⟩]
theorem BI:(cF []).1≠0:=by decide
theorem If{y:ByteArray}{c a:Int}{ms:List Nd}(h:Out y c a ms)(b:(cF ms).1=0):∃pre ks,ms=pre++[⟨1,0,(y.size:Nat),1,0,0,⟨#[]⟩,[],ks⟩]:=by
 cases h with
 |big _=>exact absurd b BI
 |at_ _ _ _=>exact absurd b BI
 |@ok l k d j i g f=>
  unfold okN at b⊢;split
  ·exact⟨d.flat 0,d.tops 0,Ah _ _ _⟩
  ·rename_i e;rw[aa e]at b;exact absurd b BI
theorem aiA:(kD ⟨#[]⟩).1=[⟨6,0,0,1,0,⟨#[]⟩⟩]:=by
 have a:ou ⟨#[]⟩=([⟨6,0,0,1,0,⟨#[]⟩⟩],[100,6], -1):=by
  unfold ou;rw[sE,ab (show(⟨#[]⟩:ByteArray).size<=_ from aG _)];rfl
 unfold kD;rw[a];rfl
theorem Kd{i:Nat}{y:ByteArray}(h:Dn ⟨#[]⟩ ((kD ⟨#[]⟩).1.take i) y):y.size=0:=by
 rw[aiA]at h;cases i with
 |zero=>cases h;rfl
 |succ i=>
  have:=h.no6 ⟨6,0,0,1,0,⟨#[]⟩⟩ (by simp);exact absurd rfl this
theorem agl{n:Nat}{a:List Tk}(h:TkO n a){q r:Nat}(c:q<=r)(b:r<a.length):0<=(uD a q).f/\(uD a q).f<=(uD a r).t/\0<=(uD a q).l:=by
 rw[Bq (aE (show q<a.length by omega)),Bq (aE b)];have d:=h.each a[q] (lG _);have e:=h.each a[r] (lG _);rcases jg c with rfl|g
 ·omega
 ·have:=(List.pairwise_iff_getElem.1 h.next) q r (by omega) b g;omega
theorem aaF{y:ByteArray}{l e:List Wt}{a:Fo}(g:y.size<=65536)(t:Rz y 0 e y.size)(q:Cd l e)(n:aau l a):∃X:Fo,X.bare=a/\X.all Pln/\Out y (okC (uE y X)) 0 (okN (uE y X)):=by
 obtain⟨j,i,z,h,k,v,r,X,m,d⟩:=agi t q n;have f:kD y=(j++[yC y i], -1):=by unfold kD;rw[h,aa (by simp),ab k]
 have a:=am5 g h (by simp) (Fv j (yC y i)) d fun u b=>by rw[Fu (aE b)];exact r _ (lG _)
 have c:=af0 y;rw[f]at c;exact⟨X,m,(P.pl (fun u w b s=>agl c b (by simpa using s)) d).2 trivial,Out.ok g f a⟩
theorem agm{ns:List Nd}(I:∀i:Nat,i<ns.length->B9 (ad ns i))(a3:Wp ns ns.length<=65536){y:ByteArray}{i:Nat}(b:Dn (iK ns) ((kD (iK ns)).1.take i) y)
  (f:(kD (iK ns)).1.length<=i\/∃T,(kD (iK ns)).1[i]?=O T/\T.k=6):(∃c a ms,Out y c a ms/\GdO y ms)/\y.size<=65536:=by
 have s:∀{x:ByteArray},x=⟨#[]⟩->Dn x ((kD x).1.take i) y->(∃c a ms,Out y c a ms/\GdO y ms)/\y.size<=65536:=fun {x} ap l=>by
  subst ap;have j:y.size<=65536:=by rw[Kd l];decide
  obtain⟨e,_,_,z⟩:=aaF (y:=y) j (by rw[Kd l];exact .nil) .nil Hu;exact⟨⟨_,_,_,z,fun g=>absurd (Kd l) g,If z⟩,j⟩
 unfold iK at b f;by_cases d:(cF ns).1=0
 case neg=>rw[aa d]at b;exact s rfl b
 rw[ab d]at b f;unfold EA at b f;by_cases t:65536<(jl ns).size
 case pos=>rw[ab t]at b;exact s rfl b
 rw[aa t]at b f;obtain⟨av,am,v,a4⟩:=aik d I;obtain⟨h,q,a6,ao,H,B,ak,_⟩:=agi am (Cd.refl av) v;have K:kD (jl ns)=(h++[yC (jl ns) q], -1):=by unfold kD;rw[ao,aa (by simp),ab H]
 rw[K]at b f;simp only at b f;have G:(h++[yC (jl ns) q]).take i=h:=by
  rcases bv h.length i with g|g
  ·have:=b.no6 (yC (jl ns) q) (by rw[cI (by simp;omega)];simp);exact absurd rfl this
  ·rcases f with a0|⟨e,E,a1⟩
   ·simp at a0;omega
   ·rcases bv i h.length with g2|g2
    ·rw[iD g2]at E;exact absurd a1 (ak e (dl E))
    ·rw[show i=h.length by omega,List.take_append_of_le_length (ag _),cI (ag _)]
 rw[G]at b;have j:y.size<=65536:=by have:=aiz B b;omega
 obtain⟨a2,af,m⟩:=anj B b;have m:=m ByteArray.empty;rw[Bj]at m;obtain⟨e,u,al,o⟩:=aaF (y:=y) j m af v;have n:=E5 d;have l:=n.len;have an:=(je (n.nb (ns.length-1) (by omega))).1;have w:=(J2 d).2.2;rw[show((ns.length:Int)-1)=((ns.length-1:Nat):Int) by omega]at u w;have L:(uE y e).map Nd.bk=ns.map Nd.bk:=by
  unfold uE;rw[<-xB,cD,u,<-aip d,rz n (by omega),wA an,w];rfl
 have C:cF (uE y e)=(0,0):=aiq L d fun r J=>by
  have:=(zA Pln (fun r a5 d=>d) _ 0 ((cj _ _ e).2 ⟨⟨Int.le_refl 0,by show(0:Int)<=(y.size:Nat);omega,by show(0:Int)<=1;decide⟩,al⟩) r J).1;exact this
 have F:okN (uE y e)=uE y e:=by unfold okN;rw[ab (by rw[C])]
 rw[F]at o;exact⟨⟨_,_,_,o,fun _=>by rw[C],If o⟩,j⟩
section
variable {ms : List Nd} {at_ : Int}
theorem aaG:∀{ks:List Int},(∀z∈ks,0<=z)->gB ms at_ ks= -1->∀z∈ks,kI (ms.getD z.toNat nI) at_=B0
 |[],_,_=>fun z d=>by cases d
 |z::r,a,h=>by
  rw[gB]at h;split at h
  ·have:=a z bz;omega
  ·rename_i b;intro y hy;rcases List.mem_cons.1 hy with rfl|hy
   ·simpa using b
   ·exact aaG (fun x c=>a x (dm _ c)) h y hy
theorem ajk(g:∀(i:Nat) N,ms[i]?=O N->∀r∈N.ks,0<=r/\r<(i:Int)):∀(f:Nat)(i:Int),(0<=i->i<(f:Int)/\i<(ms.length:Int))->∀(j:Nat) k,(jE ms at_ f i)[j]?=O k->
  ∃(x:Nat) (N:Nd),k=(x:Int)/\ms[x]?=O N/\kI N at_=A6/\(jE ms at_ f i)[j+1]?=(if gB ms at_ N.ks= -1 then S else O (gB ms at_ N.ks))
 |0,i,_,j,k,h=>by simp[jE]at h
 |f+1,i,m,j,k,h=>by
  rw[jE]at h⊢;split at h
  ·simp at h
  rename_i t;split at h
  ·rename_i e;rw[aa t,ab e];have m:=m (by omega);obtain⟨x,rfl⟩:=gc (show 0<=i by omega);have d:ms[x]?=O ms[x]:=aE (by omega);have s:ms.getD ((x:Int)).toNat nI=ms[x]:=by rw[fD,bc,d];rfl
   rw[s]at h e⊢;have a:=oL (ns:=ms) (at_:=at_) (ks:=(ms[x]).ks);obtain⟨c,n⟩:∃c,gB ms at_ (ms[x]).ks=c:=⟨_,rfl⟩;cases j with
   |zero=>
    refine⟨x,ms[x],by simpa using h.symm,d,e,?_⟩;rw[n]at a⊢;rw[List.getElem?_cons_succ];by_cases b:c= -1
    ·rw[b,tD];rfl
    ·rw[aa b];rcases a with a|⟨l,q⟩
     ·exact absurd a b
     ·have:=g x _ d c l;obtain⟨f,rfl⟩:∃u,f=u+1:=⟨f-1,by omega⟩;rw[jE,aa (by omega),ab q];rfl
   |succ j=>
    rw[List.getElem?_cons_succ]at h⊢;refine ajk g f _ (fun b=>?_) j k h;rw[n]at a b⊢;rcases a with a|⟨l,q⟩
    ·omega
    ·have:=g x _ d c l;omega
  ·simp at h
end
structure ank (s:ByteArray) (ms:List Nd) (at_:Int) (R:List Int):Prop where
 ge:(s.size:Int)<=at_->R=[]
 hd:at_<(s.size:Int)->1<=ms.length/\∃r,R=((ms.length:Int)-1)::r
 st:∀(j:Nat) k,R[j]?=O k->∃(x:Nat) (N:Nd),k=(x:Int)/\ms[x]?=O N/\(N.f<=at_/\at_<N.t/\N.ks.length<=200)/\(∀z∈N.ks,∃(y:Nat) (M:Nd),z=(y:Int)/\ms[y]?=O M)/\
  N.ks.any (fun z=>kI (ms.getD z.toNat nI) at_)=N.ks.any (fun z=>decide (R[j+1]?=O z))
theorem alC{s:ByteArray}{ms:List Nd}(h:GdO s ms){at_:Int}(w:0<=at_):ank s ms at_ (lr ms at_):=by
 have r:(cF ms).1=0->1<=ms.length/\kI (ms.getD (ms.length-1) nI) at_=decide (at_<(s.size:Int)):=fun a=>by
  obtain⟨pre,ks,rfl⟩:=h.last a;refine⟨by simp,?_⟩;rw[bc,aF,uG,mG,gF (ag _),gH];unfold kI;simp[w]
 refine⟨fun H=>?_,fun I=>?_,fun C E g=>?_⟩
 ·unfold lr;split
  ·rename_i a;obtain⟨n,i⟩:=r a;obtain⟨b,l⟩:∃b,ms.length=b+1:=⟨ms.length-1,by omega⟩;rw[l]at i⊢;rw[jE,aa (by omega),show(((b+1:Nat):Int)-1).toNat=b+1-1 by omega,i,aa (by simp;omega)]
  ·rfl
 ·have a:=h.ok (by omega);obtain⟨n,i⟩:=r a;refine⟨n,?_⟩;unfold lr;rw[ab a];obtain⟨b,l⟩:∃b,ms.length=b+1:=⟨ms.length-1,by omega⟩;rw[l]at i⊢;rw[jE,aa (by omega),show(((b+1:Nat):Int)-1).toNat=b+1-1 by omega,i,ab (by simp;omega)];exact⟨_,rfl⟩
 ·unfold lr at g⊢;by_cases a:(cF ms).1=0
  ·rw[ab a]at g⊢;have k:=lL a;obtain⟨x,d,u,f,m,v⟩:=ajk k.kid ms.length _ (fun _=>⟨by omega,by omega⟩) C E g;have z:∀c∈d.ks,∃(y:Nat) (t:Nd),c=(y:Int)/\ms[y]?=O t:=fun c e=>by
    have:=k.kid x d f c e;obtain⟨y,rfl⟩:=gc this.1;have J:=(List.getElem?_eq_some_iff.1 f).1;exact⟨y,_,rfl,aE (by omega)⟩
   refine⟨x,d,u,f,⟨(aH m).1,(aH m).2,k.kn d (dl f)⟩,z,?_⟩;rw[v];by_cases j:gB ms at_ d.ks= -1
   ·rw[ab j];have B:=aaG (fun c e=>(k.kid x d f c e).1) j;rw[List.any_eq_false.2 (fun c e=>by rw[B c e];simp),List.any_eq_false.2 (fun c e=>by simp)]
   ·rw[aa j];rcases oL (ns:=ms) (at_:=at_) (ks:=d.ks) with F|⟨q,G⟩
    ·exact absurd F j
    ·rw[List.any_eq_true.2 ⟨_,q,G⟩,List.any_eq_true.2 ⟨_,q,by simp⟩]
  ·rw[aa a]at g;simp at g
theorem Lw.kcap{w:Ax}{q g n c:Nat}{L:List Mb}(h:Lw w q (U (O ⟨g,0,S⟩) n c) L)(l:L.length=n):jm w ⟨g,0,S⟩ (L.map Mb.N):=fun a N r s d b=>by
 subst l;rw[cA]at d;obtain⟨y,e,rfl⟩:=Option.map_eq_some_iff.1 d;obtain⟨_,_,_,_,_,_,_,_,j⟩:=td h.row e;have k:(⟨((⟨g,0,S⟩:Addr).add (a*9)).block,((⟨g,0,S⟩:Addr).add (a*9)).off+8,S⟩:Addr)=⟨g,a*9+8,S⟩:=by
  unfold Addr.add;split<;>simp_all
 rw[k,j]at b;have m:=db b;have o:=(h.each y (dl e)).2;rw[m]at o;rcases o.2 with⟨f,i⟩|⟨v,t,u,f,_,_,i,_⟩
 ·omega
 ·cases f;exact i
theorem B9.small{N:Nd}(h:B9 N):iy N:=⟨by have:=h.nm;omega,by have:=h.ks;omega,by have:=h.x.size;omega,fun b a=>by have:=(h.s b a).sz;omega⟩
theorem Ig(ns:List Nd):(iK ns).size<=65536:=by
 unfold iK;split
 ·unfold EA;split
  ·decide
  ·omega
 ·decide
def GdX(t:ByteArray):Prop:=∃a:List Mb,(∀y∈a,B9 y.N)/\a.length<=265/\bigs a<=3/\LoR (iK (a.map Mb.N)) (kD (iK (a.map Mb.N))).1 t
theorem alD{E:Bs}{n:Ax}{y:Int}(h:Cu E n y)(c:y<=10):A8 V 10 #[cV E] n fun e l=>∃(t:ByteArray) (m:Nat),e= A3 (Cr t)/\(t.size<=1048576/\GdX t)/\Cu {E with g:=m} l 40000000/\Q E.base n l:=by
 have J:=am6 h c;go_in;go_wp2_with fail;refine J.mono ?_;rintro e w1 ⟨g,K,G,a,rfl,u,ak,r,j,i,I⟩;have s:∀o,A8 V 18 #[B4 #[U (O ⟨g,0,S⟩) K G]] (w1.alloc o) fun e l=>e= A3 (Cr (iK (a.map Mb.N)))/\Q (w1.alloc o).heap.size (w1.alloc o) l:=fun o=>by
  have B:=bI w1 o;have nd:=r.nds;exact Cw (w1.alloc o) ⟨g,0,S⟩ K G (a.map Mb.N) (nd.below B) ((r.kcap u).below nd B) (by rw[dL,u]) (by omega)
   (fun af b=>by obtain⟨y,c,rfl⟩:=List.mem_map.1 b;exact(j y c).small) (fun af b=>by obtain⟨y,c,rfl⟩:=List.mem_map.1 b;exact(j y c).int)
 have H:=Ig (a.map Mb.N);have z:Y (∀t,LoR (iK (a.map Mb.N)) (kD (iK (a.map Mb.N))).1 t->GdX t):=fun t k=>⟨a,j,by omega,i.g3,k⟩;generalize iK (a.map Mb.N)=P at s H z;obtain⟨m,b⟩:=aA (bigs a);rw[b]at i;have d:=eH i I;clear J r j i I u ak b;go_wp2_with fail;refine cd (s _) fun am C=>?_;have q:=(bI w1 _).trans (C.mono (bI w1 _).size);have v:=d.out.1.below q d.out.1.lt;have al:=alo v (by decide) P H;have L:=aj (d.out.2.trans (q.mono d.out.1.lo.2));clear s C q v;go_wp2_with fail;refine al.mono ?_;rintro e an ⟨t,rfl,k,w,F⟩;have f:=jn k w F;clear w F k;go_wp2_with fail;go_ret;exact⟨t,m,rfl,⟨f.out.1.1,z.out _ f.out.1.2⟩,f.out.2.1,L.out.trans f.out.2.2⟩
theorem agn(w:Ax)(b:Option Addr)(a cap:Nat)(j:a<=1048576)(i:Code w.heap.size w b a):
  A8 V 4 #[U b a cap] w fun e m=>∃s:ByteArray,e= A3 (Cr s)/\(s.size<=1048576/\GdX s)/\Q w.heap.size w m:=by
 have c:=bI w (Z #[U b a cap,A0 A1 0,A0 .u64 0,A0 A1 0] 41);have h:Cu ⟨w.heap.size,w.heap.size,0,b,a,cap,0,0⟩ (w.alloc (Z #[U b a cap,A0 A1 0,A0 .u64 0,A0 A1 0] 41)) 0:=⟨⟨ag _,c.size⟩,j,i.below c,0,0,0,ar w _,by decide,by decide,by decide,by decide,Int.le_refl 0⟩;have k:=alD h (by decide);go_in;go_wp2_with fail;refine k.mono ?_;rintro e w1 ⟨l,n,rfl,d,_,g⟩;have f:=aj d;clear d;go_wp2_with fail;go_ret;exact⟨l,rfl,f.out,c.trans g⟩
structure Fw (W1:Ax) (ns:List Nd) (at_:Int) (n:Nat) (R:List Int) (i:Int) (vo:A2) (W:Ax):Prop where
 bl:Q W1.heap.size W1 W
 ex:∃(out:List Int) (f:Nat),W.ownsRow W1.heap.size 3 1 vo out.length (out.map (A4 .i64))/\out++jE ns at_ f i=R/\out.length+f<=n/\i<(f:Int)
theorem Fx(w:Ax)(v:A2)(ns:List Nd)(at_:Int)(h:co w v ns)(n:ns.length<=1048576)(r:∀N∈ns,iy N)(j:¬(cF ns).1=0):
  A8 V 9 #[B4 #[v],A0 A1 at_] w fun e u=>e= A3 (U S 0 0)/\Q w.heap.size w u:=by
 have l:∀o,Q w.heap.size w (w.alloc o):=fun o=>(ai _ w).alloc (ag _) o;have a:=fun o=>rm (w.alloc o) v ns (h.below (l o)) n r;obtain⟨s,t,rfl⟩:=h.form;obtain⟨f,q⟩:∃f,ns.length=f:=⟨_,rfl⟩;rw[q]at a⊢;obtain⟨b,d⟩:∃b,(cF ns).1=b:=⟨_,rfl⟩;obtain⟨g,k⟩:∃g,(cF ns).2=g:=⟨_,rfl⟩;rw[d,k]at a;rw[d]at j;have B:(b==0)=B0:=by rw[aL];exact j
 clear h n r q d k;go_enter Tryz.func9,Tryz.ntmps9;go_wp2_with (go_at_call 13;fail);have c:=l (Z #[U s f t] 26);refine(a _).mono ?_;rintro e z ⟨rfl,m⟩;have i:Q w.heap.size w z:=c.trans (m.mono c.size);clear a m c;go_wp2_with fail;go_ret;exact⟨rfl,i.alloc i.size _⟩
theorem Ih(w:Ax)(v:A2)(ns:List Nd)(at_:Int)(h:co w v ns)(dd:ns.length<=1048576)(dp:∀N∈ns,iy N)(a7:(cF ns).1=0):
  A8 V 9 #[.agg #[v],.int .i64 at_] w fun e d9=>∃cm,e= .returned cm/\d9.ownsRow w.heap.size 3 1 cm (lr ns at_).length ((lr ns at_).map (A4 .i64))/\Q w.heap.size w d9:=by
 have bo:=lL a7;have bj:lr ns at_=jE ns at_ ns.length ((ns.length:Int)-1):=ab a7;obtain⟨l,c6⟩:∃l,lr ns at_=l:=⟨_,rfl⟩;rw[c6]at bj⊢;have c7:∀o,Q w.heap.size w (w.alloc o):=fun o=>(ai _ w).alloc (ag _) o;have bn:=fun o=>rm (w.alloc o) v ns (h.below (c7 o)) dd dp;obtain⟨B,C,rfl⟩:=h.form;obtain⟨a,bf⟩:∃a,ns.length=a:=⟨_,rfl⟩;have G:Y (co w (.slice B a C) ns/\ns.length=a/\Jt ns):=⟨by rw[<-bf];exact h,bf,bo⟩;rw[bf]at bn bj⊢;obtain⟨a3,c4⟩:∃a3,(cF ns).2=a3:=⟨_,rfl⟩;rw[a7,c4]at bn;have gf:1<=a:=by have:=bo.len.1;omega
 have gm:a<=3000:=by have:=bo.len.2;omega
 have eb:Y (l=jE ns at_ a ((a:Int)-1)):=bj;clear h dd dp bf c4 a7 bo bj c6;obtain⟨e1,e2,e3,e4,e5⟩:=fl pJ;go_enter Tryz.func9,Tryz.ntmps9;go_wp2_with (go_at_call 13;fail);have eA:(w.alloc (.cells #[.slice B a C] 26)).heap.size=w.heap.size+1:=bu _ _;have c:Y (Q w.heap.size w (w.alloc (.cells #[.slice B a C] 26))/\(w.alloc (.cells #[.slice B a C] 26)).cell? ⟨w.heap.size,0,S⟩=O (.slice B a C)):=⟨c7 _,cK (ar w _)⟩;refine(bn _).mono ?_;rintro e a0 ⟨rfl,al⟩;clear bn;generalize w.alloc (.cells #[.slice B a C] 26)=b at eA c al⊢;have cx:=ah al c.out.2;have eq:w.heap.size<a0.heap.size:=by have:=al.size;omega
 have es:w.heap.size≠a0.heap.size:=by omega
 have bp:Y (Q b.heap.size b a0):=al;clear al;go_wp2_with fail;have cl:Fw b ns at_ a l ((a:Int)-1) (.slice S 0 0) (a0.alloc (.cells #[.int .i64 0,.int .i64 a3] 48)):=
  ⟨bp.out.alloc bp.out.size _,[],a,bi _ _ _ _,eb.out.symm,by simp,by omega⟩
 generalize a0.alloc (.cells #[.int .i64 0,.int .i64 a3] 48)=fg at cl⊢;clear cx eq es bp;go_loopw [6,7] (fun dx ap wr=>∃(E:Int),ap= .int .i64 E/\(∃B C,∃k:Nat,dx= .slice B k C)/\ -1<=E/\E<(a:Int)/\Y (Fw b ns at_ a l E dx wr)) (fun _ ap _=>(A9 ap+1).toNat)
 case atStart=>exact⟨(a:Int)-1,rfl,⟨_,_,_,rfl⟩,by omega,by omega,cl⟩
 case round=>
  obtain⟨E,rfl,⟨bs,bt,gs,rfl⟩,f4,f6,d⟩:=hrel;clear cl;obtain⟨s,L,J,g,ev,f5⟩:=d.out.ex;obtain⟨fo,fz,ef⟩:=cH J;cases ef;obtain⟨k,cb⟩:∃k,s.length=k:=⟨_,rfl⟩;rw[cb]at J ev⊢;by_cases el:E<0
  ·have em:E= -1:=by omega
   subst em;have ey:s=l:=by rw[tD,fj]at g;exact g
   have j:Y (wr.ownsRow b.heap.size 3 1 (.slice bs k bt) k (s.map (A4 .i64))/\Q b.heap.size b wr/\s=l):=⟨J,d.out.bl,ey⟩;clear J g d;go_wp2_with fail;go_ret;refine⟨_,rfl,?_,c.out.1.trans (j.out.2.1.mono c.out.1.size)⟩;rw[<-j.out.2.2,cb];exact my j.out.1 c.out.1.size
  ·obtain⟨n,rfl⟩:=gc (show 0<=E by omega);obtain⟨L,rfl⟩:∃u,L=u+1:=⟨L-1,by omega⟩;have ew:n<a:=by omega
   obtain⟨N,af⟩:=bH G.out.2.1 ew;have dc:ns.getD n nI=N:=by rw[bc,af];rfl
   obtain⟨fk,eg,gz,gu,ek⟩:=(G.out.1.below c.out.1).get af;subst eg;obtain⟨bw,bx,bA,bD,bE,b0,b1,a5,a6,df,bd⟩:=ek;replace bw:=ah d.out.bl bw;replace bx:=ah d.out.bl bx;replace bA:=ah d.out.bl bA;replace bD:=ah d.out.bl bD;replace bE:=ah d.out.bl bE;replace b0:=ah d.out.bl b0;replace b1:=ah d.out.bl b1;replace a5:=ah d.out.bl a5;replace a6:=ah d.out.bl a6;obtain⟨fq,fA,rfl⟩:=df.form;obtain⟨cu,cz,rfl⟩:=bd.form;have et:∃e6,N.nm.length=e6:=⟨_,rfl⟩;obtain⟨ff,c5⟩:=et;obtain⟨z,b2⟩:∃e7,N.ks.length=e7:=⟨_,rfl⟩;have eo:=G.out.2.2.kn N (dl af);rw[c5]at a5;rw[b2]at a6 bd eo;have cB:=ah d.out.bl c.out.2;have eF:w.heap.size<wr.heap.size:=vy cB;have eL:w.heap.size≠wr.heap.size:=by omega
   rw[jE,aa el,fD,dc]at g;have t:Y (aK b (.slice cu z cz) N.ks/\N.ks.length=z/\ns[n]?=O N/\Q b.heap.size b wr):=⟨bd,b2,af,d.out.bl⟩;have gr:(0:Int)<=(n:Int):=by omega
   have j:Y (wr.ownsRow b.heap.size 3 1 (.slice bs k bt) k (s.map (A4 .i64))/\s.length=k):=⟨J,cb⟩;have ge:k<=3000:=by omega
   unfold kI at g;clear df bd c5 b2 af dc d J;by_cases H:N.f<=at_
   ·by_cases I:at_<N.t
    ·rw[ab (bg ⟨H,I⟩)]at g;have q:Y (s++(n:Int)::jE ns at_ L (gB ns at_ N.ks)=l):=g;have b8:¬at_<N.f:=by omega
     have c8:¬N.t<=at_:=by omega
     clear g;have dg:∀cf (cs:Array A2) (F:B2),((wr.alloc cf).alloc (.cells cs F)).heap[wr.heap.size+1]?=O (.cells cs F (0,0)):=fun cf cs F=>by
      have:=ar (wr.alloc cf) (.cells cs F);rw[bu]at this;exact this
     have c3:∀(cs:Array A2)(F:B2) dn,((wr.alloc (.cells cs F)).alloc dn).heap[wr.heap.size]?=O (.cells cs F (0,0)):=fun cs F dn=>(dt _ _ _ (by simp)).trans (ar wr _);have ce:∀u,(Ce bs k bt).ownBlock=O u->b.heap.size<=u/\u<wr.heap.size:=fun u b7=>j.out.1.lt u b7;have e0:=t.out.2.2.2.size;go_wp2_with (at_builtin;refine pH _ rfl _ _ 31 rfl b.heap.size 3 e1 _ 1 8 Tryz.underlying31 e2 e3 e4 e5 rfl (by decide) _ _ _ rfl ((j.out.1.alloc _).alloc _) ⟨wr.heap.size+1,0,S⟩ 1 1 [.int .i64 (n:Int)] rfl rfl (World.news_of_block (cs:=#[.int .i64 (n:Int)]) (fr:=(0,0)) (dg _ _ _)) (by intro gt dj;simp at dj;subst dj;rfl) (by unfold maxLen;omega) (by omega) (by simp;omega) ?_;intro cm a1 cc b9 er;obtain⟨c0,cy,rfl⟩:=B6 cc;have fb:a1.cell? ⟨wr.heap.size,8,S⟩=O (.slice cu z cz):=(b9.cell_far ⟨wr.heap.size,8,S⟩ (by simp;omega) (fun e=>by have:=ce _ e.symm;simp at this)).trans (by rw[ay _ _ _ _ _ _ (c3 _ _ _)];rfl));have ba:Q b.heap.size b a1:=((t.out.2.2.2.alloc e0 _).alloc (by simp;omega) _).grown b9 (by simp;omega) (fun u b7=>(ce u b7).1);obtain⟨f,a8⟩:∃f,gB ns at_ N.ks=f:=⟨_,rfl⟩;have b4:=oL (ns:=ns) (at_:=at_) (ks:=N.ks);rw[a8]at b4;have f0: -1<=f/\f<(n:Int):=by
      rcases b4 with e|⟨e,_⟩
      ·omega
      ·have:=G.out.2.2.kid n N t.out.2.2.1 f e;omega
     have ds:Fw b ns at_ a l f (.slice (O ⟨c0,0,S⟩) (k+1) cy) a1:=by
      refine⟨ba,s++[(n:Int)],L,?_,?_,?_,?_⟩
      ·rw[aF,j.out.2,fK];exact cc
      ·rw[dC,<-a8];exact q.out
      ·rw[aF,j.out.2];simp;omega
      ·omega
     have ee:Y (Fw b ns at_ a l f (.slice (O ⟨c0,0,S⟩) (k+1) cy) a1):=ds;have cq:Y (Q b.heap.size b a1):=ba;have cr:Hc ns at_ (N.ks.drop 0) f:=⟨a8⟩;have fB:=ah ba c.out.2;clear ds ba a8 b4 cc b9 er q j ce dg c3 fb cB eF eL bw bx bA bD bE b0 b1 a5 a6 b8 c8 H I;go_loop [7,45] (fun ap cp=>∃(i:Nat) (r:Int),i<=z/\cp= .int .i64 i/\ap= .int .i64 r/\(r= -1/\Hc ns at_ (N.ks.drop i) f\/0<=r/\r=f)) (fun _ cp=>z-(A9 cp).toNat)
     case atStart=>exact⟨0, -1,aG _,rfl,rfl,.inl ⟨rfl,cr⟩⟩
     case round=>
      obtain⟨i,r,f7,rfl,rfl,b5⟩:=hrel;clear cr;by_cases en:i<z
      ·have f9:(i:Int)<(z:Int):=by omega
       have f8:(0:Int)<=(i:Int):=by omega
       obtain⟨e8,am⟩:=bH t.out.2.1 en;obtain⟨fu,ei,f3⟩:=(t.out.1.below cq.out).get am;subst ei;obtain⟨ao,bk⟩:=G.out.2.2.kid n N t.out.2.2.1 e8 (dl am);obtain⟨K,rfl⟩:=gc ao;have ep:K<a:=by omega
       rcases b5 with⟨rfl,a4⟩|⟨f1,bb⟩
       ·have m:=a4.out;have ca:=List.getElem?_eq_some_iff.1 am;rw[ly ca.1,ca.2,gB,fD]at m;obtain⟨br,b3⟩:=bH G.out.2.1 ep;obtain⟨fn,eh,g0,gv,b6⟩:=(G.out.1.below (c.out.1.trans (cq.out.mono c.out.1.size))).get b3;obtain rfl:=db eh;have fv:=b6.c1;have cx:=b6.c2;have da:ns.getD K nI=br:=by rw[bc,b3];rfl
        rw[da]at m;unfold kI at m;have gd:(K:Int)<(a:Int):=by omega
        have gb:(0:Int)<=(K:Int):=by omega
        clear b6 b3 da am ca a4;by_cases H:br.f<=at_
        ·by_cases I:at_<br.t
         ·rw[ab (bg ⟨H,I⟩)]at m;have ec:Y ((K:Int)=f):=m;clear ao bk m;go_wp2_with fail;go_round
          case rel=>exact⟨i+1,K,by omega,by go_num,rfl,.inr ⟨by omega,ec.out⟩⟩
          case measure=>simp[A9];omega
         ·rw[aa (fun h=>I (aH h).2)]at m;have bq:Hc ns at_ (N.ks.drop (i+1)) f:=⟨m⟩;clear m ao bk;go_wp2_with fail;go_round
          case rel=>exact⟨i+1, -1,by omega,by go_num,rfl,.inl ⟨rfl,bq⟩⟩
          case measure=>simp[A9];omega
        ·rw[aa (fun h=>H (aH h).1)]at m;have bq:Hc ns at_ (N.ks.drop (i+1)) f:=⟨m⟩;clear m ao bk;go_wp2_with fail;go_round
         case rel=>exact⟨i+1, -1,by omega,by go_num,rfl,.inl ⟨rfl,bq⟩⟩
         case measure=>simp[A9];omega
       ·have f2:¬r<0:=by omega
        have ea:Y (r=f):=bb;clear am ao bk bb;go_wp2_with fail;go_round
        case rel=>exact⟨i+1,r,by omega,by go_num,rfl,.inr ⟨by omega,ea.out⟩⟩
        case measure=>simp[A9];omega
      ·obtain rfl:i=z:=by omega
       have bb:r=f:=by
        rcases b5 with⟨rfl,a4⟩|⟨_,e⟩
        ·have:=a4.out;rw[lA (by rw[t.out.2.1];exact ag _),gB]at this;exact this
        ·exact e
       subst bb;clear b5;go_wp2_with fail;exact⟨⟨r,rfl,⟨_,_,_,rfl⟩,by omega,by omega,ee⟩,by simp[A9];omega⟩
    ·rw[aa (fun h=>I (aH h).2),fj]at g;have b8:¬at_<N.f:=by omega
     have c8:N.t<=at_:=by omega
     have q:Y (s=l/\Q b.heap.size b wr):=⟨g,t.out.2.2.2⟩;clear g I;go_wp2_with fail;go_ret;refine⟨_,rfl,?_,(c.out.1.trans (q.out.2.mono c.out.1.size)).alloc (dh c.out.1.size q.out.2.size) _⟩;rw[<-q.out.1,j.out.2];exact(my j.out.1 c.out.1.size).alloc _
   ·rw[aa (fun h=>H (aH h).1),fj]at g;have b8:at_<N.f:=by omega
    have q:Y (s=l/\Q b.heap.size b wr):=⟨g,t.out.2.2.2⟩;clear g H;go_wp2_with fail;go_ret;refine⟨_,rfl,?_,(c.out.1.trans (q.out.2.mono c.out.1.size)).alloc (dh c.out.1.size q.out.2.size) _⟩;rw[<-q.out.1,j.out.2];exact(my j.out.1 c.out.1.size).alloc _
theorem Fy(w:Ax)(v:A2)(ns:List Nd)(at_:Int)(h:co w v ns)(c:ns.length<=1048576)(d:∀N∈ns,iy N):
  A8 V 9 #[B4 #[v],A0 A1 at_] w fun e b=>∃f,e= A3 f/\b.ownsRow w.heap.size 3 1 f (lr ns at_).length ((lr ns at_).map (A4 A1))/\Q w.heap.size w b:=by
 by_cases a:(cF ns).1=0
 ·exact Ih w v ns at_ h c d a
 ·have i:lr ns at_=[]:=aa a;rw[i];refine(Fx w v ns at_ h c d a).mono ?_;rintro e b ⟨rfl,g⟩;exact⟨_,rfl,bi _ _ _ _,g⟩
theorem acn(ns:List Nd)(at_:Int):(lr ns at_).length<=3000:=by
 unfold lr;split
 ·rename_i a;have:=(lL a).len.2;have:=Do (ns:=ns) (at_:=at_) (f:=ns.length) (i:=(ns.length:Int)-1);omega
 ·simp
theorem aco(w:Ax)(a:Option Addr)(b cap:Nat)(r:b<=1048576)(c:Code w.heap.size w a b)(i:Int)(m:0<=i)(n:i<=1):
  A8 V 6 #[U a b cap,A0 A1 i] w fun e j=>∃f:Int,e= A3 (A0 A1 f)/\0<=f/\f<=255/\j=w:=by
 by_cases g:b=0
 ·subst g;go_in;go_wp2_with fail;go_ret;exact⟨0,rfl,by decide,by decide,rfl⟩
 ·rcases c with c|⟨k,z,rfl,_,c⟩
  ·exact absurd c g
  ·obtain⟨d,t⟩:∃d:Nat,i%(b:Int)=(d:Int):=gc (Int.emod_nonneg _ (by omega));have h:d<b:=by have:=Int.emod_lt_of_pos i (show(0:Int)<(b:Int) by omega);omega
   obtain⟨f,z0,B,q⟩:=c d h;have l:((b:Int)==0)=B0:=by rw[aL];omega
   have s:(0:Int)<(b:Int):=by omega
   have v:(d:Int)<(b:Int):=by omega
   have u:(0:Int)<=(d:Int):=by omega
   clear c g;go_in;go_wp2_with fail;go_ret;exact⟨f,rfl,z0,by omega,rfl⟩
theorem acp(w:Ax)(k m:A2)(l:List Int)(f:aK w k l)(g:aK w m l)(v:l.length<=1048576):
  A8 V 8 #[k,m] w fun e B=>e= A3 (.bool A6)/\Q w.heap.size w B:=by
 obtain⟨q,s,rfl⟩:=f.form;obtain⟨r,t,rfl⟩:=g.form;obtain⟨b,d⟩:=aA l.length;have n:=aj d;have j:Y (aK w (U q b s) l/\aK w (U r b t) l):=by rw[<-d];exact⟨f,g⟩
 rw[d]at v⊢;clear f g d;have H:((b:Int)!=(b:Int))=B0:=by simp
 go_in;go_wp2_with fail;go_loopw [13] (fun i wr=>∃a:Nat,a<=b/\i= A0 A1 a/\Q w.heap.size w wr) (fun i _=>b-(A9 i).toNat)
 case atStart=>exact⟨0,by omega,rfl,ai _ _⟩
 case round=>
  obtain⟨a,I,rfl,c⟩:=hrel;by_cases z:a<b
  ·obtain⟨K,h⟩:=bH n.out z;obtain⟨C,rfl,F⟩:=(j.out.1.below c).get h;obtain⟨E,rfl,G⟩:=(j.out.2.below c).get h;have u:(a:Int)<(b:Int):=by omega
   have J:(0:Int)<=(a:Int):=by omega
   clear h;go_wp2_with fail;go_quiet (fail)
   go_wp2_with fail;exact⟨⟨a+1,by omega,by go_num,lH c _⟩,by simp[A9];omega⟩
  ·obtain rfl:a=b:=by omega
   have u:¬(a:Int)<(a:Int):=by omega
   go_wp2_with fail;go_ret;exact⟨rfl,c⟩
theorem jF{b:Func}{p q:Tmp}{u:B2}(h:b.results=#[.tmp p,.cell q u])(tmps:Array A2)(P:Program)(w:Ax)(a:Addr)(v c:A2)(e:tmps.getD p C0=v)(g:tmps.getD q C0= A7 (O a))
  (d:(loadVar u a).run P w= .ok c w):(results b tmps).run P w= .ok (Ck #[v,c]) w:=by
 have f:tmps[p]?.getD C0=v:=by simpa using e
 have i:tmps[q]?.getD C0= A7 (O a):=by simpa using g
 simp only[results,h];simp[Result.andThen,f,i,asAddr,d]
theorem qi(w:Ax)(b:Nat)(c n:Int)(h:jC b w c n):(loadVar 48 ⟨b,0,S⟩).run V w= .ok (.agg #[.int .i64 c,.int .i64 n]) w:=
 run_loadVar_row w b 48 48 _ _ _ h Tryz.underlying48 rfl (by kernel_rfl)
def BJ(w:Ax)(ns:List Nd)(e:Ending)(b:Ax):Prop:=
 Q w.heap.size w b/\
 (((cF ns).1≠0/\e= A3 (Ck #[Br,B4 #[A0 A1 (cF ns).1,A0 A1 (cF ns).2]]))\/
  (cF ns=(0,0)/\∃c d a x,e= A3 (Ck #[nV x,B4 #[A0 A1 0,A0 A1 0]])/\a[ns.length-1]?=O x/\a.map Im.N=ns/\kF b c d a/\∀x∈a,bF w x.vn x.N.nm))
theorem Ii(w:Ax)(v:A2)(ns:List Nd)(h:co w v ns)(B:ns.length<=1048576)(r:gJ ns=A6):
  A8 V 14 #[B4 #[v]] w fun e K=>e= A3 (Ck #[Br,B4 #[A0 A1 1,A0 A1 0]])/\Q w.heap.size w K:=by
 obtain⟨L,af,rfl⟩:=h.form;have i:∀b c,Q w.heap.size w ((w.alloc b).alloc c):=fun b c=>((ai _ w).alloc (ag _) b).alloc (by simp) c;have u:∀b (g:Array A2) (l:B2),((w.alloc b).alloc (Z g l)).heap[w.heap.size+1]?=O (Z g l (0,0)):=fun b g l=>by
  have:=ar (w.alloc b) (Z g l);rw[bu]at this;exact this
 have s:=aH r;by_cases d:ns.length=0
 ·rw[d];go_in;go_wp2;exact bB (jF rfl _ _ _ ⟨w.heap.size+1,0,S⟩ _ _ rfl rfl (qi _ _ 1 0 (u _ _ _))) rfl ⟨rfl,i _ _⟩
 by_cases f:3000<ns.length
 ·obtain⟨a,j⟩:∃a:Nat,ns.length=a+1:=⟨ns.length-1,by omega⟩;rw[j]at f B⊢;have G:decide ((a:Int)<0)=B0:=az (by omega);have H:(3000:Int)<=(a:Int):=by omega
  have J:(0:Int)<=(a:Int):=by omega
  clear h r s d f j;go_in;go_wp2;exact bB (jF rfl _ _ _ ⟨w.heap.size+1,0,S⟩ _ _ rfl rfl (qi _ _ 1 0 (u _ _ _))) rfl ⟨rfl,i _ _⟩
 ·have I:(ns.getD (ns.length-1) nI).k≠1:=by rcases s with e|e|e;exact absurd e d;exact absurd e f;exact e
  have t:ns.length-1<ns.length:=by omega
  obtain⟨m,q⟩:∃m,ns[ns.length-1]?=O m:=⟨_,aE t⟩;rw[bc,q,ii]at I;obtain⟨F,rfl,ao,an,z⟩:=h.get q;have n:=z.c0;obtain⟨E,C⟩:=aA ns.length;rw[C]at n d f B t⊢;obtain⟨a,j⟩:∃a:Nat,E=a+1:=⟨E-1,by omega⟩;subst j;rw[mG]at n;have ak:((a+1:Nat):Int)-1=(a:Int):=by omega
  have J:(0:Int)<=(a:Int):=by omega
  have G:decide ((a:Int)<0)=B0:=az (by omega);have H:decide ((3000:Int)<=(a:Int))=B0:=az (by omega);have am:(a:Int)<(a:Int)+1:=by omega
  have al:∀b c,((w.alloc b).alloc c).cell? (F.add (a*9))=O (A0 A1 m.k):=fun b c=>ah (i b c) n;clear h r s d f q z C t;go_in;go_wp2;exact bB (jF rfl _ _ _ ⟨w.heap.size+1,0,S⟩ _ _ rfl rfl (qi _ _ 1 0 (u _ _ _))) rfl ⟨rfl,i _ _⟩
structure ago (w0:Ax) (lb mb:Nat) (vs:A2) (L:List Im) (W:Ax):Prop where
 bl:Q w0.heap.size w0 W
 lk:Lk W lb mb vs
 ns:kF W w0.heap.size vs L
theorem jC.keep{b a:Nat}{d e:Ax}{c n:Int}(h:jC b d c n)(f:Q a d e)(g:b<a):jC b e c n:=(f.block _ g).trans h
theorem alE(c:Nat):stT c≠48:=by
 unfold stT;split<;>decide
theorem kF.setFt{a:Ax}{base:Nat}{g:A2}{L:List Im}(h:kF a base g L){b:Nat}{c n:Int}(i:jC b a c n)(f:b<base)(j:Nat)(v:A2):kF (a.setCell ⟨b,j,S⟩ v) base g L:=
 ⟨DC h.row f _,fun e x d=>(bh a ⟨b,j,S⟩ x.b v (qs (h.box e x d) (show a.heap[b]?=O (Z #[A0 A1 c,A0 A1 n] 48 (0,0)) from i) (alE _))).trans (h.box e x d),fun e x d=>DC (h.kid e x d) f _,h.far,h.rng⟩
theorem kF.putFt{a:Ax}{base:Nat}{g:A2}{L:List Im}(h:kF a base g L){b:Nat}{c n:Int}(f:jC b a c n)(e:b<base)(d i:Int):kF ((a.setCell ⟨b,0,S⟩ (A0 A1 d)).setCell ⟨b,1,S⟩ (A0 A1 i)) base g L:=
 (h.setFt f e 0 _).setFt (c:=d) (n:=n) (cE _ b 0 _ _ _ f) e 1 _
structure an2 (w:Ax) (v:A2) (w0:Ax):Prop where
 tb:w0.heap[w.heap.size]?=O (.cells #[v] 26 (0,0))
 fb:jC (w.heap.size+1) w0 0 0
 bl:Q w.heap.size w w0
 sz:w0.heap.size=w.heap.size+1+1
theorem Ij(w:Ax)(v:A2)(ns:List Nd)(h:co w v ns)(g7:ns.length<=1048576)(fB:∀N∈ns,iy N)(fk:ql w)(c2:B2)(fr:Nat×Nat)(ew:w.heap[0]?=O (Z fd c2 fr))
  (fu:∀q,Q w.heap.size w q->B3 V q "strings.asciiSpace" .u8 A5) (cr:gJ ns=B0):
  A8 V 14 #[B4 #[v]] w (BJ w ns):=by
 obtain⟨ht,G,rfl⟩:=h.form;have bA:=lB cr;have bf:=jn h fB cr;have br:=jn fk ew fu;have et:¬ns.length=0:=fun e=>bA (.inl e);have ev:¬3000<ns.length:=fun e=>bA (.inr (.inl e));have ce:(ns.getD (ns.length-1) nI).k=1:=by
  by_cases I:(ns.getD (ns.length-1) nI).k=1
  ·exact I
  ·exact absurd (.inr (.inr I)) bA
 obtain⟨N,K⟩:∃N,ns[ns.length-1]?=O N:=⟨_,aE (by omega)⟩;rw[bc,K,ii]at ce;obtain⟨J,rfl,h6,h4,fg⟩:=h.get K;have bp:=fg.c0;rw[ce]at bp;have e9:∀a3 a4,Q w.heap.size w ((w.alloc a3).alloc a4):=fun a3 a4=>((ai _ w).alloc (ag _) a3).alloc (by simp) a4;obtain⟨b3,cB⟩:=aA ns.length;have al:Y (ns.length=b3):=cB;rw[cB]at bf bp et ev⊢;obtain⟨a,g8⟩:∃a:Nat,b3=a+1:=⟨b3-1,by omega⟩;have fo:b3-1=a:=by omega
 rw[fo]at bp;have hL:a<3000:=by omega
 have hE:((a+1:Nat):Int)-1=(a:Int):=by omega
 have h0:(0:Int)<=(a:Int):=by omega
 have hC:decide ((a:Int)<0)=B0:=az (by omega);have hD:decide ((3000:Int)<=(a:Int))=B0:=az (by omega);have h3:(a:Int)<(a:Int)+1:=by omega
 have g0:∀a3 a4,((w.alloc a3).alloc a4).cell? (J.add (a*9))=O (A0 A1 1):=fun a3 a4=>ah (e9 a3 a4) bp;clear h cr bA et ev ce K fg cB g7 fB fk ew fu fo bp;subst g8;go_in;go_wp2_with fail;have dd:((w.alloc (Z #[U (O J) (a+1) G] 26)).alloc (Z #[A0 A1 0,A0 A1 0] 48)).heap[w.heap.size]?=O (Z #[U (O J) (a+1) G] 26 (0,0)):=(dt _ _ _ (by simp)).trans (ar w _);have c7:jC (w.heap.size+1) ((w.alloc (Z #[U (O J) (a+1) G] 26)).alloc (Z #[A0 A1 0,A0 A1 0] 48)) 0 0:=by
  have:=ar (w.alloc (Z #[U (O J) (a+1) G] 26)) (Z #[A0 A1 0,A0 A1 0] 48);rw[bu]at this;exact this
 have j:Y (an2 w (U (O J) (a+1) G) ((w.alloc (Z #[U (O J) (a+1) G] 26)).alloc (Z #[A0 A1 0,A0 A1 0] 48))):=⟨dd,c7,e9 _ _,by simp⟩;generalize (w.alloc (Z #[U (O J) (a+1) G] 26)).alloc (Z #[A0 A1 0,A0 A1 0] 48)=l at j⊢;clear dd c7 g0;have b0:=au br.out.2.1;have bs:Y (ql l/\l.heap[0]?=O (Z fd c2 fr)/\(∀q,Q l.heap.size l q->B3 V q "strings.asciiSpace" .u8 A5)):=
  ⟨br.out.1.below j.out.bl (ag _),(j.out.bl.block _ b0).trans br.out.2.1,fun q gv=>br.out.2.2 q (j.out.bl.trans (gv.mono j.out.bl.size))⟩
 refine(Cf (H:=Unit) l fr c2 bs.out.2.1).mono ?_;rintro e s ⟨rfl,cy,bD⟩;obtain⟨F,cz⟩:=aA l.heap.size;have ha:=j.out.sz;have gr:s.cell? ⟨w.heap.size,0,S⟩=O (U (O J) (a+1) G):=cK ((bD.block _ (by omega)).trans j.out.tb);have hc:=bD.size;have hg:w.heap.size<s.heap.size:=by omega
 have hj:w.heap.size≠s.heap.size:=by omega
 rw[cz]at cy⊢;have a6:=jn cy bD cz;clear cy bD cz b0 ha hc;go_wp2_with fail;have c6:=ar s (Z #[.map (O F),U S 0 0] 80);have cs:Q s.heap.size s (s.alloc (Z #[.map (O F),U S 0 0] 80)):=(ai _ s).alloc (ag _) _;have b4:ago l s.heap.size F (U S 0 0) [] (s.alloc (Z #[.map (O F),U S 0 0] 80)):=by
  have dg:=a6.out.2.1.trans (cs.mono a6.out.2.1.size);have g9:F<s.heap.size:=by
   obtain⟨hH,hA,g6,_⟩:=a6.out.1;exact au g6
  exact⟨dg,⟨c6,rn a6.out.1 (cs.block _ g9),bs.out.1.below dg (ag _)⟩,⟨bi _ _ _ _,fun i x g=>by simp at g,fun i x g=>by simp at g,fun x g=>by simp at g,fun i x f2 g=>by simp at g⟩⟩
 have cv:l.heap.size<=s.heap.size:=a6.out.2.1.size;generalize s.alloc (Z #[.map (O F),U S 0 0] 80)=gm at b4⊢;obtain⟨a1,fn⟩:=aA s.heap.size;rw[fn]at b4 cv⊢;have f7:Y (l.heap.size<=a1):=cv;obtain⟨bk,cp⟩:=aA (gp (eC ns) (a+1) 0);have ca:Y (gp (eC ns) (a+1) 0=bk):=cp;have c8:uB (eC ns) (a+1-0) 0 bk:=⟨cp⟩;have da:Y (ago l a1 F (U S 0 0) [] gm):=b4;clear cp gr hg hj a6 c6 cs b4 fn cv;go_loopw [37] (fun c4 wr=>∃(d:Nat) (f:List Im) (b5:A2),d<=a+1/\c4= A0 A1 d/\uB (eC ns) (a+1-d) d bk/\Y (ago l a1 F b5 f wr/\f.length=d/\f.map Im.N=ns.take d/\∀x∈f,bF w x.vn x.N.nm)) (fun c4 _=>a+1-(A9 c4).toNat)
 case atStart=>exact⟨0,[],_,aG _,rfl,c8,da.out,rfl,rfl,fun x g=>by simp at g⟩
 case round=>
  obtain⟨d,f,b5,hI,rfl,b8,c⟩:=hrel;clear da c8;have r:=b8.out;by_cases b0:d<a+1
  ·obtain⟨n,a8⟩:=bH al.out b0;have hK:(d:Int)<(a:Int)+1:=by omega
   have hJ:(0:Int)<=(d:Int):=by omega
   obtain⟨hu,gz,h7,h5,g4⟩:=bf.out.1.get a8;obtain rfl:=db gz;have E:Q w.heap.size w wr:=j.out.bl.trans (c.out.1.bl.mono j.out.bl.size);obtain⟨dn,dp,ds,dx,d9,ec,ee,ef,eg,b1,ct⟩:=g4;obtain⟨df,dj,rfl⟩:=b1.form;obtain⟨hv,hw,rfl⟩:=ct.form;have eh:=ah E dn;have ei:=ah E dp;have ek:=ah E ds;have el:=ah E dx;have en:=ah E d9;have eo:=ah E ec;have ep:=ah E ee;have cb:=ah E ef;have cc:=ah E eg;have bn:∀o,Q wr.heap.size wr (wr.alloc o):=fun o=>(ai _ wr).alloc (ag _) o;have a0:=fun o=>af9 l (wr.alloc o) bs.out.1 (c.out.1.bl.trans ((bn o).mono c.out.1.bl.size)) a1 F f7.out b5 f (c.out.1.lk.below (bn o)) (c.out.1.ns.below (bn o)) n _ _ (b1.below j.out.bl) (ct.below j.out.bl) (bf.out.2.1 n (dl a8)) (by rw[c.out.2.1];omega) ns (by rw[c.out.2.1];exact c.out.2.2.1) (by rw[c.out.2.1];exact a8) bs.out.2.2;rw[show a+1-d=(a+1-(d+1))+1 by omega,gp]at r;have er:eC ns d=!(iJ ns d n):=by unfold eC;rw[bc,a8];rfl
   have eq:CC ns f.length n=iJ ns d n:=by rw[aiv,c.out.2.1]
   rw[er]at r;unfold dy at a0;have bj:Y (CC ns f.length n=iJ ns d n):=eq;have f4:Y (ns[d]?=O n):=a8;obtain⟨ge,cm⟩:=aA n.nm.length;obtain⟨hs,ex⟩:=aA n.ks.length;have b9:Y (bF w (U df n.nm.length dj) n.nm):=b1;rw[cm]at a0 cb;replace b9:Y (bF w (U df ge dj) n.nm):=by rw[<-cm];exact b9
   rw[ex]at a0 cc;clear dn dp ds dx d9 ec ee ef eg b1 ct a8 eq er cm ex b8;cases g:iJ ns d n with
   |true=>
    rw[g]at r bj;rw[aa (by decide)]at r;have f3:uB (eC ns) (a+1-(d+1)) (d+1) bk:=⟨r⟩;clear r g;go_wp2_with fail;refine(a0 _).mono ?_;rintro e t ⟨rfl,k,b2⟩;rw[bj.out];obtain⟨ho,x,fv,bq,fz,fA⟩:=b2 bj.out;have gb:Y (ago l a1 F ho (f++[x]) t/\(f++[x]).length=d+1/\(f++[x]).map Im.N=ns.take (d+1)/\∀y∈f++[x],bF w y.vn y.N.nm):=
     ⟨⟨k,fz,fA⟩,by rw[aF,c.out.2.1];rfl,by rw[fK,c.out.2.2.1,gG,f4.out];simp[fv],fun y hy=>by
      rcases List.mem_append.1 hy with hy|hy
      ·exact c.out.2.2.2 y hy
      ·obtain rfl:=List.mem_singleton.1 hy;rw[fv,bq];exact b9.out⟩
    clear a0 b2 k fz fA c eh ei ek el en eo ep cb cc E bn;go_wp2_with fail;exact⟨⟨d+1,_,_,by omega,by go_num,f3,gb⟩,by simp[A9];omega⟩
   |false=>
    rw[g]at r bj;rw[ab (by decide)]at r;have u:Y (cF ns=(2,(d:Int))):=by
     show cF ns=(2,(d:Int));unfold cF;rw[bf.out.2.2,aa (by decide),al.out,ca.out,<-r];rfl
    clear r g;go_wp2_with fail;refine(a0 _).mono ?_;rintro e t ⟨rfl,k,b2⟩;rw[bj.out];have C:=j.out.fb.keep k (by rw[j.out.sz];omega);obtain⟨ap,bw,bx⟩:=jD C;have L:Y (jC (w.heap.size+1) t 0 0/\Q w.heap.size w t):=⟨C,j.out.bl.trans (k.mono j.out.bl.size)⟩;clear a0 b2 k C c eh ei ek el en eo ep cb cc E bn;go_wp2_with fail;exact bB (jF rfl _ _ _ ⟨w.heap.size+1,0,S⟩ _ _ rfl rfl (qi _ _ 2 d (qo L.out.1 2 d))) rfl ⟨(L.out.2.setCell (by simp) _).setCell (by simp) _,.inl ⟨(by rw[u.out];intro e;simp at e),(by rw[u.out];rfl)⟩⟩
  ·obtain rfl:d=a+1:=by omega
   rw[gH,gp]at r;have f9:Y (bk=S):=r.symm;have eF:=ny (show gp (eC ns) (a+1) 0=S by rw[ca.out];exact r.symm);have a7:f.map Im.N=ns:=by rw[c.out.2.2.1];exact cI (by rw[al.out];exact ag _)
   have eL:∀(i:Nat) x,f[i]?=O x->ns[i]?=O x.N:=fun i x g=>by rw[<-a7,cA,g];rfl
   have cu:∀x∈f,x.N.ks.length<=200:=fun x g=>by
    obtain⟨i,bE,e⟩:=fL g;have K:ns[i]?=O x.N:=eL i x (by rw[aE bE,e]);have bE:i<a+1:=by rw[<-al.out];exact(List.getElem?_eq_some_iff.1 K).1
    have cf:=eF i (aG _) (by omega);unfold eC at cf;rw[bc,K,ii]at cf;have cl:iJ ns i x.N=A6:=by simpa using cf
    unfold iJ AH at cl;rw[cL]at cl;exact(aH cl.1).2.2.2
   have eA:yu (gC ns):=uw ns (fun N K f2 ao=>by
    rw[<-a7]at K;obtain⟨x,g,rfl⟩:=List.mem_map.1 K;obtain⟨i,bE,e⟩:=fL g;exact(c.out.1.ns.rng i x f2 (by rw[aE bE,e]) ao).1)
   obtain⟨I,bt,rfl⟩:∃I G,b5= U (O ⟨I,0,S⟩) (a+1) G:=by
    rcases bK c.out.1.ns.row with⟨h,_⟩|h
    ·rw[c.out.2.1]at h;omega
    ·rw[c.out.2.1]at h;exact h
   have b7:wr.cell? ⟨a1,1,S⟩=O (U (O ⟨I,0,S⟩) (a+1) bt):=by rw[ay _ _ _ _ _ _ c.out.1.lk.b];rfl
   have B:=BH wr l.heap.size _ f c.out.1.ns ns a7 (a+1) c.out.2.1 (by omega) (by omega) cu;have c9:Y (∀q,Q wr.heap.size wr q->A8 V 27 #[U (O ⟨I,0,S⟩) (a+1) bt] q fun e hp=>e= A3 (aaA (gp (iG (Ca ns)) (a+1) 0))/\Q q.heap.size q hp):=
    fun q gu=>CD q l.heap.size _ f (c.out.1.ns.below gu) ns a7 (a+1) c.out.2.1 (by omega) (by omega) cu
   obtain⟨dc,cq⟩:=aA (gp (fp (gC ns)) (a+1) 0);have z:cF ns=LI (gC ns) (Ca ns) (a+1) dc:=by
    unfold cF;rw[bf.out.2.2,aa (by decide),al.out,ca.out,f9.out];show LI (gC ns) (Ca ns) (a+1) (gp (fp (gC ns)) (a+1) 0)=_;rw[cq]
   rw[cq]at B;have g5:=j.out.sz;have ap:=j.out.fb.keep c.out.1.bl (by rw[j.out.sz];omega);have m:Y (ago l a1 F (U (O ⟨I,0,S⟩) (a+1) bt) f wr/\jC (w.heap.size+1) wr 0 0/\f.map Im.N=ns/\f.length=a+1/\Q w.heap.size w wr):=⟨c.out.1,ap,a7,c.out.2.1,j.out.bl.trans (c.out.1.bl.mono j.out.bl.size)⟩;have f8:Y (∀x∈f,bF w x.vn x.N.nm):=c.out.2.2.2;have ba:=afx eA (jw ns) (by rw[al.out];omega);rw[al.out,mG]at ba;clear r eF eL cu eA b8 c ap cq a7 g5;cases dc with
   |some i=>
    have u:Y (cF ns=(3,(i:Int))):=z;unfold Fq at B;clear z ba;go_wp2_with fail;refine B.mono ?_;rintro e t ⟨rfl,k⟩;have C:=m.out.2.1.below k;obtain⟨ap,bw,bx⟩:=jD C;have L:Y (jC (w.heap.size+1) t 0 0/\Q w.heap.size w t):=⟨C,m.out.2.2.2.2.trans (k.mono m.out.2.2.2.2.size)⟩;clear k C B b7;go_wp2_with fail;exact bB (jF rfl _ _ _ ⟨w.heap.size+1,0,S⟩ _ _ rfl rfl (qi _ _ 3 i (qo L.out.1 3 i))) rfl ⟨(L.out.2.setCell (by simp) _).setCell (by simp) _,.inl ⟨(by rw[u.out];intro e;simp at e),(by rw[u.out];rfl)⟩⟩
   |none=>
    rw[LI,mG]at z;unfold Fq at B;rw[mG]at B;have gt:((a+1:Nat):Int)-1=(a:Int):=by omega
    rw[gt]at B z;by_cases ao:(gC ns).getD a 0<((a+1:Nat):Int)
    ·rw[ab (ba.2 ao)]at z;rw[bg ao]at B;have u:Y (cF ns=(3,(a:Int))):=z;clear z ba ao;go_wp2_with fail;refine B.mono ?_;rintro e t ⟨rfl,k⟩;have C:=m.out.2.1.below k;obtain⟨ap,bw,bx⟩:=jD C;have L:Y (jC (w.heap.size+1) t 0 0/\Q w.heap.size w t):=⟨C,m.out.2.2.2.2.trans (k.mono m.out.2.2.2.2.size)⟩;clear k C B b7;go_wp2_with fail;exact bB (jF rfl _ _ _ ⟨w.heap.size+1,0,S⟩ _ _ rfl rfl (qi _ _ 3 a (qo L.out.1 3 a))) rfl ⟨(L.out.2.setCell (by simp) _).setCell (by simp) _,.inl ⟨(by rw[u.out];intro e;simp at e),(by rw[u.out];rfl)⟩⟩
    ·rw[aa (fun h=>ao (ba.1 h))]at z;rw[az ao]at B;obtain⟨gf,ey⟩:=aA (gp (iG (Ca ns)) (a+1) 0);rw[ey]at z c9;clear ba ao ey;go_wp2_with fail;refine B.mono ?_;rintro e t ⟨rfl,k⟩;have bb:=c9.out t k;have c5:=ah k b7;clear B b7;cases gf with
     |some i=>
      have u:Y (cF ns=(4,(i:Int))):=z;unfold aaA at bb;clear z;have bd:Y (Q wr.heap.size wr t):=k;clear k;go_wp2_with fail;refine bb.mono ?_;rintro e a5 ⟨rfl,a9⟩;have am:=bd.out.trans (a9.mono bd.out.size);have av:=m.out.2.1.below am;obtain⟨ap,bw,bx⟩:=jD av;have af:Y (jC (w.heap.size+1) a5 0 0/\Q w.heap.size w a5):=⟨av,m.out.2.2.2.2.trans (am.mono m.out.2.2.2.2.size)⟩;clear a9 am av bb c5;go_wp2_with fail;exact bB (jF rfl _ _ _ ⟨w.heap.size+1,0,S⟩ _ _ rfl rfl (qi _ _ 4 i (qo af.out.1 4 i))) rfl ⟨(af.out.2.setCell (by simp) _).setCell (by simp) _,.inl ⟨(by rw[u.out];intro e;simp at e),(by rw[u.out];rfl)⟩⟩
     |none=>
      have u:Y (cF ns=(0,0)):=z;unfold aaA at bb;clear z;have bd:Y (Q wr.heap.size wr t):=k;clear k;go_wp2_with fail;refine bb.mono ?_;rintro e a5 ⟨rfl,a9⟩;have am:=bd.out.trans (a9.mono bd.out.size);have h8:=ah a9 c5;have av:=m.out.2.1.below am;have c1:=m.out.1.ns.below am;obtain⟨x,g⟩:=bH m.out.2.2.2.1 (show a<a+1 by omega);have gs:a5.cell? ⟨I,a,S⟩=O (nV x):=by have fq:=c1.row;rw[m.out.2.2.2.1]at fq;rw[fq.cellAt a (by omega),cA,g];rfl
      obtain⟨ap,bw,bx⟩:=jD av;have af:Y (jC (w.heap.size+1) a5 0 0/\Q w.heap.size w a5/\kF a5 l.heap.size (U (O ⟨I,0,S⟩) (a+1) bt) f/\f[a]?=O x):=⟨av,m.out.2.2.2.2.trans (am.mono m.out.2.2.2.2.size),c1,g⟩;obtain⟨hq,bq⟩:=aA (nV x);rw[bq]at gs;have gd:Y (nV x=hq):=bq;clear a9 am av bb c5 c1 g bq;go_wp2_with fail;exact bB (jF rfl _ _ _ ⟨w.heap.size+1,0,S⟩ _ _ rfl rfl (qi _ _ 0 0 (qo af.out.1 0 0))) rfl ⟨(af.out.2.1.setCell (by simp) _).setCell (by simp) _,.inr ⟨u.out,l.heap.size,_,f,x,by rw[gd.out];rfl,by rw[al.out,mG];exact af.out.2.2.2,m.out.2.2.1,af.out.2.2.1.putFt af.out.1 (by rw[j.out.sz];omega) 0 0,f8.out⟩⟩
theorem Ke(w:Ax)(v:A2)(ns:List Nd)(h:co w v ns)(c:ns.length<=1048576)(j:∀N∈ns,iy N)(g:ql w)(d:B2)(fr:Nat×Nat)(e:w.heap[0]?=O (Z fd d fr))
  (i:∀a,Q w.heap.size w a->B3 V a "strings.asciiSpace" .u8 A5):
  A8 V 14 #[B4 #[v]] w (BJ w ns):=by
 cases hb:gJ ns with
 |true=>
  have b:cF ns=(1,0):=by unfold cF;rw[ab hb]
  refine(Ii w v ns h c hb).mono ?_;rintro k l ⟨rfl,f⟩;exact⟨f,.inl ⟨by rw[b];decide,by rw[b]⟩⟩
 |false=>exact Ij w v ns h c j g d fr e i hb
def lj(c:Ax)(v:A2)(L:List Im)(ns:List Nd)(ks:List Int):Prop:=
 (ks=[]/\∃a d,v= U a 0 d)\/∃a d,v= U (O a) ks.length d/\∀(e:Nat) z,ks[e]?=O z->0<=z/\∃y,L[z.toNat]?=O y/\c.cell? (a.add e)=O (B5 (nF (ic y.N.k)) (A7 (O ⟨y.b,0,S⟩)))/\c.cell? ⟨y.b,1,S⟩=O (A0 A1 (ns.getD z.toNat nI).f)/\c.cell? ⟨y.b,2,S⟩=O (A0 A1 (ns.getD z.toNat nI).t)
theorem lj.below{a c:Ax}{v:A2}{L:List Im}{ns:List Nd}{ks:List Int}(h:lj a v L ns ks)(b:Q a.heap.size a c):lj c v L ns ks:=by
 rcases h with h|⟨d,e,k,l⟩
 ·exact .inl h
 ·exact .inr ⟨d,e,k,fun q r n=>by
   obtain⟨j,y,m,f,g,i⟩:=l q r n;exact⟨j,y,m,ah b f,ah b g,ah b i⟩⟩
theorem lj.form{b:Ax}{v:A2}{L:List Im}{ns:List Nd}{ks:List Int}(h:lj b v L ns ks):∃a c,v= U a ks.length c:=by
 rcases h with⟨rfl,a,c,h⟩|⟨a,c,d,e⟩
 ·exact⟨a,c,h⟩
 ·exact⟨_,_,d⟩
theorem lj.get{e:Ax}{a:Option Addr}{n c:Nat}{L:List Im}{ns:List Nd}{ks:List Int}(h:lj e (U a n c) L ns ks){j:Nat}{d:Int}(i:ks[j]?=O d):
  0<=d/\∃g y,a=O g/\L[d.toNat]?=O y/\e.cell? (g.add j)=O (B5 (nF (ic y.N.k)) (A7 (O ⟨y.b,0,S⟩)))/\e.cell? ⟨y.b,1,S⟩=O (A0 A1 (ns.getD d.toNat nI).f)/\e.cell? ⟨y.b,2,S⟩=O (A0 A1 (ns.getD d.toNat nI).t):=by
 rcases h with⟨rfl,_⟩|⟨g,w,r,u⟩
 ·simp at i
 ·cases r;obtain⟨s,y,v,l,m,q⟩:=u j d i;exact⟨s,g,y,rfl,v,l,m,q⟩
def fwV(L:List Im)(i:Int):A2:=if i<0 then Br else match L[i.toNat]? with|some y=> B5 (nF (ic y.N.k)) (A7 (O ⟨y.b,0,S⟩))|none=> Br
theorem agp{L:List Im}{i:Int}{y:Im}(h:0<=i)(a:L[i.toNat]?=O y):fwV L i= B5 (nF (ic y.N.k)) (A7 (O ⟨y.b,0,S⟩)):=by
 unfold fwV;rw[aa (by omega),a]
theorem aaH{L:List Im}:fwV L (-1)= Br:=by
 unfold fwV;rw[ab (by omega)]
theorem um(w:Ax)(L:List Im)(ns:List Nd)(at_:Int)(a1:A2)(ks:List Int)(j:lj w a1 L ns ks)(a5:ks.length<=3000):
  A8 V 15 #[a1,A0 A1 at_] w fun e n=>e= A3 (fwV L (gB ns at_ ks))/\Q w.heap.size w n:=by
 obtain⟨a3,a4,rfl⟩:=j.form;obtain⟨d,C⟩:∃d,ks.length=d:=⟨_,rfl⟩;rw[C]at j a5⊢;obtain⟨f,z⟩:∃f,gB ns at_ ks=f:=⟨_,rfl⟩;obtain⟨g,hF⟩:∃g,fwV L f=g:=⟨_,rfl⟩;rw[z,hF];have i:Y (lj w (U a3 d a4) L ns ks/\ks.length=d/\fwV L f=g):=⟨j,C,hF⟩;have J:Hc ns at_ (ks.drop 0) f:=⟨z⟩;clear j C z hF;go_enter Tryz.func15,Tryz.ntmps15;go_wp2_with fail;go_loopw [10] (fun H wr=>∃c:Nat,c<=d/\H= A0 A1 c/\Hc ns at_ (ks.drop c) f/\Q w.heap.size w wr) (fun H _=>d-(A9 H).toNat)
 case atStart=>exact⟨0,aG _,rfl,J,ai _ _⟩
 case round=>
  obtain⟨c,j,rfl,s,k⟩:=hrel;clear J;have a:=s.out;by_cases a6:c<d
  ·have ba:(c:Int)<(d:Int):=by omega
   have a9:(0:Int)<=(c:Int):=by omega
   obtain⟨a2,F⟩:=bH i.out.2.1 a6;obtain⟨z0,a8,y,rfl,av,K,af,ak⟩:=(i.out.1.below k).get F;have B:=List.getElem?_eq_some_iff.1 F;rw[ly B.1,B.2,gB]at a;have h:=agp z0 av;have ao:=fun w=>py y.N.k y.b w;have l:=fun w=>gl y.b w;obtain⟨m,E⟩:∃m,nF (ic y.N.k)=m:=⟨_,rfl⟩;rw[E]at h K;have a7:∀w,(method 367 m (A7 (O ⟨y.b,0,S⟩)) "loop.example/warp/impl.head").run V w= .ok (222,A7 (O ⟨y.b,0,S⟩)) w:=by rw[<-E];exact ao
   obtain⟨u,an⟩:∃u,(ns.getD a2.toNat nI).f=u:=⟨_,rfl⟩;obtain⟨G,ap⟩:∃G,(ns.getD a2.toNat nI).t=G:=⟨_,rfl⟩;unfold kI at a;rw[an]at af a;rw[ap]at ak a;have q:Y (Q w.heap.size w wr):=k;obtain⟨I,a0⟩:∃I,y.b=I:=⟨_,rfl⟩;rw[a0]at K af ak l a7 h;clear ao E an ap F B av s k a0;by_cases al:u<=at_
   ·by_cases am:at_<G
    ·rw[ab (bg ⟨al,am⟩)]at a;have r:Y (g= B5 m (A7 (O ⟨I,0,S⟩))):=by
      show g=_;rw[<-i.out.2.2,<-a];exact h
     clear a h;go_wp2_with (go_at_call 222;refine(l _).mono ?_;rintro e n ⟨rfl,rfl⟩);go_ret;exact⟨by rw[r.out];rfl,q.out⟩
    ·rw[aa (fun v=>am (aH v).2)]at a;have t:Hc ns at_ (ks.drop (c+1)) f:=⟨a⟩;clear a h;go_wp2_with (go_at_call 222;refine(l _).mono ?_;rintro e n ⟨rfl,rfl⟩);exact⟨⟨c+1,by omega,by go_num,t,q.out⟩,by simp[A9];omega⟩
   ·rw[aa (fun v=>al (aH v).1)]at a;have t:Hc ns at_ (ks.drop (c+1)) f:=⟨a⟩;clear a h;go_wp2_with (go_at_call 222;refine(l _).mono ?_;rintro e n ⟨rfl,rfl⟩);exact⟨⟨c+1,by omega,by go_num,t,q.out⟩,by simp[A9];omega⟩
  ·obtain rfl:c=d:=by omega
   rw[lA (by rw[i.out.2.1];exact ag _),gB]at a;have r:Y (g= Br):=by
    show g=_;rw[<-i.out.2.2,<-a];exact aaH
   clear a s;go_wp2_with fail;go_ret;exact⟨by rw[r.out];rfl,k⟩
theorem kF.nodes{c:Ax}{base:Nat}{t:A2}{L:List Im}(h:kF c base t L){ns:List Nd}(r:L.map Im.N=ns){i:Nat}{x:Im}(d:L[i]?=O x):lj c x.kv L ns x.N.ks:=by
 have n:=h.kid i x d;rcases bK n with⟨q,a⟩|⟨l,g,a⟩
 ·exact .inl ⟨jr q,_,_,a⟩
 ·refine .inr ⟨⟨l,0,S⟩,g,a,fun v w s=>?_⟩;obtain⟨f,y,rfl,u,b,m⟩:=h.kidAt d a s;have e:ns.getD f nI=y.N:=by rw[bc,<-r,cA,b];rfl
  obtain⟨_,j,k,_⟩:=(h.box f y b).cells;refine⟨by omega,y,by rw[fD];exact b,by rw[qh];exact m,?_,?_⟩
  ·rw[fD,e];exact j
  ·rw[fD,e];exact k
def ajl:A2->Nat
 | .slice _ m _=>m
 |_=>0
theorem Fz(w:Ax)(v:A2)(ns:List Nd)(at_:Int)(h:co w v ns)(df:ns.length<=1048576)(eb:∀N∈ns,iy N)(da:ql w)(ee:B2)(fr:Nat×Nat)(b4:w.heap[0]?=O (.cells fd ee fr))
  (ds:∀u,Q w.heap.size w u->B3 V u "strings.asciiSpace" .u8 A5):
  A8 V 7 #[.agg #[v],.int .i64 at_] w fun e br=>∃cp,e= .returned cp/\br.ownsRow w.heap.size 3 1 cp (lr ns at_).length ((lr ns at_).map (A4 .i64))/\Q w.heap.size w br:=by
 have ew:∀o,Q w.heap.size w (w.alloc o):=fun o=>(ai _ w).alloc (ag _) o;have a4:Y (∀u,Q w.heap.size w u->A8 V 14 #[.agg #[v]] u (BJ u ns)):=fun u ao=>
  Ke u v ns (h.below ao) df eb (da.below ao (ag _)) ee fr ((ao.block _ (au b4)).trans b4) (fun eo an=>ds eo (ao.trans (an.mono ao.size)))
 obtain⟨a7,a8,rfl⟩:=h.form;obtain⟨a,cc⟩:∃a,ns.length=a:=⟨_,rfl⟩;have al:Y (ns.length=a):=cc;rw[cc]at a4⊢;obtain⟨i,b5⟩:∃i,lr ns at_=i:=⟨_,rfl⟩;have a5:Y (lr ns at_=i):=b5;rw[b5];clear h df eb da b4 ds cc b5;obtain⟨e7,e8,fb,ff,fg⟩:=fl pJ;go_enter Tryz.func7,Tryz.ntmps7;go_wp2_with (go_at_call 14;fail);have a2:Y (Q w.heap.size w (w.alloc (.cells #[.slice a7 a a8] 26))):=ew _;generalize w.alloc (.cells #[.slice a7 a a8] 26)=en at a2⊢;refine(a4.out en a2.out).mono ?_;rintro e l ⟨b8,ey⟩;have a3:Y (Q w.heap.size w l):=a2.out.trans (b8.mono a2.out.size);rcases ey with⟨J,rfl⟩|⟨J,cy,ef,f,x,rfl,a1,bb,ce,_⟩
 ·have bn:i=[]:=by rw[<-a5.out];exact aa J
  subst bn;obtain⟨bt,b3⟩:∃bt,(cF ns).1=bt:=⟨_,rfl⟩;obtain⟨cr,c3⟩:∃cr,(cF ns).2=cr:=⟨_,rfl⟩;rw[b3]at J;rw[b3,c3];have c2:(bt==0)=B0:=by rw[aL];exact J
  clear b3 c3 a5 b8 a4;go_wp2_with fail;go_ret;exact⟨_,rfl,bi _ _ _ _,a3.out.alloc a3.out.size _⟩
 ·have b2:(cF ns).1=0:=by rw[J]
  have bp:=lL b2;have f1:1<=a:=by have:=bp.len.1;have:=al.out;omega
  have f3:a<=3000:=by have:=bp.len.2;have:=al.out;omega
  have bn:i=jE ns at_ a ((a:Int)-1):=by rw[<-a5.out,<-al.out];exact ab b2
  rw[al.out]at a1;have am:Y (Jt ns/\f.map Im.N=ns/\f.length=a):=⟨bp,bb,by rw[<-al.out,<-bb,dL]⟩;have c8:=ce.box (a-1) x a1;have dn:ns.getD (a-1) nI=x.N:=by rw[bc,<-bb,cA,a1];rfl
  have ek:Y (i=jE ns at_ a ((a:Int)-1)):=bn;have a6:Y (kF l cy ef f/\f[a-1]?=O x/\jc l x.b x.N x.vn ((a-1:Nat):Int) x.kv/\ns.getD (a-1) nI=x.N):=⟨ce,a1,c8,dn⟩;have d3:nV x= .iface (nF (ic x.N.k)) (.pointer (O ⟨x.b,0,S⟩)):=rfl;obtain⟨n,cl⟩:∃n,nF (ic x.N.k)=n:=⟨_,rfl⟩;rw[d3,cl];have el:Y (nF (ic x.N.k)=n):=cl;obtain⟨z,cm⟩:∃z,x.b=z:=⟨_,rfl⟩;rw[cm];have em:Y (x.b=z):=cm;clear b8 a4 J b2 bp bb c8 dn bn d3 cl cm a1 ce a5;go_wp2_with (go_at_call 15;fail);have bs:((l.alloc (.cells #[.int .i64 0,.int .i64 0] 48)).alloc (.cells #[.iface n (.pointer (O ⟨z,0,S⟩))] 51)).cell? ⟨l.heap.size+1,0,S⟩=O (.iface n (.pointer (O ⟨z,0,S⟩))):=by
   have:=ar (l.alloc (.cells #[.int .i64 0,.int .i64 0] 48)) (.cells #[.iface n (.pointer (O ⟨z,0,S⟩))] 51);rw[bu]at this;exact cK this
  have ap:Q l.heap.size l ((l.alloc (.cells #[.int .i64 0,.int .i64 0] 48)).alloc (.cells #[.iface n (.pointer (O ⟨z,0,S⟩))] 51)):=((ai _ l).alloc (ag _) _).alloc (by simp) _;generalize (l.alloc (.cells #[.int .i64 0,.int .i64 0] 48)).alloc (.cells #[.iface n (.pointer (O ⟨z,0,S⟩))] 51)=c at bs ap⊢;have H:Y (Q w.heap.size w c/\kF c cy ef f):=⟨a3.out.trans (ap.mono a3.out.size),a6.out.1.below ap⟩;have ea:lj c (.slice (O ⟨l.heap.size+1,0,S⟩) 1 1) f ns [(a:Int)-1]:=by
   refine .inr ⟨⟨l.heap.size+1,0,S⟩,1,rfl,fun d7 q bo=>?_⟩;cases d7 with
   |succ d7=>simp at bo
   |zero=>
    obtain rfl:(a:Int)-1=q:=by simpa using bo
    have b1:((a:Int)-1).toNat=a-1:=by omega
    rw[b1,a6.out.2.2.2];obtain⟨_,eq,er,_⟩:=(a6.out.2.2.1.below ap).cells;refine⟨by omega,x,a6.out.2.1,?_,eq,er⟩;rw[el.out,em.out];exact bs
  refine(um c f ns at_ _ _ ea (by simp)).mono ?_;rintro e eg ⟨rfl,c7⟩;have cn:Fw c ns at_ a i (gB ns at_ [(a:Int)-1]) (.slice S 0 0) eg:=by
   refine⟨c7,[],a,bi _ _ _ _,?_,by simp,?_⟩
   ·rw[ek.out,gB,fx];obtain⟨d9,dj⟩:∃d9,a=d9+1:=⟨a-1,by omega⟩;split
    ·rfl
    ·rename_i eF;rw[gB,tD,dj,jE,aa (by omega),aa (by rw[<-dj];exact eF)]
   ·rw[gB];split
    ·omega
    ·rw[gB];omega
  have L:gB ns at_ [(a:Int)-1]= -1\/0<=gB ns at_ [(a:Int)-1]/\gB ns at_ [(a:Int)-1]<(a:Int)/\kI (ns.getD (gB ns at_ [(a:Int)-1]).toNat nI) at_=A6:=by
   rcases oL (ns:=ns) (at_:=at_) (ks:=[(a:Int)-1]) with e|⟨b1,es⟩
   ·exact .inl e
   ·have:=List.mem_singleton.1 b1;exact .inr ⟨by omega,by omega,es⟩
  generalize gB ns at_ [(a:Int)-1]=t at cn L⊢;obtain⟨bx,b6⟩:∃bx,fwV f t=bx:=⟨_,rfl⟩;rw[b6];have ct:Y (Fw c ns at_ a i t (.slice S 0 0) eg/\fwV f t=bx/\(t= -1\/0<=t/\t<(a:Int)/\kI (ns.getD t.toNat nI) at_=A6)):=⟨cn,b6,L⟩;clear cn L b6 ea bs ap c7;go_wp2_with fail;go_loopw [7,8] (fun bq fo wr=>∃(E:Int),(∃a7 a8,∃g:Nat,bq= .slice a7 g a8)/\Y (Fw c ns at_ a i E bq wr/\fwV f E=fo/\(E= -1\/0<=E/\E<(a:Int)/\kI (ns.getD E.toNat nI) at_=A6))) (fun bq _ _=>a-ajl bq)
  case atStart=>exact⟨t,⟨_,_,_,rfl⟩,ct⟩
  case round=>
   obtain⟨E,⟨bD,bE,f5,rfl⟩,r⟩:=hrel;clear ct;have bf:=r.out.2.1;obtain⟨F,B,af,m,dp,fA⟩:=r.out.1.ex;obtain⟨fv,fz,et⟩:=cH af;cases et;obtain⟨g,bk⟩:∃g,F.length=g:=⟨_,rfl⟩;rw[bk]at af dp⊢;rcases r.out.2.2 with eL|⟨L,fB,ca⟩
   ·subst eL;rw[aaH]at bf;subst bf;rw[tD,fj]at m;have s:Y (wr.ownsRow c.heap.size 3 1 (.slice bD g bE) g (F.map (A4 .i64))/\Q c.heap.size c wr/\F=i):=⟨af,r.out.1.bl,m⟩;clear af m r;go_wp2_with fail;go_ret;refine⟨_,rfl,?_,H.out.1.trans (s.out.2.1.mono H.out.1.size)⟩;rw[<-s.out.2.2,bk];exact my s.out.1 H.out.1.size
   ·obtain⟨j,rfl⟩:=gc L;obtain⟨B,rfl⟩:∃I,B=I+1:=⟨B-1,by omega⟩;have e5:j<a:=by omega
    obtain⟨y,C⟩:=bH am.out.2.2 e5;rw[agp L (by rw[fD];exact C)]at bf;subst bf;have a0:ns.getD j nI=y.N:=by rw[bc,<-am.out.2.1,cA,C];rfl
    rw[fD,a0]at ca;rw[jE,aa (by omega),fD,a0,ab ca]at m;obtain⟨_,_,_,c0,b0,_⟩:=(H.out.2.box j y C).cells;have bj:=H.out.2.nodes am.out.2.1 C;have e0:=am.out.1.kn y.N (by rw[<-a0];exact dl (show ns[j]?=O (ns.getD j nI) by rw[a0,<-am.out.2.1,cA,C];rfl));have dd:∀q∈y.N.ks,0<=q/\q<(j:Int):=fun q bo=>H.out.2.rng j y q C bo;obtain⟨cx,cB,cb⟩:=bj.form;obtain⟨cu,c6⟩:∃fk,y.N.ks.length=fk:=⟨_,rfl⟩;rw[c6]at cb;rw[cb]at b0 bj;have ep:=ah r.out.1.bl c0;have G:Y (c.cell? ⟨y.b,5,S⟩=O (.slice cx cu cB)/\lj c (.slice cx cu cB) f ns y.N.ks/\y.N.ks.length<=3000/\(∀q∈y.N.ks,0<=q/\q<(j:Int))):=⟨b0,bj,by omega,dd⟩;have bw:Y (F++(j:Int)::jE ns at_ B (gB ns at_ y.N.ks)=i/\F.length=g/\g+(B+1)<=a/\j<B+1):=⟨m,bk,dp,by omega⟩;have s:Y (wr.ownsRow c.heap.size 3 1 (.slice bD g bE) g (F.map (A4 .i64))/\Q c.heap.size c wr):=⟨af,r.out.1.bl⟩;have f0:g<=3000:=by omega
    have dg:=fun w=>py y.N.k y.b w;have d8:=fun w=>gl y.b w;obtain⟨f6,dx⟩:∃n,nF (ic y.N.k)=n:=⟨_,rfl⟩;rw[dx]at dg⊢;obtain⟨eh,d6⟩:∃eh,y.b=eh:=⟨_,rfl⟩;rw[d6]at dg d8 ep G⊢;have e4:∀I,(Ce bD g bE).ownBlock=O I->c.heap.size<=I:=fun I eA=>(s.out.1.lt I eA).1;have e6:=s.out.2.size;clear bj e0 dd cb c6 c0 b0 ca a0 m bk af r dx d6 C;go_wp2_with (first|(go_at_call 222;refine(d8 _).mono ?_;rintro e br ⟨rfl,f4⟩;subst br)|(at_builtin;refine pH _ rfl _ _ 31 rfl c.heap.size 3 e7 _ 1 8 Tryz.underlying31 e8 fb ff fg rfl (by decide) _ _ _ rfl (s.out.1.alloc _) ⟨wr.heap.size,0,S⟩ 1 1 [.int .i64 (j:Int)] rfl rfl (World.news_of_block (cs:=#[.int .i64 (j:Int)]) (fr:=(0,0)) (ar wr _)) (by intro f7 d0;simp at d0;subst d0;rfl) (by unfold maxLen;omega) (by omega) (by simp;omega) ?_;intro cp cq cf dc e3;obtain⟨c1,cz,rfl⟩:=B6 cf;have K:Q c.heap.size c cq:=(s.out.2.alloc e6 _).grown dc (by simp;omega) e4;have fu:=ah K G.out.1)|(go_at_call 15;fail));obtain⟨d,ba⟩:∃d,gB ns at_ y.N.ks=d:=⟨_,rfl⟩;have bd:=oL (ns:=ns) (at_:=at_) (ks:=y.N.ks);rw[ba]at bd;have m:=bw.out.1;rw[ba]at m;have ec:Fw c ns at_ a i d (.slice (O ⟨c1,0,S⟩) (g+1) cz) cq:=by
     refine⟨K,F++[(j:Int)],B,?_,?_,?_,?_⟩
     ·rw[aF,bw.out.2.1,fK];exact cf
     ·rw[dC];exact m
     ·rw[aF,bw.out.2.1];simp;omega
     ·rcases bd with e|⟨e,_⟩
      ·omega
      ·have:=G.out.2.2.2 d e;omega
    have c5:d= -1\/0<=d/\d<(a:Int)/\kI (ns.getD d.toNat nI) at_=A6:=by
     rcases bd with e|⟨e,an⟩
     ·exact .inl e
     ·have:=G.out.2.2.2 d e;exact .inr ⟨by omega,by omega,an⟩
    refine(um cq f ns at_ _ _ (G.out.2.1.below K) G.out.2.2.1).mono ?_;rintro e fq ⟨rfl,b9⟩;rw[ba];obtain⟨bA,b7⟩:∃bA,fwV f d=bA:=⟨_,rfl⟩;rw[b7];have ei:Y (Fw c ns at_ a i d (.slice (O ⟨c1,0,S⟩) (g+1) cz) fq/\fwV f d=bA/\(d= -1\/0<=d/\d<(a:Int)/\kI (ns.getD d.toNat nI) at_=A6)):=by
     refine⟨⟨K.trans (b9.mono K.size),?_⟩,b7,c5⟩;obtain⟨fn,ev,c2,an⟩:=ec.ex;exact⟨fn,ev,aI c2 b9,an⟩
    clear ec c5 b7 ba bd m b9 K cf dc e3 fu;go_wp2_with fail;exact⟨⟨d,⟨_,_,_,rfl⟩,ei⟩,by simp[ajl];omega⟩
