import Derived.Test.YthkcmkmkapijkaaGreatDoorh42
set_option linter.all false
set_option maxRecDepth 100000
set_option maxHeartbeats 25600000
open Go.Proofs.Tryz
open Go.RowKit renaming Below->M,Hid->S
open Option renaming some->Q
open Go.Value renaming string->T,slice->Ax
open Bool renaming true->V,false->Y
open Go renaming World->W,Value->A0
namespace Go.Proofs.YthkcmkmkapijkaaGreatDoor
open Go.RowKit Go.Maps Go.WideMaps
def JG(a:Int):Bz:=ite (a=19) ⟨#[45]⟩<|ite (a=20) ⟨#[126]⟩<|ite (a=22) ⟨#[35]⟩ ⟨#[110,111,116,32]⟩
theorem I4(a w):Calls Tryz.prog 185 #[zI a] w λe f=>e= .returned (T<|JG a)/\M w.heap.size w f:=by
 unfold JG;by_cases b:a=19
 .rw[ae b];subst b;go_enter func185,ntmps185;exact gwX blR
 rw[aa b];have g:(a==19)=Y:=U;by_cases c:a=20
 .rw[ae c];subst c;go_enter func185,ntmps185;exact gwX blR
 rw[aa c];have h:(a==20)=Y:=U;by_cases d:a=22
 .rw[ae d];subst d;go_enter func185,ntmps185;exact gwX blR
 rw[aa d];have i:(a==22)=Y:=U;clear b c d;go_enter func185,ntmps185;exact gwX blR
theorem aj7(j a L s x)(r:Tp j a L s x)(i)(t:i<a.length)(w)(m:M j.heap.size j w):
  Calls Tryz.prog 186 #[nV<|qj L i] w λe c=>e= .returned (.bool<|yo<|ab a i)/\M w.heap.size w c:=by
 obtain⟨g,_,_,_,_,h,d⟩:=Ai r t;have o:=λw=>eD g w;have f:=λw=>sF (eG (ab a i).k) g w;have p:=(d.cells m).1;rw[h];unfold yo;by_cases b:(ab a i).k=30
 .have l:eG (ab a i).k=4:=by rw[b];rfl
  have v:=(d.cells m).2.2 _ (by rw[l];rfl);rw[l]at f⊢;simp[nC]at f⊢;have z:=λw=>au9 g w;have q:=ah b;rw[b]at p;generalize n:(ab a i).op=A at v;have y:=ah n;clear n b d h;go_enter func186,ntmps186;go_wp2_with (go_at_call 404;apply(o _).mono;rintro e c ⟨rfl,u⟩;subst c);go_ret;exact⟨by rw[q.out];rfl,blR⟩
 .have l:((ab a i).k==30)=Y:=U;have n:=ah l;generalize q:(ab a i).k=v at p l f n;generalize nC (eG v)=y at f⊢;clear b d h q;go_enter func186,ntmps186;go_wp2_with (go_at_call 404;apply(o _).mono;rintro e c ⟨rfl,u⟩;subst c);go_ret;exact⟨byS,blR⟩
abbrev pwX(w:W)(a b c:Int):W:=w.alloc<|.cells #[zI a,zI b,zI c] 255
theorem aoj(a d b L bj br)(bh:Tp a b L bj br)(bz:yE a)(t i)(b5:i<b.length)(bD:(ab b i).k=30)(bE:∀j:Nat,j<b.length->(ab b j).k=31->1<=(ab b j).op/\(ab b j).op<=18)
  (o:Nat) (ba:(ab b i).ks[0]?=Q (o:Int)) (bn:o<b.length) (f) (bA:Jk a d L t (o:Int) f):
  Pw a d 96 #[vP d,kH a t,nV<|qj L i] (JG (ab b i).op++(ite ((decide ((ab b i).op=19)&&yo (ab b o))=V) ⟨#[32]⟩ ByteArray.empty)++(ite (jF (ab b o).k=V) (mI f) f)):=by
 intro q e bk;have a1:=ah (λp ao=>ub a b L bj br bh bz o bn (bE o bn) p ao);have a5:=ah (λp ao=>aj7 a b L bj br bh o bn p ao);have a6:S (∀p:W,Calls Tryz.prog 185 #[zI (ab b i).op] p λm b7=>m= .returned (T<|JG (ab b i).op)/\M p.heap.size p b7):=λp=>I4 _ p;have a2:S (Pw a d 183 #[vP d,kH a t,nV<|qj L (o:Int),.bool<|jF (ab b o).k]<|ite (jF (ab b o).k=V) (mI f) f):=tK a d t _ f _ bA;have a7:S (Pw a d 403 #[th a t,T<|JG (ab b i).op]<|JG (ab b i).op):=mm a d t _ (by unfold JG;split;decide;split;decide;split;decide;decide);have b3:S (Pw a d 403 #[th a t,T ⟨#[32]⟩] ⟨#[32]⟩):=mm a d t _ Z;obtain⟨C,_,_,ax,a8,b0,av⟩:=Ai bh b5;have cc:=λe=>sr a.heap.size (gB t) e;have cd:=λe=>Bj a.heap.size (gB t) e;have bl:eG (ab b i).k=4:=by rw[bD];rfl
 obtain⟨ad,rfl,b4,_⟩:=av.ks.get ba;have ca:(0:Int)<(ax:Int):=by have:=wF ba;have:=av.hn;omega
 have cb:0<ax:=O;obtain⟨bc,bo⟩:∃b6,nV (qj L o)=b6:=⟨_,R⟩;have l:S (∀p,M a.heap.size a p->p.cell? (aj C 5)=Q (Ax (Q ad) ax a8)/\p.cell? ad=Q bc/\p.cell? (aj C 6)=Q (zI (ab b i).op)):=λp ao=>⟨(av.cells ao).2.1,by rw[<-bo];obtain⟨_,m,_,b8⟩:=(av.ks.below ao).get ba;cases m;simpa [Addr.add] using b8,(av.cells ao).2.2 _ (by rw[bl];rfl)⟩;rw[bo]at a1 a5 a2;rw[b0,bl];simp only[nC];have b9:=λe=>au9 C e;have y:S (Ps a d q e/\Kq a.heap.size e e):=⟨bk,Kq.refl _ _⟩;obtain⟨E,G,F⟩:=l.out _ bk.pg.bel;obtain⟨an,bw⟩:∃bd,jF (ab b o).k=bd:=⟨_,R⟩;obtain⟨bs,bx⟩:∃bd,yo (ab b o)=bd:=⟨_,R⟩;rw[bw]at a1 a2⊢;rw[bx]at a5⊢;generalize pv (ab b o)=z at *;generalize tq (ab b o)=A at *;generalize py (ab b o)=B at *;obtain⟨n,bF⟩:∃n,JG (ab b i).op=n:=⟨_,R⟩;rw[bF]at a6 a7⊢;generalize (ab b i).op=bb at *;unfold kH th at *;generalize gB t=ce at *;clear bk av b0 bE ba bA b4 bz bD bl bo bw bx bF;obtain⟨a3,a9⟩:∃a3,n++(ite ((decide (bb=19)&&bs)=V) (⟨#[32]⟩) ByteArray.empty)++(ite (an=V) (mI f) f)=a3:=⟨_,R⟩;rw[a9];by_cases bt:bb=19
 .subst bt;cases bs with
  |true=>
   have a0:S (a3=n++⟨#[32]⟩++(ite (an=V) (mI f) f)):=by show _=_;grind
   clear a9;go_enter func96,ntmps96;go_wp2_with fail;go_region_held3 (λu=>u.cell? (aj C 5)=Q (Ax (Q ad) ax a8)/\u.cell? ad=Q bc/\u.cell? (aj C 6)=Q (zI 19)) (first|exact l.out _ _|exact l.out _ ((y.out.1.below blW).below x).pg.bel|exact l.out _ c.pg.bel|go_keep) (first|(go_at_call 185;apply(a6.out _).mono;rintro m b2 ⟨rfl,x⟩)|(go_at_call 403;apply(a7.out _ _<|(y.out.1.below blW).below x).mono;rintro m af ⟨rfl,c,g⟩))
   all_goals
    have r:S (Ps a d (q++n) af/\Kq a.heap.size e af):=⟨c,((y.out.2.trans<|Kq.of_below blW).trans<|Kq.of_below x).trans g⟩;obtain⟨E,G,F⟩:=l.out _ c.pg.bel;clear c g;go_wp2_with (go_at_call 186;fail);apply(a5.out _ r.out.1.pg.bel).mono;rintro m a4 ⟨rfl,ap⟩;have H:S (Ps a d (q++n) a4/\Kq a.heap.size e a4):=⟨r.out.1.below ap,r.out.2.trans<|Kq.of_below ap⟩;obtain⟨E,G,F⟩:=l.out _ H.out.1.pg.bel;clear ap;go_wp2_with (go_at_call 403;fail);apply(b3.out _ _ H.out.1).mono;rintro m b1 ⟨rfl,c,g⟩;have bf:S (Ps a d (q++n++⟨#[32]⟩) b1/\Kq a.heap.size e b1):=⟨c,H.out.2.trans g⟩;obtain⟨E,G,F⟩:=l.out _ c.pg.bel;clear c g;go_wp2_with (go_at_call 182;fail);apply(a1.out _ bf.out.1.pg.bel).mono;rintro m h ⟨rfl,v⟩;have w:M h.heap.size h (pwX h z A B):=(ay _ h).alloc O _;have s:S (Ps a d (q++n++⟨#[32]⟩) (pwX h z A B)/\Kq a.heap.size e (pwX h z A B)):=⟨(bf.out.1.below v).below w,(bf.out.2.trans<|Kq.of_below v).trans<|Kq.of_below w⟩;obtain⟨E,G,F⟩:=l.out _ s.out.1.pg.bel;clear v w;go_wp2_with (go_at_call 183;fail);apply(a2.out _ _ s.out.1).mono;rintro m am ⟨rfl,c,g⟩;have K:S (Ps a d (q++n++⟨#[32]⟩++(ite (an=V) (mI f) f)) am/\Kq a.heap.size e am):=⟨c,s.out.2.trans g⟩;clear c g;go_wp2_with fail;go_end0
    refine⟨R,?_,K.out.2⟩;rw[a0.out];have:=K.out.1;simpa only[aB] using this
  |false=>
   have a0:S (a3=n++(ite (an=V) (mI f) f)):=by show _=_;simp_all
   clear a9;go_enter func96,ntmps96;go_wp2_with fail;go_region_held3 (λu=>u.cell? (aj C 5)=Q (Ax (Q ad) ax a8)/\u.cell? ad=Q bc/\u.cell? (aj C 6)=Q (zI 19)) (first|exact l.out _ _|exact l.out _ ((y.out.1.below blW).below x).pg.bel|exact l.out _ c.pg.bel|go_keep) (first|(go_at_call 185;apply(a6.out _).mono;rintro m b2 ⟨rfl,x⟩)|(go_at_call 403;apply(a7.out _ _<|(y.out.1.below blW).below x).mono;rintro m af ⟨rfl,c,g⟩))
   all_goals
    have r:S (Ps a d (q++n) af/\Kq a.heap.size e af):=⟨c,((y.out.2.trans<|Kq.of_below blW).trans<|Kq.of_below x).trans g⟩;obtain⟨E,G,F⟩:=l.out _ c.pg.bel;clear c g;go_wp2_with (go_at_call 186;fail);apply(a5.out _ r.out.1.pg.bel).mono;rintro m a4 ⟨rfl,ap⟩;have H:S (Ps a d (q++n) a4/\Kq a.heap.size e a4):=⟨r.out.1.below ap,r.out.2.trans<|Kq.of_below ap⟩;obtain⟨E,G,F⟩:=l.out _ H.out.1.pg.bel;clear ap;go_wp2_with (go_at_call 182;fail);apply(a1.out _ H.out.1.pg.bel).mono;rintro m h ⟨rfl,v⟩;have w:M h.heap.size h (pwX h z A B):=(ay _ h).alloc O _;have s:S (Ps a d (q++n) (pwX h z A B)/\Kq a.heap.size e (pwX h z A B)):=⟨(H.out.1.below v).below w,(H.out.2.trans<|Kq.of_below v).trans<|Kq.of_below w⟩;obtain⟨E,G,F⟩:=l.out _ s.out.1.pg.bel;clear v w;go_wp2_with (go_at_call 183;fail);apply(a2.out _ _ s.out.1).mono;rintro m am ⟨rfl,c,g⟩;have K:S (Ps a d (q++n++(ite (an=V) (mI f) f)) am/\Kq a.heap.size e am):=⟨c,s.out.2.trans g⟩;clear c g;go_wp2_with fail;go_end0
    refine⟨R,?_,K.out.2⟩;rw[a0.out];have:=K.out.1;simpa only[aB] using this
 .have a0:S (a3=n++(ite (an=V) (mI f) f)):=by show _=_;simp_all
  have H:(bb==19)=Y:=U;clear a9 bt;go_enter func96,ntmps96;go_wp2_with fail;go_region_held3 (λu=>u.cell? (aj C 5)=Q (Ax (Q ad) ax a8)/\u.cell? ad=Q bc/\u.cell? (aj C 6)=Q (zI bb)) (first|exact l.out _ _|exact l.out _ ((y.out.1.below blW).below x).pg.bel|exact l.out _ c.pg.bel|go_keep) (first|(go_at_call 185;apply(a6.out _).mono;rintro m b2 ⟨rfl,x⟩)|(go_at_call 403;apply(a7.out _ _<|(y.out.1.below blW).below x).mono;rintro m af ⟨rfl,c,g⟩))
  all_goals
   have r:S (Ps a d (q++n) af/\Kq a.heap.size e af):=⟨c,((y.out.2.trans<|Kq.of_below blW).trans<|Kq.of_below x).trans g⟩;obtain⟨E,G,F⟩:=l.out _ c.pg.bel;clear c g;go_wp2_with (go_at_call 182;fail);apply(a1.out _ r.out.1.pg.bel).mono;rintro m h ⟨rfl,v⟩;have w:M h.heap.size h (pwX h z A B):=(ay _ h).alloc O _;have s:S (Ps a d (q++n) (pwX h z A B)/\Kq a.heap.size e (pwX h z A B)):=⟨(r.out.1.below v).below w,(r.out.2.trans<|Kq.of_below v).trans<|Kq.of_below w⟩;obtain⟨E,G,F⟩:=l.out _ s.out.1.pg.bel;clear v w;go_wp2_with (go_at_call 183;fail);apply(a2.out _ _ s.out.1).mono;rintro m am ⟨rfl,c,g⟩;have K:S (Ps a d (q++n++(ite (an=V) (mI f) f)) am/\Kq a.heap.size e am):=⟨c,s.out.2.trans g⟩;clear c g;go_wp2_with fail;go_end0
   refine⟨R,?_,K.out.2⟩;rw[a0.out];have:=K.out.1;simpa only[aB] using this
section
variable (w0 : World) (vb : Nat) (L : zLJ) (t : Nat)
inductive BO (ns:zLD) (N:Nd) (word:Bz):Bz->Prop|two {q:Nat}{X E:Bz}:N.ks.length=2->LX w0 vb L t (N.ks.take 1) X->N.ks[1]?=some (q:Int)->Hid (VX w0 vb L t 106 q E)->BO ns N word (word++X++⟨#[32]⟩++E)|elf {q r:Nat}{X E Z1:Bz}:N.ks.length=3->LX w0 vb L t (N.ks.take 1) X->N.ks[1]?=some (q:Int)->Hid (VX w0 vb L t 106 q E)->N.ks[2]?=some (r:Int)->r<ns.length->(ab ns r).k=7->Hid (Pw w0 vb 179 #[vP vb,kH w0 t,.string ⟨#[32,101,108,105,102,32]⟩,nV<|qj L (r:Int)] Z1)->BO ns N word (word++X++⟨#[32]⟩++E++Z1)|els {q r:Nat}{X E F:Bz}:N.ks.length=3->LX w0 vb L t (N.ks.take 1) X->N.ks[1]?=some (q:Int)->Hid (VX w0 vb L t 106 q E)->N.ks[2]?=some (r:Int)->r<ns.length->(ab ns r).k≠7->Hid (VX w0 vb L t 106 r F)->BO ns N word (word++X++⟨#[32]⟩++E++(⟨#[32,101,108,115,101,32]⟩++F))
end
def b_w{a c e L an ba}(u:Tp a e L an ba){t i}(bh:t<=100000)(a1:i<e.length){N}(av:ab e i=N)(bb:N.ks.length<=1048576){C}(bj:C.size<=100){h}(ax:BO a c L t e N C h):
  Pw a c 179 #[vP c,kH a t,T C,nV<|qj L i] h:=by
 intro ak b k;obtain⟨w,_,_,_,y,A,d⟩:=Ai u a1;rw[av]at A d;have B:=λw b=>eD w b;have bc:=λb=>sr a.heap.size (gB t) b;have bf:=λb=>Bj a.heap.size (gB t) b;have a4:=d.hn;have bd:=λb=>sF (eG N.k) w b;have af:=ah (λg k=>mm a c t g k);have ad:S (∀(g n h:Bz)(s o:A0),g.size<=100000000->S (Pw a c 178 #[vP c,kH a t,s] n)->S (Pw a c 106 #[vP c,kH a t,o] h)->Pw a c 180 #[vP c,kH a t,T g,s,o] (g++n++⟨#[32]⟩++h)):=λg n h s o k ap a5=>Bi a c t g _ h s o (qk a c t g n k s ap) a5;have bk:=λf (l:M a.heap.size a f)=>(d.cells l).1;have r5:=λf (l:M a.heap.size a f)=>(d.cells l).2.1;have z:=k.pg.bel;have P:S (Pq a c b ak b):=⟨k,Kq.refl _ _⟩;have v:=ah d;cases ax
 case' two hX hq _=>obtain⟨K,rfl,H, -⟩:=d.ks.get hq;have G:=ah<|hX _<|d.ks.take 1 O
 case' elf q r n E Z1 _ hX hq _ hr hl h7 hZ=>
  obtain⟨K,rfl,H, -⟩:=d.ks.get hq;have G:=ah<|hX _<|d.ks.take 1 O;have⟨x,a9,am,a7,ao,m,p⟩:=Ai u hl;have a3:=λb=>sF (eG (ab e r).k) x b;have ar:=kqs h7;rw[m]at hZ;have z0:=λf (l:M a.heap.size a f)=>(p.cells l).1;have F:=v.kid hr Z;rw[m]at F;clear p m h7;generalize nC (eG (ab e r).k)=a8 at *;generalize (ab e r).k=a6 at *
 case' els q r n E Z1 _ hX hq _ hr hl h7 hZ=>
  obtain⟨K,rfl,H, -⟩:=d.ks.get hq;have G:=ah<|hX _<|d.ks.take 1 O;have⟨x,a9,am,a7,ao,m,p⟩:=Ai u hl;have a3:=λb=>sF (eG (ab e r).k) x b;have ar:=fC.2 h7;unfold VX at hZ;rw[m]at hZ;have z0:=λf (l:M a.heap.size a f)=>(p.cells l).1;have F:=v.kid hr Z;rw[m]at F;clear p m h7;generalize nC (eG (ab e r).k)=a8 at *;generalize (ab e r).k=a6 at *
 all_goals
  (have o:=a4.symm.trans O;subst o)
  have bo:=v.kid (j:=1) O Z;have a0:(1:Int)<=(y:Int)/\1<=y/\¬y=0:=O;obtain⟨_,_,_⟩:=a0;rw[A];generalize nC (eG N.k)=bn at *;unfold VX at *;unfold kH th at *;generalize gB t=bl at *;clear k d A u;go_in
  repeat' (go_wp2_with (go_at_call 404;apply ez<|B _ _);first|(refine Pq.stp P blR (by with_reducible first|assumption|exact ah (af.out _ Z)) ?_;intro f P z)|(go_region_held3 (λal=>M a.heap.size a al) (first|exact(P.below blW).ps.pg.bel|exact z|go_keep) (first|(go_at_call 404;refine ez (B _ _) ?_)|(refine Pq.stp P blW (by with_reducible exact ah<|ad.out _ _ _ _ _ O O O) ?_;intro f P z))))
  all_goals
   go_wp2_with (go_at_call 404;refine ez (B _ _) ?_);first|go_end0|apply aA (fE R _ _ _) R
   exact Pq.fin P (by simp[aB])
