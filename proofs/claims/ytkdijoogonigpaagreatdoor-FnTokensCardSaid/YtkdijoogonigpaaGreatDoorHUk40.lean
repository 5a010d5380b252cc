import Derived.Test.YtkdijoogonigpaaGreatDoorHUk22
import Derived.Test.YtkdijoogonigpaaGreatDoorHUk39
import Derived.Test.YtkdijoogonigpaaGreatDoorHUk19
set_option linter.all false
set_option maxRecDepth 100000
set_option maxHeartbeats 6400000
namespace Go.Proofs.YtkdijoogonigpaaGreatDoor
open Go.RowKit Go.Maps Go.WideMaps
section
variable {tk : Nat → Tk} {n : Nat}
end
def Fo.all(p:Nd->Prop):Fo->Prop
 | .nil=>True
 | .cons N k r=>p N/\k.all p/\r.all p
theorem se(p:Nd->Prop):∀(a b:Fo),(a.app b).all p↔a.all p/\b.all p
 | .nil,b=>by simp[Fo.app,Fo.all]
 | .cons N k r,b=>by simp only[Fo.app,Fo.all,se p r b,and_assoc]
theorem gx(p:Nd->Prop)(N:Nd)(k:Fo):(gB N k).all p↔p N/\k.all p:=by simp[gB,Fo.all]
def Gd(tk:Nat->Tk)(n:Nat)(N:Nd):Prop:=(N.x=z0\/∃a,N.x=(tk a).x)/\N.nm.length<=n/\∀b∈N.nm,∃a,b=(tk a).x
def afC(tk:Nat->Tk)(n:Nat):ul->Prop
 | .more _ _ x=>x.all (Gd tk n)
 | .post _ a=>a.all (Gd tk n)
 |_=>True
section
variable {tk : Nat → Tk} {n : Nat}
theorem gd0(k:Int)(s:Tk)(e op m:Int):Gd tk n (nd k s e op m z0 []):=⟨.inl rfl,aG _,fun b a=>by cases a⟩
theorem gdx(k:Int)(s:Tk)(e op m:Int)(q:Nat):Gd tk n (nd k s e op m (tk q).x []):=⟨.inr ⟨q,rfl⟩,aG _,fun x a=>by cases a⟩
theorem gd1(a:0<n)(k:Int)(s:Tk)(e op m:Int)(q:Nat):Gd tk n (nd k s e op m z0 [(tk q).x]):=⟨.inl rfl,a,fun x b=>⟨q,List.mem_singleton.1 b⟩⟩
theorem gdb(k:Int)(s:Tk)(e:Int):Gd tk n (Iq k s e):=by unfold Iq;split;exact gd0 ..;split;exact gd0 ..;exact gd0 ..
theorem gdh(N:Nd)(ks:Fo)(s:Tk)(e:Int)(a:Gd tk n N)(b:ks.all (Gd tk n)):(rj N ks s e).all (Gd tk n):=by
 unfold rj;split
 ·rw[gx,gx];exact⟨gd0 ..,a,b⟩
 ·rw[gx];exact⟨a,b⟩
theorem E4.gd{i j:Nat}{ns:List ByteArray}(d:E4 tk n i ns j):i+2*ns.length<=j/\j<n/\∀x∈ns,∃q,x=(tk q).x:=by
 induction d with
 |stop c a=>exact⟨by simp,a,fun x hx=>by cases hx⟩
 |go c a e _ b=>
  refine⟨by simp;omega,b.2.1,fun x hx=>?_⟩;rcases List.mem_cons.1 hx with rfl|hx
  ·exact⟨_,rfl⟩
  ·exact b.2.2 x hx
theorem Is.gd{i j:Nat}{ns:List ByteArray}{r:Bool}(e:Is tk n i ns r j):i+ns.length<=j/\j<=n/\∀x∈ns,∃q,x=(tk q).x:=by
 induction e with
 |close a b=>exact⟨by simp,by omega,fun x hx=>by cases hx⟩
 |rest a b c=>exact⟨by simp,by omega,fun x hx=>by cases hx⟩
 |last a b c=>exact⟨by simp,by omega,fun x hx=>⟨_,List.mem_singleton.1 hx⟩⟩
 |go a b c _ d=>
  refine⟨by simp;omega,d.2.1,fun x hx=>?_⟩;rcases List.mem_cons.1 hx with rfl|hx
  ·exact⟨_,rfl⟩
  ·exact d.2.2 x hx
theorem gdn{i j q:Nat}{ns:List ByteArray}(a:E4 tk n i ns j)(k:Int)(s:Tk)(e op m:Int):Gd tk n (nd k s e op m z0 ((tk q).x::ns)):=by
 obtain⟨c,d,b⟩:=a.gd;refine⟨.inl rfl,by show ns.length+1<=n;omega,fun x hx=>?_⟩;rcases List.mem_cons.1 hx with rfl|hx
 ·exact⟨_,rfl⟩
 ·exact b x hx
theorem P.gd{t:ul}{i j:Nat}{a:Fo}(b:P tk n t i a j):afC tk n t->a.all (Gd tk n):=by
 induction b
 case tlet0 h1 h2 h3 h4 h5=>intro _;rw[gx];exact⟨gdn h4 ..,trivial⟩
 case tlet h1 h2 h3 h4 h5 h6 ih=>intro _;rw[gx];exact⟨gdn h4 ..,ih trivial⟩
 case tfor h1 h2 h3 h4 h5 h6 h7 i1 i2=>intro _;rw[gx,se];exact⟨gdn h4 ..,i1 trivial,i2 trivial⟩
 case teach h1 h2 h3 h4 h5 h6 h7 h8 h9 i1 i2=>intro _;rw[gx,se];exact⟨gdn h4 ..,i1 trivial,i2 trivial⟩
 case ttry h1 h2 h3 h4 h5 h6 h7 h8 i1 i2=>intro _;rw[gx,se];exact⟨gdn h7 ..,i1 trivial,i2 trivial⟩
 case body nm r B h1 h2 h3 h4 ih=>intro _;rw[gx];exact⟨⟨.inl rfl,by have:=h3.gd;show nm.length<=n;omega,h3.gd.2.2⟩,ih trivial⟩
 case bopen h1 h2 h3 h4 h5 h6 i1 i2=>intro _;have:=i1 trivial;rw[gx]at this;exact i2 (gdh _ _ _ _ this.1 this.2)
 case tcon h1 h2 h3 h4 h5 ih=>intro _;rw[gx];exact⟨gd1 (by omega) ..,ih trivial⟩
 case tfn h1 h2 h3 h4 h5 ih=>intro _;rw[gx];exact⟨gd1 (by omega) ..,ih trivial⟩
 all_goals
  intro c
  simp_all only[gx,se,afC,Fo.all,gdx,gd0,qg,gdb,and_self,true_implies,forall_const]
end
def Fo.nms:Fo->Nat
 | .nil=>0
 | .cons N k r=>N.nm.length+k.nms+r.nms
theorem mi:∀(a b:Fo),(a.app b).nms=a.nms+b.nms
 | .nil,b=>by simp[Fo.app,Fo.nms]
 | .cons N k r,b=>by simp only[Fo.app,Fo.nms,mi r b];omega
theorem mj(N:Nd)(k:Fo):(gB N k).nms=N.nm.length+k.nms:=by simp[gB,Fo.nms]
theorem K9(N:Nd)(ks:Fo)(s:Tk)(e:Int):(rj N ks s e).nms=(gB N ks).nms:=by
 unfold rj;split
 ·rw[mj];simp[qg,nd]
 ·rfl
theorem wA(k:Int)(s:Tk)(e op m:Int)(x:ByteArray)(nm:List ByteArray):(nd k s e op m x nm).nm=nm:=rfl
theorem aee(k:Int)(s:Tk)(e:Int):(Iq k s e).nm=[]:=by unfold Iq;split;rfl;split<;>rfl
def Cq:ul->Nat
 | .more _ _ x=>x.nms
 | .post _ a=>a.nms
 |_=>0
theorem P.nms{tk:Nat->Tk}{n:Nat}{t:ul}{i j:Nat}{a:Fo}(b:P tk n t i a j):a.nms+i<=Cq t+j:=by
 induction b
 case tlet0 h1 h2 h3 h4 h5=>have:=h4.gd;simp only[mj,mi,Cq,wA,Fo.nms,db]at *;omega
 case tlet h1 h2 h3 h4 h5 h6 ih=>have:=h4.gd;simp only[mj,mi,Cq,wA,Fo.nms,db]at *;omega
 case tfor h1 h2 h3 h4 h5 h6 h7 i1 i2=>have:=h4.gd;simp only[mj,mi,Cq,wA,Fo.nms,db]at *;omega
 case teach h1 h2 h3 h4 h5 h6 h7 h8 h9 i1 i2=>have:=h4.gd;simp only[mj,mi,Cq,wA,Fo.nms,db]at *;omega
 case ttry h1 h2 h3 h4 h5 h6 h7 h8 i1 i2=>have:=h7.gd;simp only[mj,mi,Cq,wA,Fo.nms,db]at *;omega
 case body h1 h2 h3 h4 ih=>have:=h3.gd;simp only[mj,mi,Cq,wA,Fo.nms,db]at *;omega
 all_goals
  simp only[mj,mi,K9,Cq,qg,wA,aee,Fo.nms,db,gH]at *;omega
theorem afD(s:ByteArray)(p:Nat)(e:p<s.size):(bB s p).x.size<=s.size:=by
 have c:∀a b,(s.extract a b).size<=s.size:=fun a b=>by rw[je];omega
 unfold bB;split
 ·show(si s p).2.size<=_;unfold si;split
  ·exact aG _
  ·exact c _ _
 split
 ·split
  ·show(jp s p).2.2.size<=_;unfold jp;split
   ·exact aG _
   split
   ·exact aG _
   ·exact c _ _
  ·exact aG _
 split
 ·split
  ·show(co _).size<=_;have d:=(nK s (s.size+1) (p+1) [] e).2.2;rw[kF];simp at d;omega
  ·exact aG _
 split
 ·exact aG _
 ·exact aG _
theorem Ao:∀(e:List Tk)(q i:Nat)(b:Tk),e[q]?=some b->i<6->(jB e)[q*6+i]?=(cTk b)[i]?
 |[],q,i,b,c,d=>by simp at c
 |a::r,0,i,b,c,d=>by
  simp at c;subst c;show(cTk a++jB r)[0*6+i]?=_;rw[jG (by show 0*6+i<6;omega),Nat.zero_mul,fm]
 |a::r,q+1,i,b,c,d=>by
  show(cTk a++jB r)[(q+1)*6+i]?=_;rw[jc (by show 6<=_;omega),show(q+1)*6+i-(cTk a).length=q*6+i by show _-6=_;omega];exact Ao r q i b (by simpa using c) d
def oz(s:ByteArray):List Tk×Int:=if 0<=(mE s).2.2 then([],(mE s).2.2) else if(eG (mE s).2.1 6).2=true then((mE s).1, -1) else([],(s.size:Nat))
def TkP(s:ByteArray)(w:World)(e:Ending)(c:World):Prop:=∃a b,e= .returned (.tuple #[.slice a (oz s).1.length b,.int .i64 (oz s).2])/\c.ownsRow w.heap.size 29 6 (.slice a (oz s).1.length b) (oz s).1.length (jB (oz s).1)/\Below w.heap.size w c
theorem Ap(w:World)(s:ByteArray)(a1:s.size<=65536):Calls Tryz.prog 76 #[.string s] w (TkP s w):=by
 have y:od (w.alloc (.cells #[.slice none 0 0] 123)) w.heap.size w.heap.size []:=⟨⟨_,ax w _,dB _ _ _ _⟩,ag _⟩;have b:=DA _ w.heap.size w.heap.size s y (by omega);have l:Hid (Below w.heap.size w (w.alloc (.cells #[.slice none 0 0] 123))):=dF w _;have e:Hid (oz s=if 0<=(mE s).2.2 then([],(mE s).2.2) else if(eG (mE s).2.1 6).2=true then((mE s).1, -1) else([],(s.size:Nat))):=rfl;obtain⟨⟨m,o,B⟩,q⟩:∃F,mE s=F:=⟨_,rfl⟩;rw[q]at b e;unfold B9 at b;simp only at b e;obtain⟨a2,f⟩:=aD m.length;rw[f]at b;clear q y;go_in;go_wp2_with fail;generalize w.alloc (.cells #[.slice none 0 0] 123)=an at b l⊢;refine b.mono ?_;rintro a A ⟨G,J,al,C,rfl,i,h,k,j,H,ap,av⟩;have t:Below w.heap.size w A:=l.out.trans (H.mono (ag _));clear b;by_cases p:0<=B
 ·have a:=e.out;rw[ab p]at a;have c:=ar a;clear i h k j a f;go_wp2_with fail;go_ret2;exact(show TkP _ _ _ _ from⟨none,0,by rw[c.out];rfl,by rw[c.out];exact dB _ _ _ _,t⟩)
 ·have a:=e.out;rw[aa p]at a;have g:=ry A w.heap.size w.heap.size C o al 6 h k j (by decide) (by decide) (by omega);unfold oq at g;obtain⟨a4,v,_⟩:=h.ex;have d:=gy i v f;obtain⟨K,u⟩:=aD ((eG o 6).2);rw[u]at g a;have c:=ar a;clear a i h k j f v u;go_wp2_with fail;refine g.mono ?_;rintro a am ⟨a3,D,rfl,af,ak,a0,x,I⟩;have r:Below w.heap.size w am:=t.trans (I.mono (ag _));have z:=x.row d.out.2.1 d.out.1 (by decide) (by decide);have E:=ar z;clear g af ak x z;cases K with
  |true=>
   go_wp2_with fail;go_ret2;have a:=c.out;rw[ab trivial]at a;have L:(oz s).1=m:=by rw[a]
   exact(show TkP _ _ _ _ from⟨G,J,by rw[a];simp only[d.out.2.2];rfl,by rw[L,d.out.2.2];exact E.out,r⟩)
  |false=>
   go_wp2_with fail;go_ret2;have a:=c.out;rw[aa (by simp)]at a;exact(show TkP _ _ _ _ from⟨none,0,by rw[a];rfl,by rw[a];exact dB _ _ _ _,r⟩)
def gD(s:ByteArray)(p:Nat):Nat:=pz 0 ((cD s).take p)
def rsA(s:ByteArray)(p:Nat):Nat:=oh (gD s p) ((cD s).drop p)
theorem Ct{s:ByteArray}{p:Nat}(b:p<s.size):(cD s)[p]?=some (ao s p):=by
 have a:p<s.data.toList.length:=by rw[cJ];exact b
 unfold cD;rw[dj,aF a];rw[((dq s p _).1 (aF a)).2];rfl
theorem gm{s:ByteArray}{p:Nat}(a:p<s.size):gD s (p+1)=iJ (gD s p) (ao s p):=by
 unfold gD;rw[iq,Ct a,pi];rfl
theorem mH{s:ByteArray}{p:Nat}(a:p<s.size):rsA s p=iI (gD s p) (ao s p)+rsA s (p+1):=by
 have b:p<(cD s).length:=by rw[qi];exact a
 have c:(cD s).drop p=ao s p::(cD s).drop (p+1):=by
  rw[lB b]
  congr 1
  have:=Ct a;rw[aF b]at this;exact dr this
 unfold rsA;rw[c,oh,gm a]
theorem qr(s:ByteArray):∀p,gD s p<=4:=by
 have e:∀(a:List Int)(b:Nat),b<=4->pz b a<=4:=by
  intro a
  induction a with
  |nil=>intro b c;exact c
  |cons f a d=>
   intro b c;rw[pz];apply d;unfold iJ
   repeat' split
   all_goals omega
 intro p;exact e _ 0 (by omega)
theorem La(q:Nat)(c:Int)(j:c≠9\/q≠3):uw c<=iI q c:=by
 unfold uw iI;by_cases i:q=4
 ·rw[ab i]
  repeat' split
  all_goals omega
 rw[aa i];by_cases d:c=92
 ·rw[ab d,ab (by omega)];exact ag _
 rw[aa d];by_cases e:c=10
 ·rw[ab e,ab (by omega)];decide
 rw[aa e];by_cases f:c=32
 ·rw[ab f,ab (by omega)];exact ag _
 rw[aa f];by_cases g:c=9
 ·rw[ab g,ab (by omega),aa (by omega)];exact ag _
 rw[aa g];by_cases h:c=13
 ·rw[ab h,aa (by omega)];exact ag _
 rw[aa h];by_cases a:aL c=true
 ·have:=dl a;rw[ab a,ab (by omega)]
  repeat' split
  all_goals omega
 rw[aa a];by_cases b:bc c=true
 ·have:=lg b;rw[ab b,ab (by omega)]
  repeat' split
  all_goals omega
 rw[aa b]
 repeat' split
 all_goals omega
theorem Lc{s:ByteArray}:∀(n p:Nat),p+n<=s.size->(∀i,p<=i->i<p+n->ao s i≠10)->(ao s p≠9\/gD s p≠3)->uS s p n+rsA s (p+n)<=rsA s p
 |0,p,_,_,_=>by simp[uS]
 |n+1,p,m,a,b=>by
  have c:p<s.size:=by omega
  have h:=mH c;have j:=La (gD s p) (ao s p) b;have e:gD s (p+1)≠3:=by
   rw[gm c];have f:=a p (ag _) (by omega);unfold iJ;rw[aa f]
   repeat' split
   all_goals first|omega|(rename_i g;have:=g;omega)|skip
   all_goals (rcases b with g|g<;>simp_all)
  have i:=Lc n (p+1) (by omega) (fun i k l=>a i (by omega) (by omega)) (.inr e);have d:uS s p (n+1)=uw (ao s p)+uS s (p+1) n:=by
   rw[Nat.add_comm n 1,Dw,uS,uS];simp
  rw[show p+(n+1)=p+1+n by omega,d];omega
theorem uv{s:ByteArray}{p a:Nat}(g:p<a)(m:a<=s.size)(b:∀i,p<=i->i<a->ao s i≠10)(e:ao s p≠9):uR s p a+(iI (gD s p) (ao s p)-uw (ao s p))+rsA s a<=rsA s p:=by
 have c:p<s.size:=by omega
 have h:=mH c;have j:=La (gD s p) (ao s p) (.inl e);have d:gD s (p+1)≠3:=by
  rw[gm c];have f:=b p (ag _) g;unfold iJ;rw[aa f]
  repeat' split
  all_goals first|omega|skip
 have i:=Lc (s:=s) (a-(p+1)) (p+1) (by omega) (fun i k l=>b i (by omega) (by omega)) (.inr d);rw[show p+1+(a-(p+1))=a by omega]at i;rw[jC s (show p<=p+1 by omega) (by omega),zH];unfold uR;omega
def F4(s:ByteArray)(p:Nat):Nat:=if(gD s p=1\/gD s p=2)/\nH (ao s p)=true then 10 else 0
structure G9 (s:ByteArray) (p:Nat):Prop where
 bs:gD s p=4->ao s p=10\/s.size<=p
 dg:gD s p=1->aL (ao s p)=false
def gA(s:ByteArray)(p:Nat):Nat:=rsA s p+F4 s p
def Le(k:Int):Bool:=decide (k=46\/k=47\/k=40\/k=44\/k=10\/k=25\/60<k)
def Ha(k:Int):Nat:=if Le k=true then 10 else 6
theorem Lg(k:Int):Ha k<=10:=by unfold Ha;split<;>omega
theorem Cv{s:ByteArray}{p:Nat}:∀n,p+n<=s.size->rsA s (p+n)<=rsA s p
 |0,_=>ag _
 |n+1,a=>by
  have:=Cv (s:=s) (p:=p) n (by omega);have:=mH (s:=s) (p:=p+n) (by omega);rw[show p+(n+1)=p+n+1 by omega];omega
theorem F5(s:ByteArray):∀(f:Nat)(st:List Int)(p:Nat)(l:Int)(d:List Tk),p<=s.size->d.Pairwise (fun a b=>a.f<b.f)->(∀c∈d,0<=c.f/\c.f<(p:Int))->(AF s f st p l d).1.Pairwise (fun a b=>a.f<b.f)/\∀c∈(AF s f st p l d).1,0<=c.f
 |0,st,p,l,d,_,_,_=>⟨.nil,fun c hT=>by cases hT⟩
 |f+1,st,p,l,d,A,t,m=>by
  have k:∀(h:Tk)(e:Nat),h.f=(p:Int)->p<e->(d++[h]).Pairwise (fun a b=>a.f<b.f)/\∀c∈d++[h],0<=c.f/\c.f<(e:Int):=fun h e r o=>by
   refine⟨List.pairwise_append.2 ⟨t,List.pairwise_singleton _ _,fun a v b i=>?_⟩,fun c hT=>?_⟩
   ·rw[List.mem_singleton.1 i,r];exact(m a v).2
   ·rcases List.mem_append.1 hT with hT|hT
    ·have:=m c hT;omega
    ·rw[List.mem_singleton.1 hT,r];omega
  have z:∀e,p<e->∀c∈d,0<=c.f/\c.f<(e:Int):=fun e o c hT=>by have:=m c hT;omega
  have i:∀g,g<=s.size->g<=blk s (s.size+1) g/\blk s (s.size+1) g<=s.size:=fun g y=>gC s (s.size+1) g y;rw[AF];split
  ·rename_i o;have:=k ⟨6,(s.size:Nat),(s.size:Nat),l,0,⟨#[]⟩⟩ (p+1) (by show((s.size:Nat):Int)=_;omega) (by omega);exact⟨this.1,fun c hT=>(this.2 c hT).1⟩
  ·rename_i o;split
   ·rename_i u;have q:=gb s p (by omega) (abb s p u).1;have j:=i _ q.2.1;split
    ·have:=k ⟨5,(p:Nat),((bB s p).a:Nat),l,(bB s p).n,(bB s p).x⟩ (blk s (s.size+1) (bB s p).a) rfl (by omega);exact F5 s f _ _ _ _ j.2 this.1 this.2
    ·exact F5 s f _ _ _ _ j.2 t (z _ (by omega))
   ·split
    ·split
     ·rename_i w;have q:=gb s p (by omega) w;have j:=i _ q.2.1;have:=k ⟨vL s p,(p:Nat),((bB s p).a:Nat),l,(bB s p).n,(bB s p).x⟩ (blk s (s.size+1) (bB s p).a) rfl (by omega);exact F5 s f _ _ _ _ j.2 this.1 this.2
     ·exact⟨.nil,fun c hT=>by cases hT⟩
    ·exact⟨.nil,fun c hT=>by cases hT⟩
