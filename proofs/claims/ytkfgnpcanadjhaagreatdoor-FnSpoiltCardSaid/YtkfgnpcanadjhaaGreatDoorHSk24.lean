import Derived.Test.YtkfgnpcanadjhaaGreatDoorHSk21
import Derived.Test.YtkfgnpcanadjhaaGreatDoorHSk23
import Derived.Test.YtkfgnpcanadjhaaGreatDoorHSk14
set_option linter.all false
set_option maxRecDepth 100000
set_option maxHeartbeats 12800000
namespace Go.Proofs.YtkfgnpcanadjhaaGreatDoor
open Go.RowKit Go.Maps Go.WideMaps
theorem C9:∀(ts:List Tk)(q i:Nat)(T:Tk),ts[q]?=some T->i<6->(xI ts)[q*6+i]?=(cTk T)[i]?
 |[],q,i,T,b,c=>by simp at b
 |a::r,0,i,T,b,c=>by
  simp at b
  subst b
  show(cTk a++xI r)[0*6+i]?=_
  rw[gL (by show 0*6+i<6;omega),Nat.zero_mul,qG]
 |a::r,q+1,i,T,b,c=>by
  show(cTk a++xI r)[(q+1)*6+i]?=_
  rw[gq (by show 6<=_;omega),show(q+1)*6+i-(cTk a).length=q*6+i by show _-6=_;omega]
  exact C9 r q i T (by simpa using b) c
theorem ahe{d:Array Value}{b:List Tk}{tk:Nat->Tk}{n:Nat}(h:d.toList.take (n*6)=xI b)(m:b.length=n)(i:∀q T,b[q]?=some T->{T with l:=(tk q).l}=tk q/\((tk q).k≠6->T.l=(tk q).l)):TkR d tk n:=by
 intro q o
 have e:=aF (show q<b.length by omega)
 obtain⟨f,g⟩:=i q _ e
 generalize b[q]=T at e f g
 have a:∀c,c<6->d[q*6+c]?=(cTk T)[c]?:=fun c j=>by rw[<-C9 b q c T e j,<-h,iE,ab (by omega),qD]
 refine⟨T.l,?_,?_,?_,a 3 (by omega),?_,?_,g⟩
 all_goals rw[<-f]
 ·exact a 0 (by omega)
 ·exact a 1 (by omega)
 ·exact a 2 (by omega)
 ·exact a 4 (by omega)
 ·exact a 5 (by omega)
def kJ(s:ByteArray):List Tk×Int:=if 0<=(js s).2.2 then([],(js s).2.2) else if(dF (js s).2.1 6).2=true then((js s).1, -1) else([],(s.size:Nat))
def TkP(s:ByteArray)(w:World)(e:Ending)(b:World):Prop:=∃a c,e= .returned (.tuple #[.slice a (kJ s).1.length c,.int .i64 (kJ s).2])/\b.ownsRow w.heap.size 205 6 (.slice a (kJ s).1.length c) (kJ s).1.length (xI (kJ s).1)/\Below w.heap.size w b
theorem pF(w:World)(s:ByteArray)(ap:s.size<=65536):Calls Tryz.prog 100 #[.string s] w (TkP s w):=by
 have x:rl (w.alloc (.cells #[.slice none 0 0] 180)) w.heap.size w.heap.size []:=⟨⟨_,ay w _,dy _ _ _ _⟩,ah _⟩
 have b:=GL _ w.heap.size w.heap.size s x (by omega)
 have l:Hid (Below w.heap.size w (w.alloc (.cells #[.slice none 0 0] 180))):=dh w _
 have e:Hid (kJ s=if 0<=(js s).2.2 then([],(js s).2.2) else if(dF (js s).2.1 6).2=true then((js s).1, -1) else([],(s.size:Nat))):=rfl
 obtain⟨⟨m,n,A⟩,p⟩:∃E,js s=E:=⟨_,rfl⟩
 rw[p]at b e
 unfold E6 at b
 simp only at b e
 obtain⟨ar,f⟩:=aE m.length
 rw[f]at b
 clear p x
 go_in
 go_wp2_with fail
 generalize w.alloc (.cells #[.slice none 0 0] 180)=al at b l⊢
 refine b.mono ?_
 rintro a z ⟨F,I,af,B,rfl,i,h,k,j,G,am,an⟩
 have r:Below w.heap.size w z:=l.out.trans (G.mono (ah _))
 clear b
 by_cases o:0<=A
 ·have a:=e.out
  rw[ab o]at a
  have c:=aj a
  clear i h k j a f
  go_wp2_with fail
  go_ret2
  exact(show TkP _ _ _ _ from⟨none,0,by rw[c.out];rfl,by rw[c.out];exact dy _ _ _ _,r⟩)
 ·have a:=e.out
  rw[aa o]at a
  have g:=tB z w.heap.size w.heap.size B n af 6 h k j (by decide) (by decide) (by omega)
  unfold qs at g
  obtain⟨a0,u,_⟩:=h.ex
  have d:=jw i u f
  obtain⟨J,t⟩:=aE ((dF n 6).2)
  rw[t]at g a
  have c:=aj a
  clear a i h k j f u t
  go_wp2_with fail
  refine g.mono ?_
  rintro a ak ⟨av,D,rfl,L,ad,ao,v,H⟩
  have q:Below w.heap.size w ak:=r.trans (H.mono (ah _))
  have y:=v.row d.2.1 d.1 (by decide) (by decide)
  have C:=aj y
  clear g L ad v y
  cases J with
  |true=>
   go_wp2_with fail
   go_ret2
   have a:=c.out
   rw[ab trivial]at a
   have K:(kJ s).1=m:=by rw[a]
   exact(show TkP _ _ _ _ from⟨F,I,by rw[a];simp only[d.out.2.2];rfl,by rw[K,d.out.2.2];exact C,q⟩)
  |false=>
   go_wp2_with fail
   go_ret2
   have a:=c.out
   rw[aa (by simp)]at a
   exact(show TkP _ _ _ _ from⟨none,0,by rw[a];rfl,by rw[a];exact dy _ _ _ _,q⟩)
theorem row3{w:World}{r:Nat}{b c d:Value}{t:TypeId}(a:w.heap[r]?=some (.cells #[b,c,d] t (0,0))):w.cell? ⟨r,0,none⟩=some b/\w.cell? ⟨r,1,none⟩=some c/\w.cell? ⟨r,2,none⟩=some d/\∀j,w.frozen? ⟨r,j,none⟩=false:=
 ⟨by rw[au _ _ _ _ _ _ a];rfl,by rw[au _ _ _ _ _ _ a];rfl,by rw[au _ _ _ _ _ _ a];rfl,fun j=>cA _ _ _ _ _ a⟩
theorem set3{w:World}{r:Nat}{e f g:Value}{t:TypeId}(d:w.heap[r]?=some (.cells #[e,f,g] t (0,0)))(a b c:Value):(((w.setCell ⟨r,0,none⟩ a).setCell ⟨r,1,none⟩ b).setCell ⟨r,2,none⟩ c).heap[r]?=some (.cells #[a,b,c] t (0,0)):=
 bI _ r 2 _ _ _ (bI _ r 1 _ _ _ (bI _ r 0 _ _ _ d))
theorem aiE{w:World}{r k:Nat}(a:k≠r)(b c d:Value):(((w.setCell ⟨r,0,none⟩ b).setCell ⟨r,1,none⟩ c).setCell ⟨r,2,none⟩ d).heap[k]?=w.heap[k]?:=
 (aK _ _ _ _ a).trans ((aK _ _ _ _ a).trans (aK _ _ _ _ a))
theorem ab0{a w:World}{r:Nat}(d:Below r a w)(b c g:Value):Below r a (((w.setCell ⟨r,0,none⟩ b).setCell ⟨r,1,none⟩ c).setCell ⟨r,2,none⟩ g):=by
 have e:Below r a (w.setCell ⟨r,0,none⟩ b):=d.setCell (ah _) _
 have f:Below r a ((w.setCell ⟨r,0,none⟩ b).setCell ⟨r,1,none⟩ c):=e.setCell (ah _) _
 exact f.setCell (ah _) _
def psV(c a:Int)(v:Value):Value:= .agg #[.int .i64 c,.int .i64 a,v]
def Nl(w:World)(v:Value)(c:List Nd):Prop:=∃a b,a.map Mb.N=c/\Lw w b v a
theorem Nl.nds{w:World}{v:Value}{a:List Nd}(b:Nl w v a):dK w v a:=by
 obtain⟨d,e,rfl,c⟩:=b
 exact c.nds
theorem G1(w:World):Nl w (.slice none 0 0) []:=⟨[],0,rfl,dy _ _ _ _,fun b a=>by cases a⟩
def PsP(w:World)(c a:Int)(d:List Nd)(e:Ending)(b:World):Prop:=∃v,e= .returned (psV c a v)/\Nl b v d/\Below w.heap.size w b
def okC(a:List Nd):Int:=if(bu a).1=0 then 0 else 2
def okN(a:List Nd):List Nd:=if(bu a).1=0 then a else []
theorem I2(s:ByteArray):∀(f:Nat)(st:List Int)(p:Nat)(l:Int)(c:List Tk),p<=s.size->c.Pairwise (fun a b=>a.f<b.f)->(∀T∈c,0<=T.f/\T.f<(p:Int))->(tF s f st p l c).1.Pairwise (fun a b=>a.f<b.f)/\∀T∈(tF s f st p l c).1,0<=T.f
 |0,st,p,l,c,_,_,_=>⟨.nil,fun T hT=>by cases hT⟩
 |f+1,st,p,l,c,z,r,k=>by
  have j:∀(g:Tk)(d:Nat),g.f=(p:Int)->p<d->(c++[g]).Pairwise (fun a b=>a.f<b.f)/\∀T∈c++[g],0<=T.f/\T.f<(d:Int):=fun g d q m=>by
   refine⟨List.pairwise_append.2 ⟨r,List.pairwise_singleton _ _,fun a u b h=>?_⟩,fun T hT=>?_⟩
   ·rw[List.mem_singleton.1 h,q];exact(k a u).2
   ·rcases List.mem_append.1 hT with hT|hT
    ·have:=k T hT;omega
    ·rw[List.mem_singleton.1 hT,q];omega
  have y:∀d,p<d->∀T∈c,0<=T.f/\T.f<(d:Int):=fun d m T hT=>by have:=k T hT;omega
  have h:∀e,e<=s.size->e<=blk s (s.size+1) e/\blk s (s.size+1) e<=s.size:=fun e w=>jH s (s.size+1) e w
  rw[tF]
  split
  ·rename_i m
   have:=j ⟨6,(s.size:Nat),(s.size:Nat),l,0,⟨#[]⟩⟩ (p+1) (by show((s.size:Nat):Int)=_;omega) (by omega)
   exact⟨this.1,fun T hT=>(this.2 T hT).1⟩
  ·rename_i m
   split
   ·rename_i t
    have o:=jB s p (by omega) (abn s p t).1
    have i:=h _ o.2.1
    split
    ·have:=j ⟨5,(p:Nat),((fh s p).a:Nat),l,(fh s p).n,(fh s p).x⟩ (blk s (s.size+1) (fh s p).a) rfl (by omega)
     exact I2 s f _ _ _ _ i.2 this.1 this.2
    ·exact I2 s f _ _ _ _ i.2 r (y _ (by omega))
   ·split
    ·split
     ·rename_i v
      have o:=jB s p (by omega) v
      have i:=h _ o.2.1
      have:=j ⟨tE s p,(p:Nat),((fh s p).a:Nat),l,(fh s p).n,(fh s p).x⟩ (blk s (s.size+1) (fh s p).a) rfl (by omega)
      exact I2 s f _ _ _ _ i.2 this.1 this.2
     ·exact⟨.nil,fun T hT=>by cases hT⟩
    ·exact⟨.nil,fun T hT=>by cases hT⟩
open Go.Lib (strCells strCells_length)
structure TkO (n:Nat) (ts:List Tk):Prop where
 each:∀T∈ts,0<=T.f/\T.f<=T.t/\T.t<=(n:Int)/\0<=T.l
 next:ts.Pairwise fun a b=>a.t<=b.f
theorem I3(s:ByteArray):∀(f:Nat)(st:List Int)(p:Nat)(l:Int)(a:List Tk),p<=s.size->TkO s.size a->(∀T∈a,T.t<=(p:Int))->0<=l->TkO s.size (tF s f st p l a).1
 |0,st,p,l,a,_,_,_,_=>⟨fun T hT=>(by cases hT),.nil⟩
 |f+1,st,p,l,a,H,i,j,g=>by
  have h:∀(c:Tk)(q b:Nat),c.f=(p:Int)->c.t=(q:Int)->p<=q->q<=s.size->q<=b->0<=c.l->TkO s.size (a++[c])/\∀T∈a++[c],T.t<=(b:Int):=fun c q b m o C E F G=>by
   refine⟨⟨fun T hT=>?_,List.pairwise_append.2 ⟨i.next,List.pairwise_singleton _ _,fun u w B d=>?_⟩⟩,fun T hT=>?_⟩
   ·rcases List.mem_append.1 hT with hT|hT
    ·exact i.each T hT
    ·rw[List.mem_singleton.1 hT,m,o];omega
   ·rw[List.mem_singleton.1 d,m];exact j u w
   ·rcases List.mem_append.1 hT with hT|hT
    ·have:=j T hT;omega
    ·rw[List.mem_singleton.1 hT,o];omega
  have A:∀b,p<=b->∀T∈a,T.t<=(b:Int):=fun b r T hT=>by have:=j T hT;omega
  have d:∀q,q<=s.size->q<=blk s (s.size+1) q/\blk s (s.size+1) q<=s.size:=fun q z=>jH s (s.size+1) q z
  rw[tF]
  split
  ·rename_i r
   exact(h ⟨6,(s.size:Nat),(s.size:Nat),l,0,⟨#[]⟩⟩ s.size s.size (by show((s.size:Nat):Int)=_;omega) rfl (by omega) (by omega) (by omega) g).1
  ·rename_i r
   split
   ·rename_i v
    have k:=jB s p (by omega) (abn s p v).1
    have e:=d _ k.2.1
    split
    ·have:=h ⟨5,(p:Nat),((fh s p).a:Nat),l,(fh s p).n,(fh s p).x⟩ (fh s p).a (blk s (s.size+1) (fh s p).a) rfl rfl (by omega) (by omega) (by omega) g
     exact I3 s f _ _ _ _ e.2 this.1 this.2 (by omega)
    ·exact I3 s f _ _ _ _ e.2 i (A _ (by omega)) (by omega)
   ·split
    ·split
     ·rename_i y
      have k:=jB s p (by omega) y
      have e:=d _ k.2.1
      have:=h ⟨tE s p,(p:Nat),((fh s p).a:Nat),l,(fh s p).n,(fh s p).x⟩ (fh s p).a (blk s (s.size+1) (fh s p).a) rfl rfl (by omega) (by omega) (by omega) g
      exact I3 s f _ _ _ _ e.2 this.1 this.2 g
     ·exact⟨fun T hT=>(by cases hT),.nil⟩
    ·exact⟨fun T hT=>(by cases hT),.nil⟩
theorem ab1(s:ByteArray):TkO s.size (kJ s).1:=by
 have b:TkO s.size []:=⟨fun c a=>(by cases a),.nil⟩
 unfold kJ
 split
 ·exact b
 split
 ·exact I3 s _ _ _ _ _ (jH s (s.size+1) 0 (aJ _)).2 b (fun c a=>(by cases a)) (by decide)
 ·exact b
theorem I4{n:Int}:∀(l:List Tk)(c:Int),l.Pairwise (fun a b=>a.f<b.f)->(∀T∈l,c<=T.f/\T.f<=n)->c<=n+1->(l.length:Int)<=n+1-c
 |[],c,_,_,h=>by simp;omega
 |T::r,c,k,g,h=>by
  have m:=g T da
  obtain⟨i,j⟩:=List.pairwise_cons.1 k
  have:=I4 (n:=n) r (T.f+1) j (fun d e=>by have:=i d e;have:=g d (ep _ e);omega) (by omega)
  rw[co]
  simp
  omega
theorem Fa(s:ByteArray):(kJ s).1.length<=s.size+1:=by
 have e:=ab1 s
 have g:(kJ s).1.Pairwise fun c d=>c.f<d.f:=by
  unfold kJ
  split
  ·exact .nil
  split
  ·exact(I2 s (s.size+1) [100,6] (blk s (s.size+1) 0) 1 [] (jH s (s.size+1) 0 (aJ _)).2 .nil (fun b a=>by cases a)).1
  ·exact .nil
 have:=I4 (n:=(s.size:Int)) _ 0 g (fun b a=>by have:=e.each b a;omega) (by omega)
 omega
theorem TkO.at_{n:Nat}{a:List Tk}(h:TkO n a){i:Nat}{T b:Tk}(j:a[i]?=some T)(k:a[i+1]?=some b):T.t<=b.f:=by
 obtain⟨e,c⟩:=List.getElem?_eq_some_iff.1 j
 obtain⟨g,d⟩:=List.getElem?_eq_some_iff.1 k
 rw[<-c,<-d]
 exact(List.pairwise_iff_getElem.1 h.next) i (i+1) e g (by omega)
end Go.Proofs.YtkfgnpcanadjhaaGreatDoor
namespace Go.Proofs.YtkfgnpcanadjhaaGreatDoor
open Go.Lib (strCells strCells_length wpList_append_own_string)
open Go.RowKit Go.Maps Go.WideMaps
def Rcw(C:Cd)(f:FuncId)(a:List Value)(c:Cr)(v:Value)(b:Cr):Prop:=
 ∀ ⦃E:Bs⦄ ⦃w:World⦄,Cu C E w c->Calls Tryz.prog f (cV E::a).toArray w fun d w'=>d= .returned v/\Cu C E w' b/\Below E.base w w'
theorem Ak(a b:ByteArray):strCells (a++b)=strCells a++strCells b:=by
 unfold strCells
 rw[iB,BE,dm]
theorem KA{w:World}{base g n cap:Nat}{T:ByteArray}(a:w.ownsRow base 5 1 (.slice (some ⟨g,0,none⟩) n cap) n (strCells T)):
  (convert 22 9 (.slice (some ⟨g,0,none⟩) n cap)).run Tryz.prog w= .ok (.string T) w:=by
 have b:strCells T=B8 (se T.data.toList):=by
  unfold strCells B8 se
  rw[List.map_map];rfl
 rw[b]at a
 rw[jx a,uz]
theorem nB(k:Int)(w:World):Calls Tryz.prog 202 #[.int .i64 k] w fun e w'=>e= .returned (.bool (opn k))/\w'=w:=by
 by_cases a:k=46\/k=47\/k=40\/k=44\/k=10\/k=25
 ·rcases a with rfl|rfl|rfl|rfl|rfl|rfl
  all_goals
   go_in
   go_wp2
   go_ret
   exact⟨rfl,rfl⟩
 ·have e:((k==46)=false/\(k==47)=false/\(k==40)=false)/\(k==44)=false/\(k==10)=false/\(k==25)=false:=by simp only[cJ];omega
  have c:opn k=decide (60<k):=by unfold opn;exact decide_eq_decide.2 (by omega)
  rw[c]
  clear a c
  by_cases b:60<k
  ·rw[bB b]
   go_in
   go_wp2
   go_ret
   exact⟨rfl,rfl⟩
  ·rw[az b]
   go_in
   go_wp2
   go_ret
   exact⟨rfl,rfl⟩
def blV:List ByteArray:=[⟨#[32]⟩,⟨#[32]⟩,⟨#[32]⟩,⟨#[32,32]⟩,⟨#[9]⟩,⟨#[13]⟩,⟨#[32,9,32]⟩]
theorem aiF:∀t∈blV,t.size<=5/\t∈GF:=fun t a=>by
 simp only[blV,gi,mE,mI]at a
 rcases a with rfl|rfl|rfl|rfl|rfl|rfl|rfl<;>exact⟨by decide,by simp[GF]⟩
theorem zn{w:World}{b j:Nat}{l:List ByteArray}{t:ByteArray}(a:w.cell? ⟨b,j,none⟩=(l.map Value.string).toArray[j]?)(ht:l[j]?=some t):w.cell? ⟨b,j,none⟩=some (.string t):=by
 rw[a];simp[ht]
theorem I5(C:Cd)(c:Cr)(n:0<=c.p)(u:c.p<=800000000):∃(t:ByteArray) (c':Cr),(t.size<=5/\t∈GF)/\(c'.p=c.p+1/\c'.r=c.r)/\Rc C 203 [] c (.string t) c':=by
 obtain⟨a,k,d,m,j⟩:=dc C c 7 (by decide) (by decide) n (by omega)
 obtain⟨a,rfl⟩:=dv d.1
 obtain⟨t,e⟩:∃t,blV[a]?=some t:=⟨_,aF (show a<7 by omega)⟩
 refine⟨t,k,(aiF t (bJ e)),m,fun o v b=>?_⟩
 have g:=b.cw
 have s:=d.2
 have q:=d.1
 go_in
 go_wp2_with fail
 refine g.al.run j fun w1 h i=>?_
 have r:=zn (l:=blV) (nE b i a) e
 have f:=aj h
 clear g h i b e
 go_wp2_with fail
 go_ret
 exact⟨rfl,f.out.cu,f.out.gr⟩
inductive G2 (C:Cd) (s:ByteArray):List Tk->Cr->ByteArray->Cr->Prop
 |nil (c:Cr):G2 C s [] c ⟨#[]⟩ c
 |stop {T:Tk}{ts:List Tk}{c:Cr}:T.k=6->G2 C s (T::ts) c ⟨#[]⟩ c
 |sep {T:Tk}{ts:List Tk}{c c1 c2:Cr}{j:Nat}{b y:ByteArray}:T.k=5->j<6->abq[j]?=some b->Rc C 13 [.int .i64 6] c (.int .i64 j) c1->G2 C s ts c1 y c2->G2 C s (T::ts) c (b++y) c2
 |blank {T:Tk}{ts:List Tk}{c c1 c2:Cr}{b y:ByteArray}:T.k≠6->T.k≠5->opn T.k=false->b∈GF->Rc C 203 [] c (.string b) c1->G2 C s ts c1 y c2->G2 C s (T::ts) c (s.extract T.f.toNat T.t.toNat++b++y) c2
 |opn0 {T:Tk}{ts:List Tk}{c c1 c2 c3:Cr}{j:Nat}{b y:ByteArray}:T.k≠6->T.k≠5->opn T.k=true->Rc C 13 [.int .i64 4] c (.int .i64 0) c1->j<3->Ki[j]?=some b->Rc C 13 [.int .i64 3] c1 (.int .i64 j) c2->G2 C s ts c2 y c3->G2 C s (T::ts) c (s.extract T.f.toNat T.t.toNat++b++y) c3
 |opn1 {T:Tk}{ts:List Tk}{c c1 c2 c3:Cr}{u:Int}{b y:ByteArray}:T.k≠6->T.k≠5->opn T.k=true->Rc C 13 [.int .i64 4] c (.int .i64 u) c1->(u==0)=false->b∈GF->Rc C 203 [] c1 (.string b) c2->G2 C s ts c2 y c3->G2 C s (T::ts) c (s.extract T.f.toNat T.t.toNat++b++y) c3
def LoR(s:ByteArray)(b:List Tk)(t:ByteArray):Prop:=∃a,LoC s (b.take a) t/\(b.length<=a\/∃c,b[a]?=some c/\c.k=6)
theorem LoR.cons{s b c:ByteArray}{T:Tk}{a:List Tk}(d:LoR s a c)(f:PcT s T b):LoR s (T::a) (b++c):=by
 obtain⟨g,e,h2⟩:=d
 refine⟨g+1,.cons f e,?_⟩
 rcases h2 with h2|h2
 ·exact .inl (by simpa using h2)
 ·exact .inr (by simpa using h2)
theorem ahf(C:Cd)(s:ByteArray):∀(ts:List Tk)(c:Cr)(m:Int),0<=c.p->c.p<=700000000-3*ts.length->(∀T∈ts,m<=T.f/\T.f<=T.t/\T.t<=s.size)->ts.Pairwise (fun a b=>a.t<=b.f)->0<=m->m<=s.size->∃(y:ByteArray) (c':Cr),(c.p<=c'.p/\c'.p<=c.p+3*ts.length/\c'.r=c.r)/\(y.size:Int)<=s.size-m+10*ts.length/\LoR s ts y/\G2 C s ts c y c':=by
 intro ts
 induction ts with
 |nil=>
  intro c m v B _ _ ad E
  simp only[dB]at B⊢
  exact⟨⟨#[]⟩,c,by omega,by show(0:Int)<=_;omega,⟨0,.nil,.inl (ah _)⟩,.nil c⟩
 |cons T ts an=>
  intro c m v B E af ad av
  simp only[co]at B⊢
  by_cases j:T.k=6
  ·exact⟨⟨#[]⟩,c,by omega,by show(0:Int)<=_;omega,⟨0,.nil,.inr ⟨T,rfl,j⟩⟩,.stop j⟩
  have a0:=E T da
  obtain⟨K,L⟩:=List.pairwise_cons.1 af
  have rc:∀g:Cr,0<=g.p->g.p<=700000000-3*ts.length->_:=fun g ao ap=>an g T.t ao ap (fun G H=>⟨K G H,(E G (ep _ H)).2⟩) L (by omega) (by omega)
  have a2:((s.extract T.f.toNat T.t.toNat).size:Int)<=T.t-T.f:=by rw[lj];omega
  by_cases q:T.k=5
  ·obtain⟨l,g,F,w,n⟩:=dc C c 6 (by decide) (by decide) v (by omega)
   obtain⟨l,rfl⟩:=dv F.1
   obtain⟨b,d⟩:∃b,abq[l]?=some b:=⟨_,aF (show l<6 by omega)⟩
   have u:=bJ d
   have am:b.size<=5:=(show ∀t∈abq,t.size<=5 by decide) b u
   obtain⟨y,e,z,o,i,h⟩:=rc g (by omega) (by omega)
   exact⟨b++y,e,by omega,by rw[ax];omega,i.cons ⟨j,.inl ⟨q,u⟩⟩,.sep q (by omega) d n h⟩
  have A:∀{b y:ByteArray}{e:Cr},(b∈GF\/(opn T.k=true/\b∈Ki))->b.size<=5->(c.p<=e.p/\e.p<=c.p+3*((ts.length+1:Nat):Int)/\e.r=c.r)->(y.size:Int)<=s.size-T.t+10*ts.length->LoR s ts y->G2 C s (T::ts) c (s.extract T.f.toNat T.t.toNat++b++y) e->_:=fun {b y e} d am w a3 al h=>(⟨_,e,w,by rw[ax,ax];omega,al.cons ⟨j,.inr ⟨q,b,d,rfl⟩⟩,h⟩:∃(y:ByteArray) (c':Cr),(c.p<=c'.p/\c'.p<=c.p+3*((ts.length+1:Nat):Int)/\c'.r=c.r)/\(y.size:Int)<=s.size-m+10*((ts.length+1:Nat):Int)/\LoR s (T::ts) y/\G2 C s (T::ts) c y c')
  cases ho:opn T.k with
  |false=>
   obtain⟨b,g,d,w,n⟩:=I5 C c v (by omega)
   obtain⟨y,e,z,o,i,h⟩:=rc g (by omega) (by omega)
   exact A (.inl d.2) d.1 (by omega) o i (.blank j q ho d.2 n h)
  |true=>
   obtain⟨ar,g,a1,w,n⟩:=dc C c 4 (by decide) (by decide) v (by omega)
   by_cases I:ar=0
   ·subst I
    obtain⟨l,e,F,ak,x⟩:=dc C g 3 (by decide) (by decide) (by omega) (by omega)
    obtain⟨l,rfl⟩:=dv F.1
    obtain⟨b,d⟩:∃b,Ki[l]?=some b:=⟨_,aF (show l<3 by omega)⟩
    have u:=bJ d
    obtain⟨y,J,z,o,i,h⟩:=rc e (by omega) (by omega)
    exact A (.inr ⟨ho,u⟩) ((show ∀t∈Ki,t.size<=5 by decide) b u) (by omega) o i (.opn0 j q ho n (by omega) d x h)
   ·obtain⟨b,e,d,ak,x⟩:=I5 C g (by omega) (by omega)
    obtain⟨y,J,z,o,i,h⟩:=rc e (by omega) (by omega)
    exact A (.inl d.2) d.1 (by omega) o i (.opn1 j q ho n (by simpa using I) d.2 x h)
theorem xA{w:World}{f c o k g d p l:Nat}{a e:Value}{q r:List Value}(m:w.ownsRow f c o a k q)(n:w.ownsRow g d p e l r)(j:c≠d):a.ownBlock=none\/a.ownBlock≠e.ownBlock:=by
 rcases n.2 with⟨b,_⟩|⟨v,t,u,b,_,i,_⟩
 ·rw[b]
  cases h:a.ownBlock with
  |none=>exact .inl rfl
  |some s=>exact .inr (by simp[Value.ownBlock])
 ·right
  rw[b]
  exact ee m i (eA j)
structure Lo (C:Cd) (E:Bs) (W w:World) (c:Cr) (v:Value) (t:ByteArray) (tv:Value) (ts:List Tk):Prop where
 cu:Cu C E w c
 out:w.ownsRow E.base 5 1 v t.size (strCells t)
 tok:w.ownsRow E.base 205 6 tv ts.length (xI ts)
 bel:Below E.base W w
section
variable {C : Cd} {E : Bs} {W w w' : World} {c c' : Cr} {v tv u : Value} {t : ByteArray} {ts : List Tk} {f : FuncId} {ar : List Value} {Q : Ending → World → Prop}
theorem Lo.below(a:Lo C E W w c v t tv ts)(b:Below w.heap.size w w'):Lo C E W w' c v t tv ts:=
 ⟨a.cu.below b,cF a.out b,cF a.tok b,a.bel.trans (b.mono a.cu.lo.2)⟩
theorem Lo.al{o:Obj}(a:Lo C E W w c v t tv ts):Lo C E W (w.alloc o) c v t tv ts:=a.below (dh w o)
theorem Lo.run(a:Lo C E W w c v t tv ts)(k:Rc C f ar c u c')(d:∀w',Lo C E W w' c' v t tv ts->w.grownBy w' (some E.cb)->Q (.returned u) w'):Calls Tryz.prog f (cV E::ar).toArray w Q:=by
 refine(k a.cu).mono ?_
 rintro g w' ⟨rfl,e,b⟩
 exact d w' ⟨e,a.out.kept b (.inr (ee a.out a.cu.cur (by decide))),a.tok.kept b (.inr (ee a.tok a.cu.cur (by decide))),a.bel.trans (jy b a.cu.lo.1 a.cu.lo.2)⟩ b
theorem Lo.app{n:Array Oper}{p:List Oper}{o:Oper}{a:Act}{m:Exit->Act->World->Prop}(d:Lo C E W w c v t tv ts)(s:ByteArray)(z:(t++s).size<=4000000)(r:o.guard=none)(l x:Operand)
  (u:o.op= .call {callee:= .builtin .append,args:=#[l,x],argTypes:=#[22,9]}) (B:a.eval l=v) (F:a.eval x= .string s)
  (k:∀h w1,Lo C E W w1 c h (t++s) tv ts->(∀(b:Nat)(cs:Array Value)(g:TypeId)(fr:Nat×Nat),w.heap[b]?=some (.cells cs g fr)->g≠5->w1.heap[b]?=some (.cells cs g fr))->wpList Tryz.prog n m p (a.put o.dst h) w1):wpList Tryz.prog n m (o::p) a w:=by
 obtain⟨G,H,I,J,K⟩:=dD Tryz.info5
 rw[ax]at z
 refine wpList_append_own_string _ r l x 22 9 u E.base 5 G Tryz.underlying22 Tryz.underlying9 H I J K _ _ _ B d.out s F (by unfold maxLen;omega) (by omega) d.cu.lo.2 ?_
 intro h q y f _
 have j:Below E.base w q:=(ag _ w).grown f d.cu.lo.2 (fun k e=>(d.out.lt k e).1)
 exact k h q ⟨⟨⟨d.cu.lo.1,ch d.cu.lo.2 j.size⟩,d.cu.code.below j,(f.block _ d.cu.lt (fun i=>ee d.out d.cu.cur (by decide) i.symm)).trans d.cu.cur⟩,by rw[ax,Ak];exact y,d.tok.kept f (xA d.tok d.out (by decide)),d.bel.trans j⟩ (fun b cs g fr e A=>(f.block _ (aw e) (fun i=>ee d.out e A i.symm)).trans e)
theorem Lo.conv(a:Lo C E W w c v t tv ts):(convert 22 9 v).run Tryz.prog w= .ok (.string t) w:=by
 rcases bg a.out with⟨d,rfl⟩|⟨f,e,rfl⟩
 ·have b:t=ByteArray.empty:=by
   have:t.data=#[]:=Array.eq_empty_of_size_eq_zero d
   cases t;simp_all
   first|rfl|done
  rw[b]
  exact xD w
 ·exact KA a.out
theorem Lo.cells{a:Option Addr}{n j:Nat}(e:Lo C E W w c v t (.slice a n j) ts)(m:ts.length=n){i:Nat}{T:Tk}(h:ts[i]?=some T):∃g,a=some ⟨g,0,none⟩/\w.cell? ⟨g,i*6,none⟩=some (.int .i64 T.k)/\w.cell? ⟨g,i*6+1,none⟩=some (.int .i64 T.f)/\w.cell? ⟨g,i*6+2,none⟩=some (.int .i64 T.t)/\w.cell? ⟨g,i*6+3,none⟩=some (.int .i64 T.l)/\w.cell? ⟨g,i*6+4,none⟩=some (.int .i64 T.n)/\w.cell? ⟨g,i*6+5,none⟩=some (.string T.x):=by
 subst m
 have s:i<ts.length:=(List.getElem?_eq_some_iff.1 h).1
 rcases bg e.tok with⟨r,_⟩|⟨g,p,d⟩
 ·omega
 ·have q:=d
  cases d
  have k:=e.tok
  refine⟨g,rfl,?_⟩
  have c:∀b,b<6->w.cell? ⟨g,i*6+b,none⟩=(cTk T)[b]?:=fun b o=>by rw[k.cellAt (i*6+b) (by omega),C9 ts i b T h o]
  exact⟨c 0 (by omega),c 1 (by omega),c 2 (by omega),c 3 (by omega),c 4 (by omega),c 5 (by omega)⟩
end
theorem aeE{C:Cd}{s t:ByteArray}{c a9:Cr}(cq:s.size<=65536)(a3:G2 C s (kJ s).1 c t a9)(ht:t.size<=1048576):Rcw C 163 [.string s] c (.string t) a9:=by
 intro br a6 bb
 have L:=pF a6 s cq
 have bc:=ab1 s
 have b2:(kJ s).1.length<=65537:=by have:=Fa s;omega
 unfold TkP at L
 generalize (kJ s).1=z at L bc b2 a3
 generalize (kJ s).2=d5 at L
 obtain⟨H,a2⟩:=aE z.length
 rw[a2]at L b2
 go_in
 go_wp2_with fail
 refine L.mono ?_
 rintro w w1 ⟨bv,bD,rfl,b3,n⟩
 have cn:=bb.lo
 have bs:Lo C br a6 w1 c (.slice none 0 0) ⟨#[]⟩ (.slice bv H bD) z:=⟨bb.below n,dy _ _ _ _,by rw[a2];exact mh b3 (fun cd _ cI c8=>⟨rfl,by omega⟩),n.mono cn.2⟩
 have av:=eJ a2 bc
 clear L b3 n a2 bc bb
 go_wp2_with fail
 go_loopw [7,20] (fun cv iv wr=>∃(a:Nat) (u bo:ByteArray) (a7:Cr),iv= .int .i64 a/\a<=H/\Lo C br a6 wr a7 cv u (.slice bv H bD) z/\G2 C s (z.drop a) a7 bo a9/\u++bo=t) (fun _ iv _=>H-(intOf iv).toNat)
 case atStart=>exact⟨0,⟨#[]⟩,t,c,rfl,aJ _,bs,a3,ad9 t⟩
 case round=>
  clear bs a3
  obtain⟨a,u,bo,a7,rfl,ds,d,ap,w⟩:=hrel
  by_cases dk:a<H
  ·have a1:a<z.length:=by have:=av.1;omega
   obtain⟨b,ak⟩:∃b,z[a]?=some b:=⟨_,aF a1⟩
   have b0:z.drop a=b::z.drop (a+1):=by rw[ju a1];rw[aF a1]at ak;rw[bh ak]
   rw[b0]at ap
   have ce:=av.2.each b (bJ ak)
   obtain⟨cd,rfl,bA,cb,cc,cy,cz,cB⟩:=d.cells av.1 ak
   have dn:(0:Int)<=(a:Int):=by omega
   have cg:(a:Int)<(H:Int):=by omega
   have g:=aj w
   obtain⟨f,bd⟩:=dv (show 0<=b.f by omega)
   obtain⟨e,bf⟩:=dv (show 0<=b.t by omega)
   rw[bd]at cb
   rw[bf]at cc
   have dd:f<=e/\e<=s.size:=by omega
   have c9:(0:Int)<=(f:Int):=by omega
   have df:(f:Int)<=(e:Int):=by omega
   have dg:(e:Int)<=(s.size:Int):=by omega
   have K:=eJ bd bf
   clear b0 ak w bd bf ce a1
   cases ap with
   |stop F=>
    rw[F]at bA
    have cr:=fun o=>(d.al (o:=o)).conv
    have p:=aj fun o=>d.al (o:=o)
    have bE:=g.out
    rw[Iq]at bE
    subst bE
    clear d
    go_wp2_with fail
    go_ret
    exact⟨rfl,(p _).cu,(p _).bel⟩
   |@sep _ _ _ ad _ G m J E ck n x A=>
    rw[E]at bA
    have cl:(0:Int)<=(G:Int):=by omega
    have cm:(G:Int)<6:=by omega
    have r:(u++m).size<=4000000:=by have:=congrArg ByteArray.size g.out;simp only[ax]at this⊢;omega
    have p:=jw d x (fun ct d1:Obj=>(d.al (o:=ct)).cu)
    clear d x
    go_wp2_with fail
    refine p.1.al.al.run p.2.1 fun d4 bt ba=>?_
    have bk:=nE (p.1.al).cu ba G
    rw[db]at bk
    have b5:=zn (l:=abq) bk n
    clear bk
    have bw:=(ba.block wr.heap.size (by simp;omega) (fun w=>by have:=p.1.cu.lt;have:=bh w;omega)).trans (((dh (wr.alloc _) _).block wr.heap.size (by simp)).trans (ay wr _))
    have b7:=aj bt
    clear bt ba n
    go_wp2_with (at_builtin;refine b7.out.app m r rfl _ _ rfl rfl rfl ?_;intro bl I j h;have q:=h _ _ _ _ bw (by decide);have ao:=fun a=>au I wr.heap.size a _ _ _ q)
    clear b5 bw h
    refine dj (nB _ _) ?_
    go_wp2_with fail
    go_roundw
    case rel=>exact⟨a+1,_,J,ad,by go_num,by omega,j,A,by rw[be];exact g.out⟩
    case measure=>simp[intOf];omega
   |@blank _ _ _ ad _ m J F E am n x A=>
    have bF:(b.k==6)=false/\(b.k==5)=false:=by simp[F,E]
    have y:s.extract b.f.toNat b.t.toNat=s.extract f e:=by rw[K.out.1,K.out.2];rfl
    rw[y]at g
    have r:(u++s.extract f e++m).size<=4000000:=by have:=congrArg ByteArray.size g.out;simp only[ax]at this⊢;omega
    have an:(u++s.extract f e).size<=4000000:=by simp only[ax]at r⊢;omega
    have i:=eJ (fun o=>d.al (o:=o)) (fun af=>ay wr (.cells af 205))
    clear d y
    go_wp2_with (at_builtin;refine(i.1 _).app (s.extract f e) an rfl _ _ rfl rfl rfl ?_;intro bl I j h;have q:=h _ _ _ _ (i.2 _) (by decide);have ao:=fun a=>au I wr.heap.size a _ _ _ q)
    clear h i
    refine dj (nB _ _) ?_
    rw[am]
    go_wp2_with fail
    refine j.run x fun bn v _=>?_
    have b8:=aj v
    clear j v
    go_wp2_with (at_builtin;refine b8.out.app m r rfl _ _ rfl rfl rfl ?_;intro d3 b6 B ar)
    go_roundw
    case rel=>exact⟨a+1,_,J,ad,by go_num,by omega,B,A,by rw[<-g.out];simp only[be]⟩
    case measure=>simp[intOf];omega
   |@opn0 _ _ _ ad a8 _ G m J F E am x ck n a4 A=>
    have bF:(b.k==6)=false/\(b.k==5)=false:=by simp[F,E]
    have cl:(0:Int)<=(G:Int):=by omega
    have cm:(G:Int)<3:=by omega
    have y:s.extract b.f.toNat b.t.toNat=s.extract f e:=by rw[K.out.1,K.out.2];rfl
    rw[y]at g
    have r:(u++s.extract f e++m).size<=4000000:=by have:=congrArg ByteArray.size g.out;simp only[ax]at this⊢;omega
    have an:(u++s.extract f e).size<=4000000:=by simp only[ax]at r⊢;omega
    have i:=eJ (fun o=>d.al (o:=o)) (fun af=>ay wr (.cells af 205))
    clear d y
    go_wp2_with (at_builtin;refine(i.1 _).app (s.extract f e) an rfl _ _ rfl rfl rfl ?_;intro bl I j h;have q:=h _ _ _ _ (i.2 _) (by decide);have ao:=fun a=>au I wr.heap.size a _ _ _ q)
    clear h i
    refine dj (nB _ _) ?_
    rw[am]
    go_wp2_with fail
    refine j.run x fun bn v a0=>?_
    clear a0 ao j
    have b4:=v.cu
    go_wp2_with fail
    refine v.al.run a4 fun b6 B b1=>?_
    have b5:=zn (l:=Ki) (nE b4 b1 G) n
    have ar:=aj B
    clear v B b1 b4 n
    go_wp2_with (at_builtin;refine ar.out.app m r rfl _ _ rfl rfl rfl ?_;intro cw cx a5 b9)
    go_roundw
    case rel=>exact⟨a+1,_,J,a8,by go_num,by omega,a5,A,by rw[<-g.out];simp only[be]⟩
    case measure=>simp[intOf];omega
   |@opn1 _ _ _ ad a8 _ d2 m J F E am x dz n a4 A=>
    have bF:(b.k==6)=false/\(b.k==5)=false:=by simp[F,E]
    have y:s.extract b.f.toNat b.t.toNat=s.extract f e:=by rw[K.out.1,K.out.2];rfl
    rw[y]at g
    have r:(u++s.extract f e++m).size<=4000000:=by have:=congrArg ByteArray.size g.out;simp only[ax]at this⊢;omega
    have an:(u++s.extract f e).size<=4000000:=by simp only[ax]at r⊢;omega
    have i:=eJ (fun o=>d.al (o:=o)) (fun af=>ay wr (.cells af 205))
    clear d y
    go_wp2_with (at_builtin;refine(i.1 _).app (s.extract f e) an rfl _ _ rfl rfl rfl ?_;intro bl I j h;have q:=h _ _ _ _ (i.2 _) (by decide);have ao:=fun a=>au I wr.heap.size a _ _ _ q)
    clear h i
    refine dj (nB _ _) ?_
    rw[am]
    go_wp2_with fail
    refine j.run x fun bn v a0=>?_
    have ca:=(a0.block _ (aw q) (fun w=>by have:=j.cu.cur;rw[<-bh w,q]at this;simp at this)).trans q
    have d0:=fun a=>au bn wr.heap.size a _ _ _ ca
    clear a0 ao j
    go_wp2_with fail
    refine v.run a4 fun b6 B _=>?_
    have ar:=aj B
    clear v B
    go_wp2_with (at_builtin;refine ar.out.app m r rfl _ _ rfl rfl rfl ?_;intro cw cx a5 b9)
    go_roundw
    case rel=>exact⟨a+1,_,J,a8,by go_num,by omega,a5,A,by rw[<-g.out];simp only[be]⟩
    case measure=>simp[intOf];omega
  ·have cg:¬(a:Int)<(H:Int):=by omega
   have cr:=d.conv
   rw[List.drop_eq_nil_of_le (by have:=av.1;omega)]at ap
   cases ap
   rw[Iq]at w
   subst w
   have p:=aj d
   clear d
   go_wp2_with fail
   go_ret
   exact⟨rfl,p.out.cu,p.out.bel⟩
end Go.Proofs.YtkfgnpcanadjhaaGreatDoor
namespace Go.Proofs.YtkfgnpcanadjhaaGreatDoor
open Go.RowKit Go.Maps Go.WideMaps
theorem ab2{b:List Nd}(a:(bu b).1=0):∀(i:Nat) N,b[i]?=some N->gJ b i N=true:=by
 unfold bu at a
 by_cases f:iI b=true
 ·rw[ab f]at a;exact absurd a (by decide)
 rw[aa f]at a
 obtain⟨g,e⟩:=aE (gj (eG b) b.length 0)
 rw[e]at a
 cases g with
 |some i=>rw[tf2]at a;exact absurd a (by simp)
 |none=>
  have h:=oA e
  intro i N d
  have j:i<b.length:=(List.getElem?_eq_some_iff.1 d).1
  have c:=h i (aJ _) (by omega)
  unfold eG at c
  rw[aL,d,fH]at c
  simpa using c
theorem ahg{N:Nd}{a b d:Bool}(c:bj N a b false d=true):N.x.size<=4000:=by
 unfold bj at c
 simp only[dr,Bool.false_or]at c
 have:=bi c.1.2
 have e:N.x.toList.length=0:=by rw[this];rfl
 rw[gc]at e
 have:N.x.size=0:=by simpa using e
 omega
theorem ab3{s:ByteArray}(a:lK s=true):s.size<=4000:=by
 have:=(bi a).1
 omega
theorem aiG{s:ByteArray}(a:fok s=true):s.size<=4000:=by
 unfold fok at a
 rw[dr]at a
 have:=bi a.1
 omega
theorem iy{b:List Nd}{i:Nat}{N:Nd}(a:gJ b i N=true):lF b N=true/\N.ks.length<=200:=by
 unfold gJ at a
 rw[dr,dr]at a
 exact⟨a.2.2,(bi a.1).2.2.2⟩
theorem ub{b:List Nd}{N:Nd}(a:lF b N=true)(c:17<=N.k:=by omega):iu b N=true:=by
 unfold lF at a
 rwa [aa (by unfold gI;rw[decide_eq_true_eq];omega)]at a
theorem my{b:List Nd}{N:Nd}(a:lF b N=true)(c:1<=N.k/\N.k<=16:=by omega):stB b N=true:=by
 unfold lF at a
 rwa [ab (by unfold gI;rw[decide_eq_true_eq];omega)]at a
theorem ab4{d:List Nd}{N:Nd}(a:lF d N=true):(1<=N.k/\N.k<=16)\/(20<=N.k/\N.k<=37)\/(40<=N.k/\N.k<=42):=by
 by_cases b:1<=N.k/\N.k<=16
 ·exact .inl b
 ·unfold lF at a
  rw[aa (by unfold gI;rw[decide_eq_true_eq];exact b)]at a
  by_cases c:(20<=N.k/\N.k<=37)\/(40<=N.k/\N.k<=42)
  ·exact .inr c
  ·unfold iu at a
   repeat rw[aa (by omega)]at a
   cases a
theorem I6{b:List Nd}{N:Nd}(a:lF b N=true):bj N (decide (N.k=30\/N.k=31\/N.k=36)) (decide (N.k=5\/N.k=23)) (decide (N.k=24\/N.k=25\/N.k=26\/N.k=33\/N.k=42)) (decide (N.k=2\/N.k=3\/N.k=4\/N.k=9\/N.k=10\/N.k=14\/N.k=36))=true:=by
 rcases ab4 a with g|g|g
 ·have a:=my a g
  unfold stB at a
  rcases(show N.k=1\/N.k=2\/N.k=3\/N.k=4\/N.k=5\/N.k=6\/N.k=7\/N.k=8\/N.k=9\/N.k=10\/N.k=11\/N.k=12\/N.k=13\/N.k=14\/N.k=15\/N.k=16 by omega) with e|e|e|e|e|e|e|e|e|e|e|e|e|e|e|e
  all_goals (simp[e]at a;simp[e,a])
 ·have a:=ub a
  unfold iu at a
  rcases(show N.k=20\/N.k=21\/N.k=22\/N.k=23\/N.k=24\/N.k=25\/N.k=26\/N.k=27\/N.k=28\/N.k=29\/N.k=30\/N.k=31\/N.k=32\/N.k=33\/N.k=34\/N.k=35\/N.k=36\/N.k=37 by omega) with e|e|e|e|e|e|e|e|e|e|e|e|e|e|e|e|e|e
  all_goals (simp[e]at a;simp[e,a])
 ·have a:=ub a
  unfold iu at a
  rcases(show N.k=40\/N.k=41\/N.k=42 by omega) with e|e|e
  all_goals (simp[e]at a;simp[e,a])
theorem sr{f:List Nd}{i:Nat}{N:Nd}(a:gJ f i N=true):N.x.size<=4000:=by
 have c:=(iy a).1
 have b:=I6 c
 by_cases d:N.k=24\/N.k=25\/N.k=26\/N.k=33\/N.k=42
 ·have a:=ub c
  unfold iu at a
  rcases d with e|e|e|e|e<;>simp[e]at a
  ·exact aiG a.2
  ·omega
  all_goals exact ab3 a.2
 ·rw[az d]at b
  exact ahg b
theorem I7(a:List Nd):∀i,gE (a.take i)=(gE a).take i:=by
 refine xu (p:=fun a=>∀i,gE (a.take i)=(gE a).take i) ?_ ?_ a
 ·intro i;simp[gE]
 ·intro b e d i
  rcases ci i (b++[e]).length with h|h
  ·have c:i<=b.length:=by rw[aD]at h;simp at h;omega
   rw[List.take_append_of_le_length c,d,pz,List.take_append_of_le_length (by rw[ie];exact c)]
  ·rw[bH h,bH (by rw[ie];exact h)]
theorem ahh{a:List Nd}{i:Nat}{N:Nd}(c:a[i]?=some N):(gE a).getD i 0=py ((gE a).take i) i N.ks:=by
 have g:i<a.length:=(List.getElem?_eq_some_iff.1 c).1
 have d:a.take (i+1)=a.take i++[N]:=by rw[gv,c];rfl
 have b:=I7 a (i+1)
 rw[d,pz,I7,dt,ie,pd (by omega),gv]at b
 have e:(gE a)[i]?=some ((gE a).getD i 0):=by
  rw[aL,aF (by rw[ie];exact g)];rfl
 rw[e]at b
 have f:=List.append_cancel_left b
 simpa using f.symm
def qe(S:List Int):List Int->Int
 |[]=>0
 |k::l=>S.getD k.toNat 0+qe S l
theorem ab5(S:List Int)(a b:List Int):qe S (a++b)=qe S a+qe S b:=by
 induction a with
 |nil=>simp[qe]
 |cons d e c=>simp only[fl,qe,c];omega
theorem ab6(S:List Int)(l:List Int):qe S l.reverse=qe S l:=by
 induction l with
 |nil=>rfl
 |cons b l a=>rw[List.reverse_cons,ab5,a];simp only[qe];omega
theorem I8{S:List Int}:∀(l:List Int)(a b:Int),yA S l a=some b->b=a-qe S l
 |[],a,b,c=>by simp[yA]at c;simp[qe];omega
 |k::r,a,b,c=>by
  rw[yA]at c
  split at c
  ·have:=I8 r _ _ c
   simp only[qe]
   omega
  ·cases c
theorem ab7(S:List Int)(i:Nat)(l:List Int)(a:∀k∈l,0<=k/\k<(i:Int)):qe (S.take i) l=qe S l:=by
 induction l with
 |nil=>rfl
 |cons k l d=>
  have b:=a k da
  have c:(S.take i).getD k.toNat 0=S.getD k.toNat 0:=by
   rw[aL,aL,List.getElem?_take_of_lt (by omega)]
  simp only[qe,c,d fun k b=>a k (ep _ b)]
structure aiH (ns:List Nd):Prop where
 at_:∀(i:Nat) N,ns[i]?=some N->(gE ns).getD i 0=1+qe (gE ns) N.ks
 le:∀i,(gE ns).getD i 0<=3000
theorem aeF{b:List Nd}(c:(bu b).1=0):aiH b:=by
 have j:=zl c
 unfold bu at c
 by_cases l:iI b=true
 ·rw[ab l]at c;exact absurd c (by decide)
 rw[aa l]at c
 obtain⟨m,q⟩:=aE (gj (eG b) b.length 0)
 rw[q]at c
 cases m with
 |some a=>rw[tf2]at c;exact absurd c (by simp)
 |none=>
  rw[tf2]at c
  obtain⟨n,k⟩:=aE (gj (fD (gE b)) b.length 0)
  rw[k]at c
  cases n with
  |some a=>rw[tf3]at c;exact absurd c (by simp)
  |none=>
   have r:=oA k
   have s:yB (gE b):=uE b (fun f e i h=>by
    obtain⟨a,hi,g⟩:=gh e
    exact(j.kid a f (by rw[aF hi,g]) i h).1)
   refine⟨fun a f e=>?_,fun a=>?_⟩
   ·have hi:a<b.length:=(List.getElem?_eq_some_iff.1 e).1
    have d:=r a (aJ _) (by omega)
    unfold fD at d
    rw[ahh e]at d⊢
    unfold py at d⊢
    cases hw:yA ((gE b).take a) f.ks.reverse a with
    |none=>rw[hw]at d;simp at d
    |some o=>
     have g:=I8 _ _ _ hw
     rw[ab6,ab7 _ _ _ (fun i h=>j.kid a f e i h)]at g
     show(a:Int)-o+1=_
     omega
   ·rcases ci a b.length with hi|hi
    ·have p:(gE b)[a]?=some ((gE b).getD a 0):=by
      rw[aL,aF (by rw[ie];exact hi)];rfl
     have:=s a _ p
     have:=j.len
     omega
    ·rw[aL,iC (by rw[ie];exact hi)]
     decide
theorem kG(a:List Nd)(N:Nd)(j:Nat):eC a N j=(ae a (dl N j)).k:=rfl
theorem fF{c:List Nd}{N:Nd}:∀(f j:Nat),jj c N f j=true->∀q,j<=q->q<j+f->eB (ae c (dl N q)).k=true
 |0,j,_,q,b,d=>by omega
 |f+1,j,a,q,b,d=>by
  rw[jj,dr]at a
  rcases iD b with rfl|h3
  ·exact a.1
  ·exact fF f (j+1) a.2 q h3 (by omega)
theorem Fb{c:List Nd}{N:Nd}:∀(f j:Nat),JL c N f j=true->∀q,j<=q->q<j+f->gI (ae c (dl N q)).k=true
 |0,j,_,q,b,d=>by omega
 |f+1,j,a,q,b,d=>by
  rw[JL,dr]at a
  rcases iD b with rfl|h3
  ·exact a.1
  ·exact Fb f (j+1) a.2 q h3 (by omega)
theorem KB{k:Int}(a:vB k=true):eB k=true:=by
 have:=bi a
 exact bB (by omega)
theorem ab8{c:List Nd}{N:Nd}:∀(f j:Nat),Iu c N f j=true->∀q,j<=q->q<j+f->eB (ae c (dl N q)).k=true
 |0,j,_,q,b,d=>by omega
 |f+1,j,a,q,b,d=>by
  rw[Iu,dr]at a
  rcases iD b with rfl|h3
  ·exact KB a.1
  ·exact ab8 f (j+1) a.2 q h3 (by omega)
theorem I9{b:List Nd}{N:Nd}:∀(f j:Nat),Kg b N f j=true->∀q,j<=q->q<j+f->40<=(ae b (dl N q)).k/\(ae b (dl N q)).k<=42
 |0,j,_,q,c,d=>by omega
 |f+1,j,a,q,c,d=>by
  rw[Kg,dr]at a
  rcases iD c with rfl|h3
  ·exact bi a.1
  ·exact I9 f (j+1) a.2 q h3 (by omega)
structure Kid (ns:List Nd) (i:Nat) (N:Nd) (j q:Nat):Prop where
 at_:N.ks[j]?=some (q:Int)
 lt:q<i
 len:q<ns.length
 id:dl N j=(q:Int)
theorem fG{b:List Nd}{i:Nat}{N:Nd}(a:gJ b i N=true)(f:i<b.length)(j:Nat)(d:j<N.ks.length):∃q,Kid b i N j q:=by
 unfold gJ at a
 rw[dr,dr]at a
 have e:=tG N.ks i N.ks.length 0 a.2.1 j (by omega) (by omega)
 have c:N.ks[j]?=some (N.ks.getD j 0):=by rw[aL,aF d];rfl
 refine⟨(N.ks.getD j 0).toNat,?_,by omega,by omega,?_⟩
 ·rw[c];congr 1;omega
 ·show N.ks.getD j 0=_;omega
theorem lB{N:Nd}{z:Int}(c:z∈N.ks):∃j,j<N.ks.length/\dl N j=z:=by
 obtain⟨j,a,b⟩:=gh c
 exact⟨j,a,by unfold dl;rw[aL,aF a];exact b⟩
theorem jK{b:List Nd}{N:Nd}(a:lF b N=true)(c:N.k=28\/N.k=29\/N.k=31\/N.k=32\/N.k=41:=by omega):N.ks.length=2/\jj b N 2 0=true/\(N.k=31->1<=N.op/\N.op<=18):=by
 have a:=ub a
 unfold iu at a
 rcases c with e|e|e|e|e<;>simp[e]at a<;>exact⟨by omega,by simp[a],by omega⟩
theorem li{b:List Nd}{N:Nd}(a:lF b N=true)(c:N.k=30\/N.k=33\/N.k=37\/N.k=40\/N.k=42:=by omega):N.ks.length=1/\eB (ae b (dl N 0)).k=true/\(N.k=30->19<=N.op/\N.op<=22):=by
 have a:=ub a
 unfold iu at a
 rcases c with e|e|e|e|e<;>simp[e,kG]at a
 ·exact⟨by omega,fF 1 0 a.1.1.1.2 0 (by omega) (by omega),by omega⟩
 ·exact⟨by omega,fF 1 0 a.1.1.1.2 0 (by omega) (by omega),by omega⟩
 ·exact⟨by omega,bB (by omega),by omega⟩
 ·exact⟨by omega,fF 1 0 a.1.2 0 (by omega) (by omega),by omega⟩
 ·exact⟨by omega,fF 1 0 a.1.1.2 0 (by omega) (by omega),by omega⟩
theorem Da{b:List Nd}{N:Nd}(a:lF b N=true)(c:N.k=34):1<=N.ks.length/\jj b N N.ks.length 0=true:=by
 have a:=ub a
 unfold iu at a
 simp[c,kG]at a
 exact⟨by omega,a.1.1.2⟩
theorem zo{b:List Nd}{N:Nd}(a:lF b N=true)(c:N.k=35):Kg b N N.ks.length 0=true:=by
 have a:=ub a
 unfold iu at a
 simp[c]at a
 exact a.1
theorem qz{N:Nd}{a b:Int}(c:ew N a b=true)(d:b<=200):a<=(N.nm.length:Int)/\N.nm.length<=200:=by
 unfold ew at c
 rw[dr]at c
 have:=bi c.1
 omega
theorem ab9{b:List Nd}{N:Nd}(a:lF b N=true)(c:N.k=36):N.ks.length=1/\(ae b (dl N 0)).k=1/\N.nm.length<=200/\(N.op=0\/N.op=1):=by
 have a:=ub a
 unfold iu at a
 simp[c,kG]at a
 exact⟨by omega,a.1.1.1.2,(qz a.1.2 (by omega)).2,a.2⟩
theorem ud{b:List Nd}{N:Nd}(a:lF b N=true)(c:N.k=1):JL b N N.ks.length 0=true:=by
 have a:=my a
 unfold stB at a
 simp[c]at a
 exact a.1
def sN(a:List Nd)(i:Int):Nat:=((gE a).getD i.toNat 0).toNat
def sK(a:List Nd):List Int->Nat
 |[]=>0
 |k::l=>sN a k+sK a l
theorem ahi(c:List Nd)(a b:List Int):sK c (a++b)=sK c a+sK c b:=by
 induction a with
 |nil=>simp[sK]
 |cons e f d=>simp only[fl,sK,d];omega
theorem zp(a:List Nd)(l:List Int)(n:Nat):sK a l=sK a (l.take n)+sK a (l.drop n):=by rw[<-ahi,wK]
structure Lz (ns:List Nd):Prop where
 nb:∀i:Nat,i<ns.length->gJ ns i (ae ns i)=true
 at_:∀i:Nat,i<ns.length->sN ns i=1+sK ns (ae ns i).ks
 le:∀i:Int,sN ns i<=3000
theorem aca{b:List Nd}(f:(bu b).1=0):Lz b:=by
 have i:=aeF f
 have q:=zl f
 have o:=ab2 f
 have m:yB (gE b):=uE b (fun j k g l=>by
  obtain⟨a,c,d⟩:=gh k
  exact(q.kid a j (by rw[aF c,d]) g l).1)
 have p:∀a:Nat,0<=(gE b).getD a 0:=by
  intro a
  rw[aL]
  cases d:(gE b)[a]? with
  |none=>decide
  |some s=>exact(m a s d).1
 have r:∀e:List Int,qe (gE b) e=(sK b e:Int):=by
  intro e
  induction e with
  |nil=>rfl
  |cons g t n=>
   have:=p g.toNat
   simp only[qe,sK,n,sN]
   omega
 have h:∀a:Nat,a<b.length->b[a]?=some (ae b a):=fun a c=>by
  unfold ae
  rw[mH,List.getD,aF c];rfl
 refine⟨fun a c=>o a _ (h a c),fun a c=>?_,fun a=>?_⟩
 ·have d:=i.at_ a _ (h a c)
  rw[r]at d
  show((gE b).getD (a:Int).toNat 0).toNat=_
  rw[mH,d]
  omega
 ·have:=i.le a.toNat
  unfold sN
  omega
theorem Bb(l:List ByteArray):(bK l).size<=(l.map fun x=>x.size+2).sum:=by
 have d:∀a,(bK (l.take a)).size<=((l.take a).map fun x=>x.size+2).sum:=by
  intro a
  induction a with
  |zero=>show(ByteArray.empty).size<=_;exact aJ _
  |succ a b=>
   rcases ci a l.length with h|h
   ·rw[lE l a _ (aF h),ax,List.take_succ_eq_append_getElem h,dm,List.sum_append]
    have c:dx.size=2:=rfl
    have:(if a=0 then bK (l.take a) else bK (l.take a)++dx).size<=(bK (l.take a)).size+2:=by
     split
     ·omega
     ·rw[ax,c];exact ah _
    simp only[jh,List.map_nil,List.sum_cons,List.sum_nil]
    omega
   ·rw[bH (by omega)]
    rw[bH (by omega)]at b
    exact b
 have:=d l.length
 rwa [bH (ah _)]at this
theorem G3(e:List Nd)(b:Int->Nat)(d:Nat)(a:List Int)(c:∀z∈a,b z+10000<=2000000*sN e z)(k:d<=10000):(a.map fun z=>b z+d).sum<=2000000*sK e a:=by
 induction a with
 |nil=>exact aJ _
 |cons z l g=>
  have i:=c z da
  have j:=g fun h f=>c h (ep _ f)
  simp only[jh,List.sum_cons,sK,Nat.mul_add]
  omega
theorem pG(b:List Nd)(E:Int->ByteArray)(a:List Int)(c:∀z∈a,(E z).size+10000<=2000000*sN b z):(bK (a.map E)).size<=2000000*sK b a:=by
 refine ch (Bb _) ?_
 rw[List.map_map]
 exact G3 b (fun z=>(E z).size) 2 a c (by omega)
theorem ue(l:List ByteArray)(a:∀s∈l,s.size<=4000):(bK l).size<=4002*l.length:=by
 refine ch (Bb _) ?_
 induction l with
 |nil=>exact aJ _
 |cons d h c=>
  have f:=a d da
  have g:=c fun e b=>a e (ep _ b)
  simp only[jh,List.sum_cons,co]
  omega
theorem Bc(l:List ByteArray):(fC l).size=(l.map ByteArray.size).sum:=by
 have c:∀(a:ByteArray),(l.foldl (· ++·) a).size=a.size+(l.map ByteArray.size).sum:=by
  induction l with
  |nil=>intro a;simp
  |cons e d b=>intro a;rw[mK,b,ax,jh,List.sum_cons];omega
 have:=c ByteArray.empty
 rw[show ByteArray.empty.size=0 from rfl]at this
 unfold fC
 omega
theorem ahj(b:List Nd)(S:Int->Nat->ByteArray)(a:List Int)(tab:Nat)(ht:tab<=9000)(e:∀z∈a,(S z (tab+1)).size+10000<=2000000*sN b z):(wA S a tab).size+10000<=2000000*(1+sK b a)-900000:=by
 unfold wA
 by_cases c:a=[]
 ·rw[ab c];show 2+10000<=_;omega
 ·rw[aa c,ax,ax,ax,Bc,jk,List.map_map]
  have d:(a.map (ByteArray.size ∘ fun f=>fK (tab+1)++S f (tab+1)))=a.map fun z=>(S z (tab+1)).size+(tab+2):=by
   apply List.map_congr_left
   intro z g
   simp only[Function.comp]
   rw[ax,jk];omega
  rw[d]
  have:=G3 b (fun z=>(S z (tab+1)).size) (tab+2) a e (by omega)
  show 1+_+(tab+1)+1+10000<=_
  omega
theorem uf{a:List Nd}{N:Nd}(b:jj a N 1 0=true):eB (ae a (dl N 0)).k=true:=fF 1 0 b 0 (by omega) (by omega)
theorem G4{b:List Nd}{N:Nd}(a:lF b N=true)(c:N.k=2):jj b N N.ks.length 0=true/\N.nm.length<=200:=by
 have a:=my a
 unfold stB at a
 simp only[c]at a
 simp at a
 exact⟨a.2,(qz a.1.2 (by omega)).2⟩
theorem zq{c:List Nd}{N:Nd}(a:lF c N=true)(d:N.k=3):N.ks.length=1/\eB (ae c (dl N 0)).k=true/\N.nm.length=1:=by
 have a:=my a
 unfold stB at a
 simp[d]at a
 have:=qz a.1.1.2 (by omega)
 have b:=a.1.1.2
 unfold ew at b
 rw[dr]at b
 have:=bi b.1
 exact⟨by omega,uf a.2,by omega⟩
theorem G5{c:List Nd}{N:Nd}(a:lF c N=true)(d:N.k=4):N.ks.length=1/\(ae c (dl N 0)).k=36/\N.nm.length=1:=by
 have a:=my a
 unfold stB at a
 simp[d,kG]at a
 have b:=a.1.1.2
 unfold ew at b
 rw[dr]at b
 have:=bi b.1
 exact⟨by omega,a.2,by omega⟩
theorem acb{b:List Nd}{N:Nd}(a:lF b N=true)(c:N.k=5):1<=N.n/\N.n<(N.ks.length:Int)/\Iu b N N.n.toNat 0=true/\jj b N (N.ks.length-N.n.toNat) N.n.toNat=true:=by
 have a:=my a
 unfold stB at a
 simp[c]at a
 exact⟨a.2.1.1,a.2.1.2,a.2.2.1,a.2.2.2⟩
theorem Be{b:List Nd}{N:Nd}(a:lF b N=true)(c:N.k=6\/N.k=16):N.ks.length=1/\(ae b (dl N 0)).k=34:=by
 have a:=my a
 unfold stB at a
 rcases c with e|e<;>simp[e,kG]at a<;>exact⟨by omega,a.2⟩
theorem acd{b:List Nd}{N:Nd}(a:lF b N=true)(c:N.k=7):2<=N.ks.length/\N.ks.length<=3/\eB (ae b (dl N 0)).k=true/\(ae b (dl N 1)).k=1/\(N.ks.length=2\/(ae b (dl N 2)).k=1\/(ae b (dl N 2)).k=7):=by
 have a:=my a
 unfold stB at a
 simp[c,kG]at a
 exact⟨a.2.1.1,a.2.1.2,uf a.2.2.1,a.2.2.2.1,by omega⟩
theorem zr{b:List Nd}{N:Nd}(a:lF b N=true)(c:N.k=8):N.ks.length=2/\eB (ae b (dl N 0)).k=true/\(ae b (dl N 1)).k=1:=by
 have a:=my a
 unfold stB at a
 simp[c,kG]at a
 exact⟨by omega,uf a.1.2,a.2⟩
theorem G6{c:List Nd}{N:Nd}(a:lF c N=true)(d:N.k=9):(N.ks.length=3\/N.ks.length=4)/\jj c N (N.ks.length-1) 0=true/\(ae c (dl N (N.ks.length-1))).k=1/\N.nm.length=1:=by
 have a:=my a
 unfold stB at a
 simp[d,kG]at a
 have b:=a.2.1
 unfold ew at b
 rw[dr]at b
 have:=bi b.1
 exact⟨by omega,a.2.2.2.1,a.2.2.2.2,by omega⟩
theorem Db{b:List Nd}{N:Nd}(a:lF b N=true)(c:N.k=10):N.ks.length=2/\eB (ae b (dl N 0)).k=true/\(ae b (dl N 1)).k=1/\N.nm.length<=200:=by
 have a:=my a
 unfold stB at a
 simp[c,kG]at a
 exact⟨by omega,uf a.1.2,a.2,(qz a.1.1.1.2 (by omega)).2⟩
theorem ace{b:List Nd}{N:Nd}(a:lF b N=true)(c:N.k=13):jj b N N.ks.length 0=true:=by
 have a:=my a
 unfold stB at a
 simp[c]at a
 exact a.2
theorem G7{b:List Nd}{N:Nd}(a:lF b N=true)(c:N.k=14):N.ks.length=2/\(ae b (dl N 0)).k=1/\(ae b (dl N 1)).k=1/\N.nm.length<=200:=by
 have a:=my a
 unfold stB at a
 simp[c,kG]at a
 exact⟨by omega,a.1.2,a.2,(qz a.1.1.1.2 (by omega)).2⟩
theorem zt{b:List Nd}{N:Nd}(a:lF b N=true)(c:N.k=15):N.ks.length=1/\eB (ae b (dl N 0)).k=true:=by
 have a:=my a
 unfold stB at a
 simp[c]at a
 exact⟨by omega,uf a.2⟩
theorem Ja{l:List ByteArray}:∀(f j:Nat),qr l f j=true->∀q,j<=q->q<j+f->lK (l.getD q ByteArray.empty)=true
 |0,j,_,q,b,c=>by omega
 |f+1,j,a,q,b,c=>by
  rw[qr,dr]at a
  rcases iD b with rfl|h3
  ·exact a.1
  ·exact Ja f (j+1) a.2 q h3 (by omega)
theorem jL{N:Nd}{a b:Int}(c:ew N a b=true):(∀s∈N.nm,lK s=true)/\a<=(N.nm.length:Int)/\(N.nm.length:Int)<=b:=by
 unfold ew at c
 rw[dr]at c
 refine⟨fun s f=>?_,bi c.1⟩
 obtain⟨g,e,d⟩:=gh f
 have:=Ja _ 0 c.2 g (by omega) (by omega)
 rw[aL,aF e]at this
 rw[<-d];exact this
theorem aiI{g:List Nd}{N:Nd}(a:lF g N=true):∀s∈N.nm,lK s=true:=by
 have b:=I6 a
 by_cases d:N.k=2\/N.k=3\/N.k=4\/N.k=9\/N.k=10\/N.k=14\/N.k=36
 ·by_cases f:N.k=36
  ·have a:=ub a
   unfold iu at a
   simp[f]at a
   exact(jL a.1.2).1
  ·have a:=my a
   unfold stB at a
   rcases d with e|e|e|e|e|e|e<;>simp[e]at a
   ·exact(jL a.1.2).1
   ·exact(jL a.1.1.2).1
   ·exact(jL a.1.1.2).1
   ·exact(jL a.2.1).1
   ·exact(jL a.1.1.1.2).1
   ·exact(jL a.1.1.1.2).1
 ·rw[az d]at b
  unfold bj at b
  simp at b
  intro s c
  rw[b.2]at c
  cases c
theorem oC{c:List Nd}{N:Nd}(a:lF c N=true):∀s∈N.nm,s.size<=4000:=fun s b=>ab3 (aiI a s b)
theorem zu{N:Nd}{j:Nat}(a:j<N.ks.length):N.ks[j]=dl N j:=by unfold dl;rw[aL,aF a];rfl
theorem oa(a:List Nd){N:Nd}(b:N.ks.length=1):sK a N.ks=sN a (dl N 0):=by
 unfold dl
 match e:N.ks,b with
 |[c],_=>simp[sK]
theorem uJ(a:List Nd){N:Nd}(b:N.ks.length=2):sK a N.ks=sN a (dl N 0)+sN a (dl N 1):=by
 unfold dl
 match e:N.ks,b with
 |[c,d],_=>simp[sK]
theorem acf(a:List Nd){N:Nd}(b:N.ks.length=3):sK a N.ks=sN a (dl N 0)+sN a (dl N 1)+sN a (dl N 2):=by
 unfold dl
 match e:N.ks,b with
 |[c,d,f],_=>simp[sK];omega
theorem aeG(a:List Nd){N:Nd}(b:0<N.ks.length):sK a N.ks=sK a (N.ks.take (N.ks.length-1))+sN a (dl N (N.ks.length-1)):=by
 rw[zp a N.ks (N.ks.length-1)]
 congr 1
 rw[ju (by omega),zu,oJ (by omega)]
 simp[sK]
theorem aeH(b:List Nd){N:Nd}(c:0<N.ks.length):sK b N.ks=sN b (dl N 0)+sK b (N.ks.drop 1):=by
 rw[zp b N.ks 1]
 congr 1
 unfold dl
 match e:N.ks,c with
 |a::d,_=>simp[sK]
theorem uK(n:Int)(b:n<=9223372036854775807):(wu n).size<=30:=by
 unfold wu
 split
 ·rw[yp];omega
 ·rename_i a
  have:=Lib.itoa_length_le n (by omega) b
  show(Lib.decDigits n.toNat).toArray.size<=30
  rw[gG]
  unfold Lib.itoa at this
  simp only[a,if_false]at this
  omega
theorem acg(N:Nd)(b:N.x.size<=4000)(a:N.n<=9223372036854775807):(plB N).size<=20000:=by
 unfold plB
 repeat' split
 ·show 3<=_;omega
 ·show 4<=_;omega
 ·show 5<=_;omega
 ·have:=uK N.n a;omega
 ·omega
 ·have:=uy N.x;unfold aaw at this;omega
 ·show 3<=_;omega
 ·show 0<=_;omega
theorem ve(b:List Nd)(E:Int->ByteArray)(k a:Int):(mo b E k a).size<=(E k).size+2:=by
 unfold mo
 split
 ·rw[rq];omega
 ·omega
theorem Dc(a:List Nd)(E:Int->ByteArray)(k:Int):(Ly a E k).size<=(E k).size+2:=by
 unfold Ly
 split
 ·omega
 ·rw[rq];omega
theorem aeI(a:List Nd)(N:Nd):(unS a N).size<=4:=by
 unfold unS
 repeat' split
 ·show 4<=4;omega
 ·show 1<=4;omega
 ·show 1<=4;omega
 ·show 2<=4;omega
 ·show 1<=4;omega
theorem zv{op:Int}(a:1<=op/\op<=18):(wh (60+op)).size<=4:=by
 obtain⟨b,c⟩:=a
 rcases(show op=1\/op=2\/op=3\/op=4\/op=5\/op=6\/op=7\/op=8\/op=9\/op=10\/op=11\/op=12\/op=13\/op=14\/op=15\/op=16\/op=17\/op=18 by omega) with rfl|rfl|rfl|rfl|rfl|rfl|rfl|rfl|rfl|rfl|rfl|rfl|rfl|rfl|rfl|rfl|rfl|rfl
 all_goals decide+kernel
structure SzE (ns:List Nd) (E:Int->ByteArray) (S:Int->Nat->ByteArray) (i:Nat) (tab:Nat):Prop where
 e:∀z:Nat,z<i->(E z).size+10000<=2000000*sN ns z
 s:∀z:Nat,z<i->(S z (tab+1)).size+10000<=2000000*sN ns z
theorem SzE.kid{a:List Nd}{E:Int->ByteArray}{S:Int->Nat->ByteArray}{i tab:Nat}(b:SzE a E S i tab)(d:Lz a){q:Nat}(l:q<=i)(c:q<a.length):∀z∈(ae a q).ks,(E z).size+10000<=2000000*sN a z/\(S z (tab+1)).size+10000<=2000000*sN a z:=by
 intro z j
 obtain⟨k,h,rfl⟩:=lB j
 obtain⟨g,f⟩:=fG (d.nb q c) c k h
 rw[f.id]
 have:=f.lt
 exact⟨b.e g (by omega),b.s g (by omega)⟩
theorem SzE.blk{a:List Nd}{E:Int->ByteArray}{S:Int->Nat->ByteArray}{i tab:Nat}(c:SzE a E S i tab)(d:Lz a)(ht:tab<=9000){q:Nat}(e:q<=i)(b:q<a.length):(wA S (ae a q).ks tab).size+910000<=2000000*sN a q:=by
 have:=ahj a S (ae a q).ks tab ht (fun g f=>(c.kid d e b g f).2)
 rw[d.at_ q b]
 omega
theorem ach{b:List Nd}{N:Nd}(a:lF b N=true)(d:N.nm.length<=200):(Kj N).size<=810000:=by
 unfold Kj
 have:=ue N.nm (oC a)
 simp only[ax]
 have c:(if N.op=1 then(if N.nm=[] then(⟨#[46,46,46]⟩:ByteArray) else dx++⟨#[46,46,46]⟩) else ByteArray.empty).size<=5:=by
  repeat' split
  ·show 3<=5;omega
  ·show 5<=5;omega
  ·show 0<=5;omega
 show 1+_+_+2<=_
 omega
theorem SzE.bod{a:List Nd}{E:Int->ByteArray}{S:Int->Nat->ByteArray}{i tab:Nat}(e:SzE a E S i tab)(d:Lz a)(ht:tab<=9000){q:Nat}(j:q<=i)(b:q<a.length)(h:(ae a q).k=36):(EF a S (ae a q) tab).size+20000<=2000000*sN a q:=by
 obtain⟨f,m,g,n⟩:=ab9 (iy (d.nb q b)).1 h
 obtain⟨o,c⟩:=fG (d.nb q b) b 0 (by omega)
 have l:=e.blk d ht (ch (jv c.lt) j) c.len
 unfold EF
 rw[ax,c.id,d.at_ q b,oa a f,c.id]
 have:=ach (iy (d.nb q b)).1 g
 omega
theorem aci{a:List Nd}{E:Int->ByteArray}{S:Int->Nat->ByteArray}{i tab:Nat}(g:SzE a E S i tab)(d:Lz a){q:Nat}(t:q<=i)(c:q<a.length)(s:40<=(ae a q).k/\(ae a q).k<=42):(wy a E (ae a q)).size+10000<=2000000*sN a q:=by
 have n:=(iy (d.nb q c)).1
 have u:=sr (d.nb q c)
 have j:=fun r p=>fG (d.nb q c) c r p
 rw[d.at_ q c]
 unfold wy
 by_cases l:(ae a q).k=41
 ·rw[ab l]
  obtain⟨h,_,_⟩:=jK n
  obtain⟨f,b⟩:=j 0 (by omega)
  obtain⟨o,m⟩:=j 1 (by omega)
  rw[uJ a h,b.id,m.id]
  have:=g.e f (by have:=b.lt;omega)
  have:=g.e o (by have:=m.lt;omega)
  simp only[ax]
  show 1+_+4+_+_<=_
  omega
 ·rw[aa l]
  obtain⟨h,_,_⟩:=li n (show _ by omega)
  obtain⟨f,b⟩:=j 0 (by omega)
  rw[oa a h,b.id]
  have:=g.e f (by have:=b.lt;omega)
  split
  ·simp only[ax]
   show 1+_+3+_+_<=_
   omega
  ·omega
theorem acj{a:List Nd}{E:Int->ByteArray}{S:Int->Nat->ByteArray}{i tab:Nat}(h:SzE a E S i tab)(d:Lz a)(ht:tab<=9000)(f:i<a.length)(K:(ae a i).n<=9223372036854775807):(prE a E S (ae a i) tab).size+10000<=2000000*sN a i:=by
 have k:=(iy (d.nb i f)).1
 have L:=sr (d.nb i f)
 have j:=fun o t=>fG (d.nb i f) f o t
 have w:∀(y:ByteArray)(x:Int),y.size<=100->((ae a i).k=28\/(ae a i).k=29\/(ae a i).k=31\/(ae a i).k=32\/(ae a i).k=41)->(C0 a E (ae a i) y x).size+10000<=2000000*sN a i:=by
  intro y x af J
  obtain⟨g,_,_⟩:=jK k J
  obtain⟨c,b⟩:=j 0 (by omega)
  obtain⟨m,l⟩:=j 1 (by omega)
  rw[d.at_ i f,uJ a g,b.id,l.id]
  unfold C0
  rw[b.id,l.id]
  have:=h.e c b.lt
  have:=h.e m l.lt
  have:=ve a E c (vK (ae a i) x)
  have:=ve a E m (qc (ae a i).k (ae a i).op)
  simp only[ax]
  omega
 unfold prE
 by_cases z:(ae a i).k=28
 ·rw[ab z];exact w _ _ (by show 5<=100;omega) (by omega)
 rw[aa z]
 by_cases B:(ae a i).k=29
 ·rw[ab B];exact w _ _ (by show 4<=100;omega) (by omega)
 rw[aa B]
 by_cases p:(ae a i).k=31
 ·rw[ab p]
  have:=zv ((jK k).2.2 p)
  exact w _ _ (by simp only[ax];show 1+_+1<=_;omega) (by omega)
 rw[aa p]
 by_cases C:(ae a i).k=30
 ·rw[ab C]
  obtain⟨g,_,_⟩:=li k
  obtain⟨c,b⟩:=j 0 (by omega)
  rw[d.at_ i f,oa a g,b.id]
  unfold unB
  rw[b.id]
  have:=h.e c b.lt
  have:=ve a E c 11
  have:=aeI a (ae a i)
  simp only[ax]
  omega
 rw[aa C]
 by_cases F:(ae a i).k=32
 ·rw[ab F]
  obtain⟨g,_,_⟩:=jK k
  obtain⟨c,b⟩:=j 0 (by omega)
  obtain⟨m,l⟩:=j 1 (by omega)
  rw[d.at_ i f,uJ a g,b.id,l.id]
  have:=h.e c b.lt
  have:=h.e m l.lt
  have:=Dc a E c
  simp only[ax]
  show _+1+_+1+_<=_
  omega
 rw[aa F]
 by_cases G:(ae a i).k=33
 ·rw[ab G]
  obtain⟨g,_,_⟩:=li k
  obtain⟨c,b⟩:=j 0 (by omega)
  rw[d.at_ i f,oa a g,b.id]
  have:=h.e c b.lt
  have:=Dc a E c
  simp only[ax]
  show _+(1+_)+_<=_
  omega
 rw[aa G]
 by_cases q:(ae a i).k=34
 ·rw[ab q]
  obtain⟨g,_⟩:=Da k q
  obtain⟨c,b⟩:=j 0 (by omega)
  rw[d.at_ i f,aeH a (by omega),b.id]
  have:=h.e c b.lt
  have:=Dc a E c
  have:=pG a E ((ae a i).ks.drop 1) (fun I v=>(h.kid d (ah _) f I (List.mem_of_mem_drop v)).1)
  simp only[ax]
  show _+1+_+1+_<=_
  omega
 rw[aa q]
 by_cases r:(ae a i).k=35
 ·rw[ab r]
  unfold abr
  have g:=zo k r
  have:=pG a (fun ad=>wy a E (ae a ad)) (ae a i).ks (fun I v=>by
   obtain⟨o,t,rfl⟩:=lB v
   obtain⟨ak,u⟩:=j o t
   have H:=I9 _ 0 g o (by omega) (by omega)
   rw[u.id]at H⊢
   exact aci h d (jv u.lt) u.len H)
  rw[d.at_ i f]
  simp only[ax]
  show 1+_+1+_<=_
  omega
 rw[aa r]
 by_cases s:(ae a i).k=36
 ·rw[ab s]
  have:=h.bod d ht (ah _) f s
  simp only[ax]
  show 2+_+_<=_
  omega
 rw[aa s]
 by_cases A:(ae a i).k=37
 ·rw[ab A]
  obtain⟨g,_,_⟩:=li k
  obtain⟨c,b⟩:=j 0 (by omega)
  rw[d.at_ i f,oa a g,b.id,rq]
  have:=h.e c b.lt
  omega
 rw[aa A]
 have:=acg (ae a i) L K
 rw[d.at_ i f]
 omega
def nmV:Array Value:=#[.string ⟨#[97]⟩,.string ⟨#[98]⟩,.string ⟨#[120]⟩,.string ⟨#[121,49]⟩,.string ⟨#[95]⟩,.string ⟨#[73,102]⟩,.string ⟨#[101,108,105]⟩,.string ⟨#[101,108,115]⟩,.string ⟨#[110,105,108,120]⟩,.string ⟨#[102]⟩,.string ⟨#[105,102,102]⟩,.string ⟨#[108,111,110,103,95,110,97,109,101]⟩]
def flV:Array Value:=#[.string ⟨#[49,46,53]⟩,.string ⟨#[48,46,48]⟩,.string ⟨#[49,101,57]⟩,.string ⟨#[48,101,48]⟩,.string ⟨#[50,46,50,53,101,45,51]⟩,.string ⟨#[57,50,50,51,51,55,50,48,51,54,56,53,52,55,55,53,56,48,56]⟩,.string ⟨#[49,48,46,48,101,43,48,55]⟩,.string ⟨#[49,50,51,52,53,54,55,56,57,48,46,48,57,56,55,54,53,52,51,50,49]⟩,.string ⟨#[57,57,57,57,57,57,57,57,57,57,57,57,57,57,57,57,57,57,57,57,57,57,57,57,57,57,57,57,57,57,57,57,57,57,57,57,57,57,46,53]⟩]
def pcV:Array Value:=#[.string ⟨#[48,120]⟩,.string ⟨#[49,101]⟩,.string ⟨#[49,101,43]⟩,.string ⟨#[48,120,49,103]⟩,.string ⟨#[48,49]⟩,.string ⟨#[49,46]⟩,.string ⟨#[49,46,46,50]⟩,.string ⟨#[46,46]⟩,.string ⟨#[46,46,46,46]⟩,.string ⟨#[34,97]⟩,.string ⟨#[34,92,113,34]⟩,.string ⟨#[34,92,120,52,34]⟩,.string ⟨#[45,45,122]⟩,.string ⟨#[45,32,45]⟩,.string ⟨#[64]⟩,.string ⟨#[33]⟩,.string ⟨#[48,120,102,102,102,102,102,102,102,102,102,102,102,102,102,102,102,102]⟩,.string ⟨#[48,120,49,48,48,48,48,48,48,48,48,48,48,48,48,48,48,48,48]⟩,.string ⟨#[126,61]⟩,.string ⟨#[61,61]⟩]
theorem aiJ:∀k:Fin 12,nmV[k.val]?=some (.string (cC nmV k.val))/\(cC nmV k.val).size<=41:=by
 intro ⟨k,a⟩
 iterate 12 (rcases k with _|k;exact⟨rfl,Nat.le_of_ble_eq_true rfl⟩)
 omega
theorem aiK:∀k:Fin 9,flV[k.val]?=some (.string (cC flV k.val))/\(cC flV k.val).size<=41:=by
 intro ⟨k,a⟩
 iterate 9 (rcases k with _|k;exact⟨rfl,Nat.le_of_ble_eq_true rfl⟩)
 omega
theorem afI:∀k:Fin 20,pcV[k.val]?=some (.string (cC pcV k.val))/\(cC pcV k.val).size<=41:=by
 intro ⟨k,a⟩
 iterate 20 (rcases k with _|k;exact⟨rfl,Nat.le_of_ble_eq_true rfl⟩)
 omega
theorem ajG:∀k:Fin 22,(cC ej k.val).size<=41:=by decide
theorem ajH:∀k:Fin 30,(cC jG k.val).size<=41:=by decide
inductive Nac (C:Cd):ByteArray->Cr->ByteArray->Cr->Prop
 |stop {t:ByteArray}{c c1:Cr}{u:Int}:Rc C 13 [.int .i64 3] c (.int .i64 u) c1->0<=u/\u<3->¬(t.size:Int)<39+u->Nac C t c t c1
 |more {t t':ByteArray}{c c1 c2:Cr}{u:Int}:Rc C 13 [.int .i64 3] c (.int .i64 u) c1->0<=u/\u<3->(t.size:Int)<39+u->Nac C (t++⟨#[95]⟩) c1 t' c2->Nac C t c t' c2
theorem nac(C:Cd):∀(f:Nat)(t:ByteArray)(c:Cr),t.size<=41->41-t.size<=f->0<=c.p->c.p<=900000000+(t.size:Int)->∃(e:ByteArray) (c':Cr),e.size<=41/\(c.p<=c'.p/\c'.p<=c.p+42-t.size/\c'.r=c.r)/\Nac C t c e c':=by
 intro f
 induction f with
 |zero=>
  intro t c g n h o
  obtain⟨j,b,d,q,a⟩:=dc C c 3 (by decide) (by decide) h (by omega)
  exact⟨t,b,g,by omega,.stop a d (by omega)⟩
 |succ f s=>
  intro t c g n h o
  obtain⟨j,b,d,q,a⟩:=dc C c 3 (by decide) (by decide) h (by omega)
  by_cases i:(t.size:Int)<39+j
  ·have u:(t++(⟨#[95]⟩:ByteArray)).size=t.size+1:=ax
   obtain⟨e,l,m,v,k⟩:=s (t++⟨#[95]⟩) b (by omega) (by omega) (by omega) (by omega)
   exact⟨e,l,m,by omega,.more a d i k⟩
  ·exact⟨t,b,g,by omega,.stop a d i⟩
section
variable {C : Cd} {E : Bs} {w w' W : World} {c c1 c2 c3 : Cr} {z k y n : Int}
theorem ack(C:Cd)(c:Cr)(K:0<=c.p)(an:c.p<=800000000):∃(t:ByteArray) (c':Cr),t.size<=41/\(c.p<=c'.p/\c'.p<=c.p+200/\c'.r=c.r)/\Rc C 40 [] c (.string t) c':=by
 obtain⟨G,n,ap,af,w⟩:=dc C c 60 (by decide) (by decide) K (by omega)
 by_cases B:G=0
 ·subst B
  obtain⟨t,j,A,z,i⟩:=nac C 41 ⟨#[110]⟩ n (by decide) (by decide) (by omega) (by omega)
  refine⟨t,j,A,by have:(⟨#[110]⟩:ByteArray).size=1:=rfl;omega,fun v E g=>?_⟩
  have a:=g.cw
  clear g A z
  go_in
  go_wp2_with fail
  refine a.run w fun w1 f _=>?_
  clear a
  go_wp2_with fail
  go_loopw [3] (fun u wr=>∃(d:ByteArray) (o:Cr),u= .string d/\d.size<=42/\Cw C v E wr o/\Nac C d o t j) (fun u _=>50-aia u)
  case atStart=>exact⟨_,n,rfl,by decide,f,i⟩
  case round=>
   clear f i
   obtain⟨d,o,rfl,ao,a,i⟩:=hrel
   cases i with
   |@stop _ _ x h m k J=>
    have L:IntKind.i64.wrap (39+h)=39+h:=by rw[bm];omega
    go_wp2_with fail
    refine a.run m fun F b _=>?_
    have e:=aj b
    clear a b
    go_wp2_with fail
    go_ret
    exact⟨rfl,e.out.cu,e.out.gr⟩
   |@more _ _ _ x _ h m k J H=>
    have L:IntKind.i64.wrap (39+h)=39+h:=by rw[bm];omega
    go_wp2_with fail
    refine a.run m fun F b _=>?_
    have e:=aj b
    clear a b
    go_wp2_with fail
    go_roundw
    case rel=>exact⟨_,x,rfl,by rw[ax];show d.size+1<=42;omega,e.out,H⟩
    case measure=>show 50-(d++⟨#[95]⟩).size<50-d.size;rw[ax];show 50-(d.size+1)<_;omega
 ·have ad:(G==0)=false:=by simpa using B
  obtain⟨l,j,s,z,I⟩:=dc C n 12 (by decide) (by decide) (by omega) (by omega)
  obtain⟨l,rfl⟩:=dv s.1
  have q:=aiJ ⟨l,by omega⟩
  refine⟨cC nmV l,j,q.2,by omega,fun v E g=>?_⟩
  have a:=g.cw
  have am:=s.2
  have ak:=s.1
  clear g
  go_in
  go_wp2_with fail
  refine a.run w fun w1 f _=>?_
  have k:=f.cu
  clear a
  go_wp2_with fail
  refine f.al.run I fun F b y=>?_
  have r:=(nE k y l).trans q.1
  have e:=aj b
  clear f b y k q
  go_wp2_with fail
  go_ret
  exact⟨rfl,e.out.cu,e.out.gr⟩
theorem aiL(C:Cd)(c:Cr)(m:0<=c.p)(s:c.p<=800000000):∃(t:ByteArray) (c':Cr),t.size<=41/\(c'.p=c.p+1/\c'.r=c.r)/\Rc C 114 [] c (.string t) c':=by
 obtain⟨a,k,e,l,j⟩:=dc C c 9 (by decide) (by decide) m (by omega)
 obtain⟨a,rfl⟩:=dv e.1
 have d:=aiK ⟨a,by omega⟩
 refine⟨cC flV a,k,d.2,l,fun n u b=>?_⟩
 have g:=b.cw
 have q:=e.2
 have o:=e.1
 go_in
 go_wp2_with fail
 refine g.al.run j fun w1 h i=>?_
 have r:=(nE b i a).trans d.1
 have f:=aj h
 clear g h i b d
 go_wp2_with fail
 go_ret
 exact⟨rfl,f.out.cu,f.out.gr⟩
inductive Pcw (C:Cd) (c1:Cr):Int->ByteArray->Cr->Prop
 |name {t:ByteArray}{c2:Cr}:Rc C 40 [] c1 (.string t) c2->Pcw C c1 0 t c2
 |int {n:Int}{c2:Cr}: -9223372036854775808<=n->n<=9223372036854775807->Rc C 113 [] c1 (.int .i64 n) c2->Pcw C c1 1 (wu n) c2
 |flt {t:ByteArray}{c2:Cr}:Rc C 114 [] c1 (.string t) c2->Pcw C c1 2 t c2
 |str {t:ByteArray}{c2:Cr}:t.size<=4100->Rc C 116 [] c1 (.string t) c2->Pcw C c1 3 (eI (iK t)) c2
 |word {z:Int}{j:Nat}{c2:Cr}:z=4\/z=5->j<22->Rc C 13 [.int .i64 22] c1 (.int .i64 j) c2->Pcw C c1 z (cC ej j) c2
 |sign {z:Int}{j:Nat}{c2:Cr}:z=6\/z=7\/z=8->j<30->Rc C 13 [.int .i64 30] c1 (.int .i64 j) c2->Pcw C c1 z (cC jG j) c2
 |line:Pcw C c1 9 ⟨#[10]⟩ c1
 |list {j:Nat}{c2:Cr}:j<20->Rc C 13 [.int .i64 20] c1 (.int .i64 j) c2->Pcw C c1 10 (cC pcV j) c2
 |byte {t:ByteArray}{c2:Cr}:Rc C 103 [.int .i64 1] c1 (.string t) c2->Pcw C c1 11 t c2
theorem lC{t:ByteArray}(k:Rc C 13 [.int .i64 12] c (.int .i64 z) c1)(P:Pcw C c1 z t c2):Rc C 39 [] c (.string t) c2:=by
 intro A B q
 have d:=q.cw
 clear q
 cases P with
 |line=>
  go_in
  go_wp2_with fail
  refine d.run k fun w1 a _=>?_
  clear d
  go_wp2_with fail
  go_ret
  exact⟨rfl,a.cu,a.gr⟩
 |int p w f=>
  go_in
  go_wp2_with fail
  refine d.run k fun w1 a _=>?_
  clear d
  go_wp2_with fail
  refine a.run f fun l g _=>?_
  clear a
  go_wp2_with fail
  refine dG (AJ _ p w l) fun o m=>?_
  have b:=aj (g.below m)
  clear g m
  go_wp2_with fail
  go_ret
  exact⟨rfl,b.out.cu,b.out.gr⟩
 |str p f=>
  go_in
  go_wp2_with fail
  refine d.run k fun w1 a _=>?_
  clear d
  go_wp2_with fail
  refine a.run f fun l g _=>?_
  clear a
  go_wp2_with fail
  refine dG (xK _ p l) fun o m=>?_
  have b:=aj (g.below m)
  clear g m
  go_wp2_with fail
  go_ret
  exact⟨rfl,b.out.cu,b.out.gr⟩
 |word x n f=>
  rename_i e
  have s:(e:Int)<22:=by omega
  have r:(0:Int)<=(e:Int):=by omega
  rcases x with rfl|rfl
  all_goals
   go_in
   go_wp2_with fail
   refine d.run k fun w1 a _=>?_
   have j:=a.cu
   clear d
   go_wp2_with fail
   refine(mL w1).mono ?_
   rintro v l ⟨rfl,rfl⟩
   go_wp2_with fail
   refine a.al.run f fun o h i=>?_
   have u:=(nE j i e).trans (xm ⟨e,n⟩)
   have b:=aj h
   clear a h i j
   go_wp2_with fail
   go_ret
   exact⟨rfl,b.out.cu,b.out.gr⟩
 |sign y n f=>
  rename_i e
  have s:(e:Int)<30:=by omega
  have r:(0:Int)<=(e:Int):=by omega
  rcases y with rfl|rfl|rfl
  all_goals
   go_in
   go_wp2_with fail
   refine d.run k fun w1 a _=>?_
   have j:=a.cu
   clear d
   go_wp2_with fail
   refine(qg w1).mono ?_
   rintro v l ⟨rfl,rfl⟩
   go_wp2_with fail
   refine a.al.run f fun o h i=>?_
   have u:=(nE j i e).trans (FE ⟨e,n⟩)
   have b:=aj h
   clear a h i j
   go_wp2_with fail
   go_ret
   exact⟨rfl,b.out.cu,b.out.gr⟩
 |list n f=>
  rename_i e
  have s:(e:Int)<20:=by omega
  have r:(0:Int)<=(e:Int):=by omega
  go_in
  go_wp2_with fail
  refine d.run k fun w1 a _=>?_
  have j:=a.cu
  clear d
  go_wp2_with fail
  refine a.al.run f fun o h i=>?_
  have u:=(nE j i e).trans (afI ⟨e,n⟩).1
  have b:=aj h
  clear a h i j
  go_wp2_with fail
  go_ret
  exact⟨rfl,b.out.cu,b.out.gr⟩
 |_ f=>
  go_in
  go_wp2_with fail
  refine d.run k fun w1 a _=>?_
  clear d
  go_wp2_with fail
  refine a.run f fun l g _=>?_
  clear a
  go_wp2_with fail
  go_ret
  exact⟨rfl,g.cu,g.gr⟩
theorem Dd(C:Cd)(c:Cr)(k:0<=c.p)(n:c.p<=700000000)(o:0<=c.r):∃(t:ByteArray) (c':Cr),t.size<=16010/\(c.p<=c'.p/\c'.p<=c.p+300/\c.r<=c'.r/\(c.r<=3->c'.r<=3))/\Rc C 39 [] c (.string t) c':=by
 obtain⟨d,f,s,m,e⟩:=dc C c 12 (by decide) (by decide) k (by omega)
 rcases(show d=0\/d=1\/d=2\/d=3\/(d=4\/d=5)\/(d=6\/d=7\/d=8)\/d=9\/d=10\/d=11 by omega) with rfl|rfl|rfl|rfl|h45|h678|rfl|rfl|rfl
 ·obtain⟨t,b,ht,h,a⟩:=ack C f (by omega) (by omega)
  exact⟨t,b,by omega,by omega,lC e (.name a)⟩
 ·obtain⟨l,b,j,h,a⟩:=Is C f (by omega) (by omega)
  exact⟨_,b,by have:=uK l j.2;omega,by omega,lC e (.int j.1 j.2 a)⟩
 ·obtain⟨t,b,ht,h,a⟩:=aiL C f (by omega) (by omega)
  exact⟨t,b,by omega,by omega,lC e (.flt a)⟩
 ·obtain⟨t,b,ht,h,a⟩:=afy C f (by omega) (by omega) (by omega)
  have q:t.size<=4001:=by
   rcases ht with ht|ht
   ·have:=ht.1.1;omega
   ·exact ht.1.hi
  exact⟨_,b,by have:=Ir t;omega,by omega,lC e (.str (by omega) a)⟩
 ·obtain⟨g,b,i,h,a⟩:=dc C f 22 (by decide) (by decide) (by omega) (by omega)
  obtain⟨g,rfl⟩:=dv i.1
  exact⟨_,b,by have:=ajG ⟨g,by omega⟩;exact ch this (by decide),by omega,lC e (.word h45 (by omega) a)⟩
 ·obtain⟨g,b,i,h,a⟩:=dc C f 30 (by decide) (by decide) (by omega) (by omega)
  obtain⟨g,rfl⟩:=dv i.1
  exact⟨_,b,by have:=ajH ⟨g,by omega⟩;exact ch this (by decide),by omega,lC e (.sign h678 (by omega) a)⟩
 ·exact⟨_,f,by decide,by omega,lC e .line⟩
 ·obtain⟨g,b,i,h,a⟩:=dc C f 20 (by decide) (by decide) (by omega) (by omega)
  obtain⟨g,rfl⟩:=dv i.1
  exact⟨_,b,by have:=(afI ⟨g,by omega⟩).2;exact ch this (by decide),by omega,lC e (.list (by omega) a)⟩
 ·obtain⟨t,b,ht,h,a⟩:=B5 C f 1 (by decide) (by omega) (by omega)
  exact⟨t,b,by omega,by omega,lC e (.byte a)⟩
end
theorem KC{a:List Nd}{E:Int->ByteArray}{S:Int->Nat->ByteArray}{m:Int->ByteArray->ByteArray}{i tab:Nat}(j:SzE a E S i tab)(d:Lz a)(ht:tab<=9000)(f:i<a.length)(t:(ae a i).k=7)
  (r:∀(z:Nat)(w:ByteArray),z<i->(ae a z).k=7->w.size<=10->(m z w).size+10000<=2000000*sN a z) (o:ByteArray) (H:o.size<=10):(za a E S m (ae a i) o tab).size+10000<=2000000*sN a i:=by
 have u:=(iy (d.nb i f)).1
 have l:=fun v s=>fG (d.nb i f) f v s
 obtain⟨B,C,F,G,q⟩:=acd u t
 obtain⟨p,c⟩:=l 0 (by omega)
 obtain⟨x,b⟩:=l 1 (by omega)
 have y:=j.e p c.lt
 have A:=j.blk d ht (jv b.lt) b.len
 unfold za
 rw[c.id,b.id,d.at_ i f]
 simp only[ax]
 rcases ci (ae a i).ks.length 3 with g|g
 ·rw[ab g,uJ a (by omega),c.id,b.id]
  show _+_+1+_+0+_<=_
  omega
 ·rw[aa (by omega),acf a (by omega),c.id,b.id]
  obtain⟨n,e⟩:=l 2 (by omega)
  rw[e.id]at q⊢
  by_cases h:(ae a n).k=7
  ·rw[ab h]
   have:=r n ⟨#[32,101,108,105,102,32]⟩ e.lt h (by show 6<=10;omega)
   show _+_+1+_+_+_<=_
   omega
  ·rw[aa h]
   have:=j.blk d ht (jv e.lt) e.len
   rw[ax]
   show _+_+1+_+(6+_)+_<=_
   omega
theorem acl{b:List Nd}{N:Nd}(a:lF b N=true):(nm0 N).size<=4000:=by
 unfold nm0
 rw[aL]
 cases e:N.nm[0]? with
 |none=>show 0<=4000;omega
 |some c=>exact oC a c (bJ e)
theorem acm{a:List Nd}{E:Int->ByteArray}{S:Int->Nat->ByteArray}{B:Int->ByteArray->ByteArray}{i tab:Nat}(g:SzE a E S i tab)(d:Lz a)(ht:tab<=9000)(c:i<a.length)
  (af:(ae a i).k=7->(B (-1) ⟨#[105,102,32]⟩).size+10000<=2000000*sN a i):(prS a E S B (ae a i) tab).size+10000<=2000000*sN a i:=by
 have h:=(iy (d.nb i c)).1
 have o:=fun am ak=>fG (d.nb i c) c am ak
 have s:=fun q p=>(g.kid d (ah _) c q p).1
 have nm0:=acl h
 have ao:=ue (ae a i).nm (oC h)
 unfold prS
 by_cases F:(ae a i).k=1
 ·rw[ab F];have:=g.blk d ht (ah _) c;omega
 rw[aa F]
 by_cases v:(ae a i).k=2
 ·rw[ab v,d.at_ i c]
  obtain⟨f,l⟩:=G4 h v
  have:=pG a E (ae a i).ks s
  simp only[ax]
  split
  ·show 4+_+0+_<=_;omega
  ·rw[ax];show 4+_+(3+_)+_<=_;omega
 rw[aa v]
 by_cases w:(ae a i).k=3
 ·rw[ab w,d.at_ i c]
  obtain⟨f,l,r⟩:=zq h w
  obtain⟨j,b⟩:=o 0 (by omega)
  rw[oa a f,b.id]
  have:=g.e j b.lt
  simp only[ax]
  show 6+_+3+_+_<=_;omega
 rw[aa w]
 by_cases x:(ae a i).k=4
 ·rw[ab x,d.at_ i c]
  obtain⟨f,l,r⟩:=G5 h x
  obtain⟨j,b⟩:=o 0 (by omega)
  rw[oa a f]
  rw[b.id]at l⊢
  have:=g.bod d ht (jv b.lt) b.len l
  simp only[ax]
  show 3+_+_+_<=_;omega
 rw[aa x]
 by_cases K:(ae a i).k=5
 ·rw[ab K,d.at_ i c,zp a (ae a i).ks (ae a i).n.toNat]
  have:=pG a E ((ae a i).ks.take (ae a i).n.toNat) (fun q p=>s q (sG p))
  have:=pG a E ((ae a i).ks.drop (ae a i).n.toNat) (fun q p=>s q (List.mem_of_mem_drop p))
  simp only[ax]
  show _+3+_+_<=_;omega
 rw[aa K]
 by_cases L:(ae a i).k=6
 ·rw[ab L,d.at_ i c]
  obtain⟨f,l⟩:=Be h (by omega)
  obtain⟨j,b⟩:=o 0 (by omega)
  rw[oa a f,b.id]
  have:=g.e j b.lt
  omega
 rw[aa L]
 by_cases y:(ae a i).k=7
 ·rw[ab y];exact af y
 rw[aa y]
 by_cases z:(ae a i).k=8
 ·rw[ab z,d.at_ i c]
  obtain⟨f,l,r⟩:=zr h z
  obtain⟨j,b⟩:=o 0 (by omega)
  obtain⟨C,m⟩:=o 1 (by omega)
  rw[uJ a f,b.id,m.id]
  have:=g.e j b.lt
  have:=g.blk d ht (jv m.lt) m.len
  simp only[ax]
  show 6+_+1+_+_<=_;omega
 rw[aa z]
 by_cases A:(ae a i).k=9\/(ae a i).k=10
 ·rw[ab A,d.at_ i c]
  have al:0<(ae a i).ks.length/\(ae a i).nm.length<=200:=by
   rcases A with e|e
   ·obtain⟨f,l,r,ad⟩:=G6 h e;omega
   ·obtain⟨f,l,r,ad⟩:=Db h e;omega
  obtain⟨C,m⟩:=o ((ae a i).ks.length-1) (by omega)
  rw[aeG a al.1,m.id]
  have:=pG a E ((ae a i).ks.take ((ae a i).ks.length-1)) (fun q p=>s q (sG p))
  have:=g.blk d ht (jv m.lt) m.len
  have an:(if(ae a i).k=9 then(⟨#[32,61,32]⟩:ByteArray) else⟨#[32,105,110,32]⟩).size<=4:=by
   split
   ·show 3<=4;omega
   ·show 4<=4;omega
  simp only[ax]
  show 4+_+_+_+1+_+_<=_;omega
 rw[aa A]
 by_cases G:(ae a i).k=11
 ·rw[ab G,d.at_ i c];show 5+_<=_;omega
 rw[aa G]
 by_cases H:(ae a i).k=12
 ·rw[ab H,d.at_ i c];show 4+_<=_;omega
 rw[aa H]
 by_cases I:(ae a i).k=13
 ·rw[ab I,d.at_ i c]
  have:=pG a E (ae a i).ks s
  simp only[ax]
  split
  ·show 6+0+_<=_;omega
  ·rw[ax];show 6+(1+_)+_<=_;omega
 rw[aa I]
 by_cases t:(ae a i).k=14
 ·rw[ab t,d.at_ i c]
  obtain⟨f,l,r,ad⟩:=G7 h t
  obtain⟨j,b⟩:=o 0 (by omega)
  obtain⟨C,m⟩:=o 1 (by omega)
  rw[uJ a f,b.id,m.id]
  have:=g.blk d ht (jv b.lt) b.len
  have:=g.blk d ht (jv m.lt) m.len
  simp only[ax]
  show 4+_+7+_+1+_+_<=_;omega
 rw[aa t]
 by_cases u:(ae a i).k=15
 ·rw[ab u,d.at_ i c]
  obtain⟨f,l⟩:=zt h u
  obtain⟨j,b⟩:=o 0 (by omega)
  rw[oa a f,b.id]
  have:=g.e j b.lt
  simp only[ax]
  show 6+_+_<=_;omega
 rw[aa u]
 by_cases J:(ae a i).k=16
 ·rw[ab J,d.at_ i c]
  obtain⟨f,l⟩:=Be h (by omega)
  obtain⟨j,b⟩:=o 0 (by omega)
  rw[oa a f,b.id]
  have:=g.e j b.lt
  simp only[ax]
  show 6+_+_<=_;omega
 rw[aa J,d.at_ i c]
 show 0+_<=_;omega
theorem Jb{a:List Nd}(d:Lz a)(p:∀i:Int,(ae a i).n<=9223372036854775807):∀(f i tab:Nat),i<a.length->tab+f<=8000->
  (oG a f i tab).size+10000<=2000000*sN a i/\(oH a f i tab).size+10000<=2000000*sN a i/\((ae a i).k=7->∀w:ByteArray,w.size<=10->(tJ a f i w tab).size+10000<=2000000*sN a i)
 |0,i,tab,h,ht=>by
  have:=d.at_ i h
  refine⟨?_,?_,fun _ w _=>?_⟩
  all_goals (first|(rw[oG];show 0+_<=_;omega)|(rw[oH];show 0+_<=_;omega)|(rw[tJ];show 0+_<=_;omega))
 |f+1,i,tab,h,ht=>by
  have l:=fun (b g:Nat) (e:b<i) (q:g+f<=8000)=>Jb d p f b g (by omega) q
  have m:SzE a (fun k=>oG a f k tab) (fun k g=>oH a f k g) i tab:=⟨fun b e=>(l b tab e (by omega)).1,fun b e=>(l b (tab+1) e (by omega)).2.1⟩
  have o:(ae a i).k=7->∀w:ByteArray,w.size<=10->(za a (fun k=>oG a f k tab) (fun k g=>oH a f k g) (fun k w=>tJ a f k w tab) (ae a i) w tab).size+10000<=2000000*sN a i:=fun c w j=>
   KC m d (by omega) h c (fun b w e c j=>(l b tab e (by omega)).2.2 c w j) w j
  refine⟨?_,?_,?_⟩
  ·rw[oG];exact acj m d (by omega) h (p _)
  ·rw[oH];exact acm m d (by omega) h (fun c=>o c _ (by show 3<=10;omega))
  ·intro c w j;rw[tJ];exact o c w j
theorem G8{a:List Nd}(d:Lz a)(k:∀i:Int,(ae a i).n<=9223372036854775807)(t:a.length<=3000)(p:0<a.length):(jl a).size<=6000000000:=by
 unfold jl
 rw[Bc,List.map_map]
 have f:((a.length:Int)-1)=((a.length-1:Nat):Int):=by omega
 rw[f]
 have j:∀b∈(ae a ((a.length-1:Nat):Int)).ks,(oH a a.length b 0).size+10000<=2000000*sN a b:=by
  intro b e
  obtain⟨l,h,rfl⟩:=lB e
  obtain⟨o,c⟩:=fG (d.nb _ (by omega)) (by omega) l h
  rw[c.id]
  exact(Jb d k a.length o 0 c.len (by omega)).2.1
 have q:=G3 a (fun b=>(oH a a.length b 0).size) 1 _ j (by omega)
 have r:=d.at_ (a.length-1) (by omega)
 have s:=d.le ((a.length-1:Nat):Int)
 have g:((ae a ((a.length-1:Nat):Int)).ks.map (ByteArray.size ∘ fun m=>oH a a.length m 0++⟨#[10]⟩))=(ae a ((a.length-1:Nat):Int)).ks.map fun b=>(oH a a.length b 0).size+1:=by
  apply List.map_congr_left
  intro b e
  simp only[Function.comp]
  rw[ax];rfl
 rw[g]
 omega
structure Mp (w0:World) (p1:Addr) (n c1:Nat) (ns:List Nd):Prop where
 nds:dK w0 (.slice (some p1) n c1) ns
 cap:zg w0 p1 ns
 len:ns.length=n
 big:n<=3000
 sz:Lz ns
 n0:∀i:Int, -9223372036854775808<=(ae ns i).n
 n1:∀i:Int,(ae ns i).n<=9223372036854775807
abbrev vT(b:Addr)(n a:Nat):Value:= .slice (some b) n a
def OkB(c:World)(l:Addr)(n o:Nat)(a:List Nd)(f:Nat):Prop:=
 ∀(k b:Nat)(m:ByteArray),k<f->(ae a k).k=7->b+f<=500000->∀{g e:Option Addr}{j i d h:Nat},NdR c l k (ae a k) g j i e d h->Wr c (vT l n o) b 97 #[pW c,gF (ae a k) (.slice g j i) (.slice e d h),.string m] (tJ a f k m b)
structure OkA (w0:World) (p1:Addr) (n c1:Nat) (ns:List Nd) (f:Nat):Prop where
 e:∀tab:Nat,tab+f<=500000->OkE w0 (vT p1 n c1) ns (fun k=>oG ns f k tab) tab f
 s:aiB w0 (vT p1 n c1) ns (fun k t=>oH ns f k t) f
 b:OkB w0 p1 n c1 ns f
theorem OkA.zero(f:World)(e:Addr)(n c:Nat)(d:List Nd):OkA f e n c d 0:=
 ⟨fun _ _ b _ _ _ a=>absurd a (by omega),fun b _ _ _ a=>absurd a (by omega),fun b _ _ a=>absurd a (by omega)⟩
section
variable {w0 : World} {p1 : Addr} {n c1 : Nat} {ns : List Nd} (M : Mp w0 p1 n c1 ns) {f : Nat} (A : OkA w0 p1 n c1 ns f)
theorem Wr.expr0(a:OkA w0 p1 n c1 ns f){tab q:Nat}(ht:tab+f<=500000)(i:q<f)(g:eB (ae ns q).k=true):Wr w0 (vT p1 n c1) tab 95 #[pW w0,.int .i64 (q:Int),.int .i64 0] (oG ns f q tab):=
 fun b c d h=>(a.e tab ht).zero q b c i g d h
theorem Wr.blk(M:Mp w0 p1 n c1 ns)(d:OkA w0 p1 n c1 ns f){tab q:Nat}(ht:tab+f<500000)(v:q<=f)(a:q<ns.length)(l:(ae ns q).k=1):Wr w0 (vT p1 n c1) tab 92 #[pW w0,.int .i64 (q:Int)] (wA (fun k t=>oH ns f k t) (ae ns q).ks tab):=by
 intro e g h m
 obtain⟨o,u⟩:=iy (M.sz.nb q a)
 have i:=ud o l
 refine Kz w0 _ ns _ f d.s M.nds (by rw[M.len];have:=M.big;omega) q a (fun w p=>?_) (by omega) tab ht e g h m
 obtain⟨c,j,rfl⟩:=lB p
 obtain⟨r,b⟩:=fG (M.sz.nb q a) a c j
 have:=Fb _ 0 i c (by omega) (by omega)
 rw[b.id]at this⊢
 exact⟨r,rfl,by have:=b.lt;omega,b.len,this⟩
theorem Wr.exs(b:OkA w0 p1 n c1 ns f){tab:Nat}(ht:tab+f<=500000){a:List Int}(h:abK ns f a)(j:a.length<=1048576)(v:Value)(l:cH w0 v a):Wr w0 (vT p1 n c1) tab 94 #[pW w0,v] (bK (a.map fun k=>oG ns f k tab)):=
 fun c d g i=>Ky w0 _ v ns _ tab f (b.e tab ht) a l h j c d g i
theorem Wr.bod(M:Mp w0 p1 n c1 ns)(d:OkA w0 p1 n c1 ns f){tab q:Nat}(ht:tab+f<500000)(r:q<=f)(a:q<ns.length)(l:(ae ns q).k=36):Wr w0 (vT p1 n c1) tab 96 #[pW w0,.int .i64 (q:Int)] (EF ns (fun k t=>oH ns f k t) (ae ns q) tab):=by
 obtain⟨m,p⟩:=iy (M.sz.nb q a)
 obtain⟨h,c,i,j⟩:=ab9 m l
 obtain⟨u,b⟩:=fG (M.sz.nb q a) a 0 (by omega)
 obtain⟨_,_,_,_,_,_,g⟩:=tK M.nds M.cap a
 have:=M.len
 have:=M.big
 have:=b.lt
 unfold EF Kj
 rw[b.id]at c⊢
 refine GG M.nds M.cap M.len (by omega) (by omega) (by omega) g (.bod i ?_ h b.at_ (Wr.blk M d ht (by omega) b.len c))
 rcases j with e|e
 ·exact .inl ⟨by omega,aa (by omega)⟩
 ·refine .inr ⟨e,?_⟩
  rw[ab e]
  cases (ae ns q).nm with
  |nil=>exact .inl ⟨rfl,rfl⟩
  |cons o s=>exact .inr ⟨Nat.succ_pos _,rfl⟩
theorem pH(M:Mp w0 p1 n c1 ns){i:Nat}(d:i<ns.length)(p:i<=f){a m:Nat}(g:∀j,a<=j->j<a+m->eB (ae ns (dl (ae ns i) j)).k=true)(q:a+m<=(ae ns i).ks.length):abK ns f (((ae ns i).ks.drop a).take m):=by
 intro r l
 obtain⟨j,h,c⟩:=gh l
 rw[dt,dH]at h
 rw[List.getElem_take,List.getElem_drop]at c
 obtain⟨o,b⟩:=fG (M.sz.nb i d) d (a+j) (by omega)
 have e:=zu (N:=ae ns i) (j:=a+j) (by omega)
 rw[e,b.id]at c
 have:=g (a+j) (by omega) (by omega)
 rw[b.id]at this
 exact⟨o,c.symm,by have:=b.lt;omega,b.len,this⟩
end
section
variable {w0 : World} {p1 : Addr} {n c1 : Nat} {ns : List Nd} {f : Nat}
theorem Wr.bas(M:Mp w0 p1 n c1 ns)(a:OkA w0 p1 n c1 ns f){tab q:Nat}(ht:tab+f<=500000)(i:q<f)(j:q<ns.length)(g:eB (ae ns q).k=true):Wr w0 (vT p1 n c1) tab 157 #[pW w0,.int .i64 (q:Int)] (Ly ns (fun k=>oG ns f k tab) q):=
 fun b c d h=>abt w0 _ ns _ tab f (a.e tab ht) M.nds (by rw[M.len];have:=M.big;omega) q i j g b c d h
theorem Fc(M:Mp w0 p1 n c1 ns)(g:OkA w0 p1 n c1 ns f)(tab i:Nat)(ht:tab+f<500000)(bb:i<=f)(x:i<ns.length)(bv:eB (ae ns i).k=true)(bd:Int)(l:¬gB (ae ns i).k (ae ns i).op<bd):
  Wr w0 (vT p1 n c1) tab 95 #[pW w0,.int .i64 (i:Int),.int .i64 bd] (prE ns (fun q=>oG ns f q tab) (fun q t=>oH ns f q t) (ae ns i) tab):=by
 have bE:=M.big
 have b3:=M.len
 obtain⟨r,b1⟩:=iy (M.sz.nb i x)
 have o:=fun s E=>fG (M.sz.nb i x) x s E
 have a3:(ae ns i).k=31->1<=(ae ns i).op/\(ae ns i).op<=18:=fun bs=>(jK r).2.2 bs
 have bF:=bi bv
 have b4:=zb (ae ns i).k (ae ns i).op
 obtain⟨bn,m,br,bl,bk,bo,B⟩:=tK M.nds M.cap x
 have c:=@abu w0 p1 n c1 ns M.nds M.cap M.len (by omega) tab i (by omega) _ (by omega) a3 _ _ _ _ _ _ B
 have a4:∀a9:ByteArray,((ae ns i).k=28\/(ae ns i).k=29\/(ae ns i).k=31)->Wr w0 (vT p1 n c1) tab 154 #[pW w0,gF (ae ns i) (.slice bn m br) (.slice bl bk bo),.string a9,.int .i64 (gB (ae ns i).k (ae ns i).op)] (C0 ns (fun q=>oG ns f q tab) (ae ns i) a9 (gB (ae ns i).k (ae ns i).op)):=by
  intro a9 b0
  obtain⟨e,d,w⟩:=jK r
  obtain⟨a,b⟩:=o 0 (by omega)
  obtain⟨H,j⟩:=o 1 (by omega)
  have h:=fF 2 0 d 0 (by omega) (by omega)
  have p:=fF 2 0 d 1 (by omega) (by omega)
  have:=IG (ae ns i).k (ae ns i).op
  have z:=b.lt
  have bf:=j.lt
  unfold C0
  rw[b.id]at h⊢
  rw[j.id]at p⊢
  exact aev (fun I J=>w (by omega)) B e b.at_ j.at_ (by omega) (fun u c v y=>g.e tab (by omega) a _ u c (by omega) h (by unfold vK;split<;>omega) (by unfold vK;split<;>omega) v y) (fun u c v y=>g.e tab (by omega) H _ u c (by omega) p (by omega) (by omega) v y)
 unfold prE
 by_cases I:(ae ns i).k=28
 ·rw[ab I];exact c (.inf (.inl ⟨I,rfl⟩) l (a4 _ (by omega)))
 rw[aa I]
 by_cases J:(ae ns i).k=29
 ·rw[ab J];exact c (.inf (.inr ⟨J,rfl⟩) l (a4 _ (by omega)))
 rw[aa J]
 by_cases K:(ae ns i).k=31
 ·rw[ab K];exact abA (by omega) (by omega) a3 B K l (zv (a3 K)) (a4 _ (by omega))
 rw[aa K]
 by_cases L:(ae ns i).k=30
 ·rw[ab L]
  obtain⟨e,d,w⟩:=li r
  obtain⟨a,b⟩:=o 0 (by omega)
  have z:=b.lt
  have b6:=b.len
  unfold unB unS
  rw[b.id]at d⊢
  have ap:=aj fun u c v y=>g.e tab (by omega) a 11 u c (by omega) d (by omega) (by omega) v y
  refine c (.nod (.inl ⟨L,rfl⟩) l ?_)
  have:=w L
  by_cases a6:(ae ns i).op=21
  ·rw[ab a6];exact c (.un (.inl ⟨a6,rfl⟩) e b.at_ ap)
  rw[aa a6]
  by_cases a7:(ae ns i).op=22
  ·rw[ab a7];exact c (.un (.inr (.inl ⟨a7,rfl⟩)) e b.at_ ap)
  rw[aa a7]
  by_cases a8:(ae ns i).op=20
  ·rw[ab a8];exact c (.un (.inr (.inr ⟨a8,rfl⟩)) e b.at_ ap)
  rw[aa a8]
  refine zm M.nds M.cap M.len (by omega) B (.neg e b.at_ (show _=_ by omega) ⟨by omega,?_⟩ ap)
  unfold C1
  by_cases F:(ae ns a).k=30
  ·by_cases ar:(ae ns a).op=19
   ·exact .inl ⟨F,.inl ⟨ar,by rw[F,ar];rfl⟩⟩
   ·exact .inl ⟨F,.inr ⟨ar,by simp[ar]⟩⟩
  ·exact .inr ⟨F,by simp[F]⟩
 rw[aa L]
 by_cases a0:(ae ns i).k=32
 ·rw[ab a0]
  obtain⟨e,d,w⟩:=jK r
  obtain⟨a,b⟩:=o 0 (by omega)
  obtain⟨H,j⟩:=o 1 (by omega)
  have h:=fF 2 0 d 0 (by omega) (by omega)
  have p:=fF 2 0 d 1 (by omega) (by omega)
  have z:=b.lt
  have bf:=j.lt
  rw[b.id]at h⊢
  rw[j.id]at p⊢
  exact c (.idx a0 l e b.at_ j.at_ (Wr.bas M g (by omega) (by omega) b.len h) (Wr.expr0 g (by omega) (by omega) p))
 rw[aa a0]
 by_cases a1:(ae ns i).k=33
 ·rw[ab a1]
  obtain⟨e,d,w⟩:=li r
  obtain⟨a,b⟩:=o 0 (by omega)
  have z:=b.lt
  rw[b.id]at d⊢
  exact c (.fld a1 l e b.at_ (Wr.bas M g (by omega) (by omega) b.len d))
 rw[aa a1]
 by_cases al:(ae ns i).k=34
 ·rw[ab al]
  obtain⟨e,d⟩:=Da r al
  obtain⟨a,b⟩:=o 0 (by omega)
  have h:=fF _ 0 d 0 (by omega) (by omega)
  have z:=b.lt
  have ba:=pH M x bb (a:=1) (m:=(ae ns i).ks.length-1) (fun s w bD=>fF _ 0 d s (by omega) (by omega)) (by omega)
  rw[bH (by rw[dH];exact ah _)]at ba
  rw[b.id]at h⊢
  exact c (.cal al l e b.at_ (Wr.bas M g (by omega) (by omega) b.len h) fun bA bw=>Wr.exs g (by omega) ba (by rw[dH];omega) bA bw)
 rw[aa al]
 by_cases am:(ae ns i).k=35
 ·rw[ab am]
  have e:=zo r am
  refine c (.nod (.inr (.inl ⟨am,rfl⟩)) l (Kl M.nds M.cap M.len (by omega) B.ks (by omega) fun b7 bx=>?_))
  obtain⟨s,E,rfl⟩:=lB bx
  obtain⟨G,A⟩:=o s E
  have d:=I9 _ 0 e s (by omega) (by omega)
  rw[A.id]at d⊢
  refine⟨G,rfl,A.len,?_⟩
  obtain⟨bc,b2⟩:=iy (M.sz.nb G A.len)
  have a5:=fun s E=>fG (M.sz.nb G A.len) A.len s E
  have b5:=A.lt
  unfold wy
  by_cases ad:(ae ns G).k=41
  ·obtain⟨a2,C,bt⟩:=jK bc
   obtain⟨a,b⟩:=a5 0 (by omega)
   obtain⟨H,j⟩:=a5 1 (by omega)
   have h:=fF 2 0 C 0 (by omega) (by omega)
   have p:=fF 2 0 C 1 (by omega) (by omega)
   have z:=b.lt
   have bf:=j.lt
   rw[b.id]at h⊢
   rw[j.id]at p⊢
   exact .inl ⟨ad,a2,a,H,_,_,b.at_,j.at_,Wr.expr0 g (by omega) (by omega) h,Wr.expr0 g (by omega) (by omega) p,ab ad⟩
  ·obtain⟨a2,C,bt⟩:=li bc
   obtain⟨a,b⟩:=a5 0 (by omega)
   have z:=b.lt
   rw[aa ad]
   rw[b.id]at C⊢
   refine .inr ⟨a2,a,_,b.at_,Wr.expr0 g (by omega) (by omega) C,?_⟩
   by_cases af:(ae ns G).k=42
   ·exact .inl ⟨af,ab af⟩
   ·exact .inr ⟨⟨ad,af⟩,aa af⟩
 rw[aa am]
 by_cases ao:(ae ns i).k=36
 ·rw[ab ao]
  exact c (.fn ao l (Wr.bod M g ht bb x ao))
 rw[aa ao]
 by_cases av:(ae ns i).k=37
 ·rw[ab av]
  obtain⟨e,d,w⟩:=li r
  obtain⟨a,b⟩:=o 0 (by omega)
  have z:=b.lt
  rw[b.id]at d⊢
  exact c (.one av l e b.at_ (Wr.expr0 g (by omega) (by omega) d))
 rw[aa av]
 exact c (.nod (.inr (.inr ⟨by omega,rfl⟩)) l fun u c v y=>Kk w0 _ _ _ _ u tab c v (by omega) (M.n0 i) (M.n1 i) (fun _=>sr (M.sz.nb i x)) y)
theorem KD(M:Mp w0 p1 n c1 ns)(d:OkA w0 p1 n c1 ns f)(v:f<ns.length)(tab:Nat)(ht:tab+(f+1)<=500000):OkE w0 (vT p1 n c1) ns (fun k=>oG ns (f+1) k tab) tab (f+1):=by
 intro k j e g w h s t i a
 have u:=M.big
 have y:=M.len
 obtain⟨q,x⟩:=iy (M.sz.nb k (by omega))
 have p:(ae ns k).k=31->1<=(ae ns k).op/\(ae ns k).op<=18:=fun m=>(jK q).2.2 m
 have o:oG ns (f+1) k tab=prE ns (fun c=>oG ns f c tab) (fun c r=>oH ns f c r) (ae ns k) tab:=by rw[oG]
 unfold mo at a⊢
 simp only[o]at a⊢
 by_cases b:gB (ae ns k).k (ae ns k).op<j
 ·rw[ab b]at a⊢
  have z:=zb (ae ns k).k (ae ns k).op
  obtain⟨_,_,_,_,_,_,l⟩:=tK M.nds M.cap (show k<ns.length by omega)
  exact abu M.nds M.cap M.len (by omega) (by omega) (by omega) p l (.par b (Fc M d tab k (by omega) (by omega) (by omega) h 0 (by omega))) e g i a
 ·rw[aa b]at a⊢
  exact Fc M d tab k (by omega) (by omega) (by omega) h j b e g i a
end
section
variable {w0 : World} {p1 : Addr} {n c1 : Nat} {ns : List Nd} {f : Nat}
theorem zw(M:Mp w0 p1 n c1 ns)(e:OkA w0 p1 n c1 ns f)(tab i:Nat)(ht:tab+f<500000)(af:i<=f)(o:i<ns.length)(G:(ae ns i).k=7)(z:ByteArray){u s:Option Addr}{m v L ck:Nat}(R:NdR w0 p1 i (ae ns i) u m v s L ck):
  Wr w0 (vT p1 n c1) tab 97 #[pW w0,gF (ae ns i) (.slice u m v) (.slice s L ck),.string z] (za ns (fun q=>oG ns f q tab) (fun q t=>oH ns f q t) (fun q w=>tJ ns f q w tab) (ae ns i) z tab):=by
 have ad:=M.big
 have am:=M.len
 obtain⟨H,al⟩:=iy (M.sz.nb i o)
 have p:=fun I F=>fG (M.sz.nb i o) o I F
 obtain⟨J,K,x,y,E⟩:=acd H G
 obtain⟨B,b⟩:=p 0 (by omega)
 obtain⟨C,a⟩:=p 1 (by omega)
 have ao:=b.lt
 have ap:=a.lt
 rw[b.id]at x
 rw[a.id]at y
 have l:=aj (Wr.expr0 e (tab:=tab) (by omega) (show B<f by omega) x)
 have j:=aj (Wr.blk M e ht (show C<=f by omega) a.len y)
 have A:=@GG w0 p1 n c1 ns M.nds M.cap M.len (by omega) tab i (by omega) _ (by omega) _ _ _ _ _ _ R
 unfold za
 rw[b.id,a.id]
 rcases ci (ae ns i).ks.length 3 with g|g
 ·rw[ab g,show ∀r:ByteArray,r++ByteArray.empty=r from fun r=>ByteArray.append_empty]
  exact A (.br2 (by omega) b.at_ a.at_ l j)
 ·rw[aa (by omega)]
  obtain⟨h,c⟩:=p 2 (by omega)
  have wc:=c.lt
  have ar:=c.len
  rw[c.id]at E⊢
  by_cases d:(ae ns h).k=7
  ·rw[ab d]
   exact zm M.nds M.cap M.len (by omega) R (.bre (by omega) b.at_ a.at_ c.at_ l j ⟨by omega,d⟩ fun _ _ _ _ _ _ R=>e.b h tab _ (by omega) d (by omega) R)
  ·rw[aa d,<-be]
   exact zm M.nds M.cap M.len (by omega) R (.br3 (by omega) b.at_ a.at_ c.at_ l j ⟨by omega,d⟩ (Wr.blk M e ht (show h<=f by omega) c.len (show(ae ns h).k=1 by omega)))
theorem acn{N:Nd}(a:N.nm.length=1):N.nm[0]?=some (nm0 N):=by
 unfold nm0
 rw[aL,aF (by omega)];rfl
theorem aco(M:Mp w0 p1 n c1 ns)(g:OkA w0 p1 n c1 ns f)(tab i:Nat)(ht:tab+f<500000)(z:i<=f)(p:i<ns.length)(ba:gI (ae ns i).k=true):
  Wr w0 (vT p1 n c1) tab 31 #[pW w0,.int .i64 (i:Int)] (prS ns (fun q=>oG ns f q tab) (fun q t=>oH ns f q t) (fun _ w=>za ns (fun q=>oG ns f q tab) (fun q t=>oH ns f q t) (fun q w=>tJ ns f q w tab) (ae ns i) w tab) (ae ns i) tab):=by
 have bb:=M.big
 have bf:=M.len
 obtain⟨r,bd⟩:=iy (M.sz.nb i p)
 have u:=fun o a6=>fG (M.sz.nb i p) p o a6
 have a5:(ae ns i).ks.length<=1048576:=by omega
 obtain⟨_,_,_,_,_,_,a0⟩:=tK M.nds M.cap p
 have j:=@GG w0 p1 n c1 ns M.nds M.cap M.len (by omega) tab i (by omega) _ (by omega) _ _ _ _ _ _ a0
 have bc:=bi ba
 have a3:∀k:Int,k=34->eB k=true:=fun k ak=>by rw[ak];rfl
 unfold prS
 by_cases F:(ae ns i).k=1
 ·rw[ab F];exact j (.blk F (Wr.blk M g ht z p F))
 rw[aa F]
 by_cases E:(ae ns i).k=2
 ·rw[ab E]
  obtain⟨e,b⟩:=G4 r E
  by_cases x:(ae ns i).ks=[]
  ·rw[ab x,show ∀A:ByteArray,A++ByteArray.empty=A from fun A=>ByteArray.append_empty]
   exact j (.let0 b E (by rw[x];rfl))
  ·rw[aa x]
   have l:=pH M p z (a:=0) (m:=(ae ns i).ks.length) (fun o d y=>fF _ 0 e o (by omega) (by omega)) (by omega)
   rw[dJ,bH (ah _)]at l
   exact j (.let1 b E (List.length_pos_iff.2 x) fun v s=>Wr.exs g (by omega) l a5 v s)
 rw[aa E]
 by_cases I:(ae ns i).k=3
 ·rw[ab I]
  obtain⟨e,b,d⟩:=zq r I
  obtain⟨a,c⟩:=u 0 (by omega)
  have B:=c.lt
  rw[c.id]at b⊢
  exact j (.cst I e d (acn d) c.at_ (Wr.expr0 g (by omega) (by omega) b))
 rw[aa I]
 by_cases J:(ae ns i).k=4
 ·rw[ab J]
  obtain⟨e,b,d⟩:=G5 r J
  obtain⟨a,c⟩:=u 0 (by omega)
  have B:=c.lt
  rw[c.id]at b⊢
  exact j (.fns J e d (acn d) c.at_ (Wr.bod M g ht (by omega) c.len b))
 rw[aa J]
 by_cases K:(ae ns i).k=5
 ·rw[ab K]
  obtain⟨e,b,d,y⟩:=acb r K
  obtain⟨m,a8⟩:∃m:Nat,(ae ns i).n=(m:Int):=⟨(ae ns i).n.toNat,by omega⟩
  have a9:(ae ns i).n.toNat=m:=by omega
  rw[a9]at d y⊢
  have l:=pH M p z (a:=0) (m:=m) (fun o ap ar=>ab8 _ 0 d o (by omega) (by omega)) (by omega)
  rw[dJ]at l
  have a4:=pH M p z (a:=m) (m:=(ae ns i).ks.length-m) (fun o ap ar=>fF _ m y o (by omega) (by omega)) (by omega)
  rw[bH (by rw[dH];exact ah _)]at a4
  exact j (.set K (by omega) a8 (fun v s=>Wr.exs g (by omega) l (by rw[dt];omega) v s) fun v s=>Wr.exs g (by omega) a4 (by rw[dH];omega) v s)
 rw[aa K]
 by_cases an:(ae ns i).k=6
 ·rw[ab an]
  obtain⟨e,b⟩:=Be r (by omega)
  obtain⟨a,c⟩:=u 0 (by omega)
  have B:=c.lt
  rw[c.id]at b⊢
  exact j (.one an e c.at_ (Wr.expr0 g (by omega) (by omega) (a3 _ b)))
 rw[aa an]
 by_cases L:(ae ns i).k=7
 ·rw[ab L]
  exact j (.iff L (zw M g tab i ht z p L _ a0))
 rw[aa L]
 by_cases ad:(ae ns i).k=8
 ·rw[ab ad]
  obtain⟨e,b,d⟩:=zr r ad
  obtain⟨a,c⟩:=u 0 (by omega)
  obtain⟨af,h⟩:=u 1 (by omega)
  have B:=c.lt
  have av:=h.lt
  rw[c.id]at b⊢
  rw[h.id]at d⊢
  exact j (.whl ad e c.at_ h.at_ (Wr.expr0 g (by omega) (by omega) b) (Wr.blk M g ht (by omega) h.len d))
 rw[aa ad]
 by_cases a2:(ae ns i).k=9\/(ae ns i).k=10
 ·rw[ab a2]
  by_cases a1:(ae ns i).k=10
  ·rw[aa (by omega)]
   obtain⟨e,b,d,y⟩:=Db r a1
   rw[e]
   have l:=pH M p z (a:=0) (m:=1) (fun o ap ar=>by have ak:o=0:=(by omega);subst ak;exact b) (by omega)
   rw[dJ]at l
   obtain⟨af,h⟩:=u 1 (by omega)
   have av:=h.lt
   show Wr _ _ _ _ _ (_++_++_++_++_++wA _ (ae ns (dl (ae ns i) 1)).ks tab)
   rw[h.id]at d⊢
   exact j (.fr y (.inr ⟨a1,rfl,rfl⟩) e h.at_ (fun v s=>Wr.exs g (by omega) l (by rw[dt];omega) v s) (Wr.blk M g ht (by omega) h.len d))
  ·have ao:(ae ns i).k=9:=by omega
   rw[ab ao]
   obtain⟨e,b,d,y⟩:=G6 r ao
   obtain⟨k,a7⟩:∃k,(ae ns i).ks.length=k+1:=⟨(ae ns i).ks.length-1,by omega⟩
   rw[show(ae ns i).ks.length-1=k by omega]at b d⊢
   have l:=pH M p z (a:=0) (m:=k) (fun o ap ar=>fF _ 0 b o (by omega) (by omega)) (by omega)
   rw[dJ]at l
   obtain⟨af,h⟩:=u k (by omega)
   have av:=h.lt
   rw[h.id]at d⊢
   exact j (.fr (by omega) (.inl ⟨ao,rfl,by omega⟩) a7 h.at_ (fun v s=>Wr.exs g (by omega) l (by rw[dt];omega) v s) (Wr.blk M g ht (by omega) h.len d))
 rw[aa a2]
 by_cases al:(ae ns i).k=11
 ·rw[ab al];exact j (.brk al)
 rw[aa al]
 by_cases am:(ae ns i).k=12
 ·rw[ab am];exact j (.nxt am)
 rw[aa am]
 by_cases C:(ae ns i).k=13
 ·rw[ab C]
  have e:=ace r C
  by_cases x:(ae ns i).ks=[]
  ·rw[ab x,show ∀A:ByteArray,A++ByteArray.empty=A from fun A=>ByteArray.append_empty]
   exact j (.ret0 C (by rw[x];rfl))
  ·rw[aa x]
   have l:=pH M p z (a:=0) (m:=(ae ns i).ks.length) (fun o d y=>fF _ 0 e o (by omega) (by omega)) (by omega)
   rw[dJ,bH (ah _)]at l
   exact j (.ret1 C (List.length_pos_iff.2 x) fun v s=>Wr.exs g (by omega) l a5 v s)
 rw[aa C]
 by_cases G:(ae ns i).k=14
 ·rw[ab G]
  obtain⟨e,b,d,y⟩:=G7 r G
  obtain⟨a,c⟩:=u 0 (by omega)
  obtain⟨af,h⟩:=u 1 (by omega)
  have B:=c.lt
  have av:=h.lt
  rw[c.id]at b⊢
  rw[h.id]at d⊢
  exact j (.try_ y G e c.at_ h.at_ (Wr.blk M g ht (by omega) c.len b) (Wr.blk M g ht (by omega) h.len d))
 rw[aa G]
 by_cases H:(ae ns i).k=15
 ·rw[ab H]
  obtain⟨e,b⟩:=zt r H
  obtain⟨a,c⟩:=u 0 (by omega)
  have B:=c.lt
  rw[c.id]at b⊢
  exact j (.thr H e c.at_ (Wr.expr0 g (by omega) (by omega) b))
 rw[aa H,ab (by omega)]
 obtain⟨e,b⟩:=Be r (by omega)
 obtain⟨a,c⟩:=u 0 (by omega)
 have B:=c.lt
 rw[c.id]at b⊢
 exact j (.dfr (show _=_ by omega) e c.at_ (Wr.expr0 g (by omega) (by omega) (a3 _ b)))
theorem acp(M:Mp w0 p1 n c1 ns)(c:OkA w0 p1 n c1 ns f)(l:f<ns.length):OkA w0 p1 n c1 ns (f+1):=
 ⟨fun b h=>KD M c l b h,
  fun i b d e m o h g a=>by
  simp only[oH]at a⊢
  exact aco M c b i (by omega) (by omega) (by omega) o d e g a,
  fun i b p m k h _ _ _ _ _ _ j d e g a=>by
  simp only[tJ]at a⊢
  exact zw M c b i (by omega) (by omega) (by omega) k p j d e g a⟩
theorem okA(M:Mp w0 p1 n c1 ns):∀f,f<=ns.length->OkA w0 p1 n c1 ns f
 |0,_=>OkA.zero w0 p1 n c1 ns
 |f+1,a=>acp M (okA M f (by omega)) (by omega)
end
open Go.Lib (strCells strCells_length)
theorem De(T:ByteArray):strCells T=B8 (se T.data.toList):=by
 unfold strCells B8 se
 rw[List.map_map];rfl
theorem Bf{w:World}{base g n cap:Nat}{T:ByteArray}(a:w.ownsRow base 5 1 (.slice (some ⟨g,0,none⟩) n cap) n (strCells T)):
  (convert 22 9 (.slice (some ⟨g,0,none⟩) n cap)).run Tryz.prog w= .ok (.string T) w:=by
 rw[De]at a
 rw[jx a,uz]
def eH(a:List Nd):ByteArray:=if(bu a).1=0 then uG a else⟨#[]⟩
theorem zg.below{w W:World}{b:Addr}{n i:Nat}{a:List Nd}(k:zg w b a)(l:dK w (.slice (some b) n i) a)(m:Below w.heap.size w W):zg W b a:=by
 intro o c d e h g
 obtain⟨q,j,r,p,f⟩:=l.get h
 cases j
 have:=ai m f.c8
 rw[this]at g
 obtain rfl:p= .slice d c.ks.length e:=by simpa using g
 exact k o c d e h f.c8
theorem acq{a:List Nd}(b:(bu a).1=0):0<a.length/\a.length<=3000/\(ae a ((a.length:Int)-1)).k=1:=by
 have g:=zl b
 have:=g.len
 unfold bu at b
 by_cases d:iI a=true
 ·rw[ab d]at b;exact absurd b (by decide)
 ·have e:iI a=false:=by simpa using d
  have f:=iA e
  refine⟨by omega,by omega,?_⟩
  by_cases c:(a.getD (a.length-1) Hy).k=1
  ·unfold ae
   rw[show((a.length:Int)-1).toNat=a.length-1 by omega]
   rw[aL,aF (by omega)]at c⊢
   exact c
  ·exact absurd (.inr (.inr c)) f
theorem Pr.new(a:World)(b:Value):Pr a b ByteArray.empty 0 (a.alloc (.cells #[b,.slice none 0 0,.int .i64 0] 85)):=
 ⟨(ag _ a).alloc (ah _) _,.slice none 0 0,ay a _,dy _ _ _ _⟩
theorem rG(w:World)(g:Addr)(n c:Nat)(a:List Nd)(a8:dK w (.slice (some g) n c) a)(b3:zg w g a)(ao:a.length=n)(ea:n<=1048576)(cq:∀N∈a,fm N)(b4:∀N∈a,rA N):
  Calls Tryz.prog 12 #[.agg #[.slice (some g) n c]] w fun e w'=>e= .returned (.string (eH a))/\Below w.heap.size w w':=by
 have b0:∀u,Below w.heap.size w (w.alloc u):=fun u=>(ag _ w).alloc (ah _) u
 have o:=FC a8 b3 b4 ao
 have bk:=fun u=>so (w.alloc u) (.slice (some g) n c) a (a8.below (b0 u)) (by omega) cq
 obtain⟨bt,bb⟩:=aE ((bu a).1)
 obtain⟨k,bE⟩:=aE ((bu a).2)
 rw[bb,bE]at bk
 have G:=aj bb
 clear a8 cq b4 ao bb bE b3
 go_in
 go_wp2_with fail
 have bs:=ay w (.cells #[.slice (some g) n c] 25)
 have c6:(w.alloc (.cells #[.slice (some g) n c] 25)).heap.size=w.heap.size+1:=db _ _
 refine dG (bk _) fun w1 A=>?_
 have F:=(A.block _ (by omega)).trans bs
 have B:Below w.heap.size w w1:=(b0 _).trans (A.mono (by omega))
 clear bs A bk
 by_cases z:bt=0
 ·subst z
  have a5:=cK F
  have eb:=aw F
  have cz:((0:Int)!=0)=false:=rfl
  have al:Below w1.heap.size w1 (w1.alloc (.cells #[.int .i64 0,.int .i64 k] 28)):=(ag _ w1).alloc (ah _) _
  have l:Below w.heap.size w (w1.alloc (.cells #[.int .i64 0,.int .i64 k] 28)):=B.trans (al.mono B.size)
  have J:(w1.alloc (.cells #[.int .i64 0,.int .i64 k] 28)).cell? ⟨w.heap.size,0,none⟩=some (.slice (some g) n c):=ai al a5
  obtain⟨df,cm,bl⟩:=acq G.out
  have ao:=o.2.2.2
  obtain⟨d,rfl⟩:∃d,n=d+1:=⟨n-1,by omega⟩
  have bc:ae a ((a.length:Int)-1)=ae a (d:Int):=by congr 1;omega
  rw[bc]at bl
  obtain⟨d1,ds,d3,bx,j,bA,I⟩:=tK o.1 o.2.1 (show d<a.length by omega)
  have a7:=(I.rd _ (l.trans (((ag _ _).alloc (ah _) (.cells #[.slice (some g) (d+1) c,.slice none 0 0,.int .i64 0] 85)).mono l.size))).c8
  have d4:((d:Int)+1)-1=(d:Int):=by omega
  have ec:(0:Int)<=(d:Int):=by omega
  have ed:(d:Int)<(d:Int)+1:=by omega
  have p:Mp (w1.alloc (.cells #[.int .i64 0,.int .i64 k] 28)) g (d+1) c a:=by
   refine⟨o.1.below l,o.2.1.below o.1 l,ao,by omega,aca G,fun cf=>?_,fun cf=>?_⟩
   all_goals
    unfold ae
    rw[aL]
    cases e:a[cf.toNat]? with
    |none=>decide
    |some N=>have:=(o.2.2.1 N (bJ e)).n;simp only[fH];omega
  have b7:=G8 p.sz p.n1 (by omega) (by omega)
  have a1:=Pr.new (w1.alloc (.cells #[.int .i64 0,.int .i64 k] 28)) (.slice (some g) (d+1) c)
  have a2:=aj a1
  have a6:((w1.alloc (.cells #[.int .i64 0,.int .i64 k] 28)).alloc (.cells #[.slice (some g) (d+1) c,.slice none 0 0,.int .i64 0] 85)).cell? ⟨w.heap.size,0,none⟩=some (.slice (some g) (d+1) c):=ai ((ag _ _).alloc (ah _) _) J
  generalize cI:w1.alloc (.cells #[.int .i64 0,.int .i64 k] 28)=q at p a2 a1 a6 J a7 l al
  have br:=okA p a.length (ah _)
  obtain⟨ca,c4⟩:=iy (p.sz.nb d (by omega))
  have b2:=ud ca bl
  have bd:=I.hL
  obtain⟨t,v⟩:=aE ((ae a (d:Int)).ks)
  obtain⟨f,am⟩:∃f,(t.map fun b=>oH a a.length b 0++(⟨#[10]⟩:ByteArray))=f:=⟨_,rfl⟩
  have b6:jl a=fC f:=by unfold jl;rw[bc,v,am]
  have cc:∀x∈t,∃h:Nat,x=(h:Int)/\h<a.length/\gI (ae a h).k=true:=by
   intro x ar
   rw[<-v]at ar
   obtain⟨cg,c0,rfl⟩:=lB ar
   obtain⟨dk,cd⟩:=fG (p.sz.nb d (by omega)) (by omega) cg c0
   have:=Fb _ 0 b2 cg (by omega) (by omega)
   rw[cd.id]at this⊢
   exact⟨dk,rfl,cd.len,this⟩
  have b5:cH q (.slice bx j bA) t:=by rw[<-v];exact I.ks.below l
  have i:Hid (OkA q g (d+1) c a a.length/\cH q (.slice bx j bA) t/\(∀x∈t,∃h:Nat,x=(h:Int)/\h<a.length/\gI (ae a h).k=true)/\t.length=j/\(t.map fun b=>oH a a.length b 0++(⟨#[10]⟩:ByteArray))=f/\jl a=fC f/\(jl a).size<=6000000000/\a.length<=3000/\f.length=j):=⟨br,b5,cc,by rw[<-v];exact bd,am,b6,b7,cm,by rw[<-am,aI,<-v];exact bd⟩
  have d6:j<=200:=by omega
  have a0:=aj l
  subst cI
  clear br ca b2 bd v am b6 cc b5 b7 p a1 I bc df cm bl c4 F al B c6 l
  go_wp2_with fail
  have bf:(w1.alloc (.cells #[.int .i64 0,.int .i64 k] 28)).heap.size=w1.heap.size+1:=db _ _
  generalize w1.alloc (.cells #[.int .i64 0,.int .i64 k] 28)=q at a2 i a0 J a6 a7 bf⊢
  have a3:=aj bf
  clear bf
  go_loopw [25] (fun bo wr=>∃b:Nat,b<=j/\bo= .int .i64 b/\Hid (Pr q (.slice (some g) (d+1) c) (fC (f.take b)) 0 wr)) (fun bo _=>j-(intOf bo).toNat)
  case atStart=>exact⟨0,by omega,rfl,a2⟩
  case round=>
   clear a6 a7 J a5
   obtain⟨b,d7,rfl,y⟩:=hrel
   by_cases c5:b<j
   ·obtain⟨x,ap⟩:=bC i.2.2.2.1 c5
    obtain⟨h,rfl,b8,b9⟩:=i.2.2.1 x (bJ ap)
    obtain⟨d0,rfl,cx⟩:=(i.2.1.below y.bel).get ap
    have d9:(b:Int)<(j:Int):=by omega
    have d8:(0:Int)<=(b:Int):=by omega
    have cb:f[b]?=some (oH a a.length h 0++⟨#[10]⟩):=by rw[<-i.out.2.2.2.2.1,bq,ap];rfl
    have a9:=oB f b _ cb
    have ba:=I1 f (b+1)
    have bD:=i.2.2.2.2.2.2.1
    rw[i.out.2.2.2.2.2.1]at bD
    rw[a9]at ba
    simp only[ax]at ba
    have ar:(fC (f.take b)).size+((oH a a.length h 0).size+1)<=6000000000:=by
     have e:(⟨#[10]⟩:ByteArray).size=1:=rfl
     omega
    have E:=i.1.s h 0 (fC (f.take b)) wr b8 b9 (by have:=i.2.2.2.2.2.2.2.1;omega) y (by show _+(oH a a.length h 0).size<=_;omega)
    have bv:=aj a9
    simp only at E
    obtain⟨dz,bF⟩:=aE (oH a a.length h 0)
    rw[bF]at E bv ar
    rw[a3.out]at E
    clear a9 ba bD ap cb bF b8 b9
    go_wp2_with fail
    refine E.mono ?_
    rintro e ef ⟨rfl,cp,c7⟩
    have cr:=aj cp
    clear cp c7 cx E
    go_wp2_with fail
    have cl:=eD q _ _ ⟨#[10]⟩ _ _ cr (by rw[ax];show _+_+1<=_;omega)
    rw[a3.out]at cl
    refine cl.mono ?_
    rintro e eg ⟨rfl,bn,c9⟩
    rw[be,<-bv.out]at bn
    have ct:=aj bn
    clear bn c9
    go_wp2_with fail
    exact⟨⟨b+1,by omega,by go_num,ct⟩,by simp[intOf];omega⟩
   ·obtain rfl:b=j:=by omega
    have ad:f.take b=f:=bH (by rw[i.out.2.2.2.2.2.2.2.2];exact ah _)
    rw[ad,<-i.out.2.2.2.2.2.1]at y
    have a4:Below w.heap.size w wr:=a0.out.trans (y.bel.mono a0.size)
    obtain⟨u,af,r⟩:=y.row
    have m:Hid (eH a=if 65536<(jl a).size then ByteArray.empty else jl a):=by show _=_;unfold eH uG;rw[ab G.out]
    have ce:=i.2.2.2.2.2.2.1
    obtain⟨D,L⟩:=aE (jl a)
    rw[L]at r m ce
    obtain⟨K,C⟩:=aE D.size
    rw[C]at r m ce
    obtain⟨cw,cy,rfl⟩:=bG r
    have dg:wr.cell? ⟨q.heap.size,1,none⟩=some (.slice cw K cy):=by rw[au _ _ _ _ _ _ af];rfl
    rw[a3.out]at dg
    by_cases b1:65536<K
    ·have H:Hid (eH a=ByteArray.empty):=by show _=_;rw[m.out,ab b1]
     have A:(65536:Int)<(K:Int):=by omega
     clear ad L m r af C
     go_wp2_with fail
     go_ret
     exact⟨by rw[H.out];rfl,a4⟩
    ·have H:Hid (eH a=D):=by show _=_;rw[m.out,aa b1]
     have A:¬(65536:Int)<(K:Int):=by omega
     rcases bg r with⟨z,e⟩|⟨d5,d2,e⟩
     ·cases e
      have cB:D=⟨#[]⟩:=by
       apply mG
       have:D.data.size=0:=C
       exact Array.eq_empty_of_size_eq_zero this
      have dd:(convert 22 9 (.slice none 0 0)).run Tryz.prog wr= .ok (.string ⟨#[]⟩) wr:=by kernel_rfl
      clear ad L m r af C
      go_wp2_with fail
      go_ret
      exact⟨by rw[H.out,cB];rfl,a4⟩
     ·cases e
      have dd:=Bf r
      clear ad L m af C
      go_wp2_with fail
      go_ret
      exact⟨by rw[H.out];rfl,a4⟩
 ·have cz:(bt !=0)=true:=by rw[lq];exact z
  have a5:=cK F
  have cu:Hid (eH a=⟨#[]⟩):=by show _=_;unfold eH;rw[aa (by rw[G.out];exact z)]
  clear z
  go_wp2_with fail
  go_ret
  exact⟨by rw[cu.out];rfl,B.trans (((ag _ w1).alloc (ah _) _).mono B.size)⟩
end Go.Proofs.YtkfgnpcanadjhaaGreatDoor
namespace Go.Proofs.YtkfgnpcanadjhaaGreatDoor
open Go.RowKit
theorem acr{S:List Int}{n:Nat}(hS:yB S)(b:S.length=n)(e:1<=n):S.getD (n-1) 0≠(n:Int)↔S.getD (n-1) 0<(n:Int):=by
 obtain⟨c,a⟩:=bC b (show n-1<n by omega)
 have d:=hS _ c a
 rw[aL,a,fH]
 omega
open Go.Maps Go.WideMaps
theorem oI{b:World}{a:Nat}{d:List Nd}{L:List Im}{base:Nat}{g:Value}(c:Nat)(h:Tp b d L base g){t i:Nat}(m:i<d.length)(n:(ae d i).k=(c:Int)){f:FuncId}{e:ByteArray}(p:Pw b a f #[vP a,fJ b t,nV (jo L i)] e)(l:(Gk a)[c]?=some (mv a f):=by rfl)(o:c<43:=by decide)(j:∀(args:Array Value) (w:World),(callFunc f args).run Tryz.prog w= .ok (.enter f args) w:=by intro args w;kernel_rfl):zH b a L t i e:=abG b a d L base g h t i m c n o f l j e p
