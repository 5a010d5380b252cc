import Derived.Test.YtnoojdbdapljoaaGreatDoorRows
import Derived.LaidMore
import Derived.LaidSub
import Derived.OpenVars
import Derived.Stop.Joined
import Derived.Test.YtnoojdbdapljoaaGreatDoorHOk07
import Derived.Test.YtnoojdbdapljoaaGreatDoorHOk10
import Derived.Test.YtnoojdbdapljoaaGreatDoorHOk08
import Derived.Test.YtnoojdbdapljoaaGreatDoorHOk25
set_option linter.all false
set_option maxRecDepth 100000
set_option maxHeartbeats 12800000
open Go.RowKit renaming Below->M,intOf->A2
open Option renaming some->S,none->Ax
open Go.Value renaming int->T,string->V,slice->Z,slice->A4
open Go.IntKind renaming i64->U
open Go renaming World->X,Value->A1,Calls->A3,TypeId->A5
open Go.Proofs.Tryz renaming prog->Y
open Go.Obj renaming cells->A0
namespace Go.Proofs.YtnoojdbdapljoaaGreatDoor
open Go.ChangeShapes Go.WideShapes Go.ChangeAt Go.WideMaps Go.WideElems Go.RowKit
theorem Ba{H:Type}{enc:A5×A1->H}{P:Program}{w:X}{base:Nat}{B:Nat->Bool}{u:Bool}{fuel:Nat}{t e:A5}{n:Nat}{cs:List A1}{d:List (List UInt8)}{p:List MemPlace}
  (z:P.underlying t=S (.array n e)) (r:P.underlying e=S .string) (m:P.cellsOf e=1) (q:P.cellsOf t=n)
  (h:DataW.trod enc P w base B u fuel t cs=S (.agg (d.map fun b=> .lit (.string b)),p)):cs=d.map fun b=>Value.string ⟨b.toArray⟩:=by
 obtain⟨C,F,rfl,f,x,A,s⟩:=DataW.trod_array z h;simp only[oc,DataW.agg.injEq]at f;have y:d.length=n:=by have:=congrArg List.length f.1;simpa [A] using this
 apply List.ext_getElem (by simp[x,q,y]);intro a l E;have v:a<n:=by omega
 have g:=s a v;rw[m,tw,aI (by omega)]at g;obtain⟨i,j,k,_⟩:=DataW.trod_string r g;have o:cs[a]= .string i:=by
  have:((cs.drop a).take 1)[0]?=S (.string i):=by rw[j];rfl
  simpa [lc,px,aI l] using this
 have c:(C.map (·.1))[a]?=(d.map fun b=>(DataW.lit (.string b):DataW H))[a]?:=by rw[f.1]
 rw[cj,cj,aI (by omega),aI (by omega)]at c;simp only[ym,gg]at c;rw[k]at c;simp only[DataW.lit.injEq,Lit.string.injEq]at c;rw[o,List.getElem_map,<-c]
theorem own:ownKnob Tryz.prog.godebug=Ax:=by kernel_rfl
theorem Js:laidOutB Y=true:=by kernel_rfl
end Go.Proofs.YtnoojdbdapljoaaGreatDoor
namespace Go.Proofs.YtnoojdbdapljoaaGreatDoor
open Go.RowKit
structure En where
 nm:ByteArray
 ln:Int
 dp:Int
 nd:Int
def pL:ByteArray:=⟨#[]⟩
def ajD(c:List Nd)(e:En):Prop:=∃(b:Nat) (a:Nd),e.nd=(b:Int)/\c[b]?=S a/\a.k=36/\a.l=e.ln
def Ll(a:List Nd)(e:En):Int:=(a.getD e.nd.toNat AB).f
def xw(N:Nd):Bool:=decide (N.k=36)
structure af6 (ns:List Nd) (O:List En):Prop where
 ok:∀e∈O,ajD ns e
 inc:(O.map (Ll ns)).Pairwise (· <·)
 pos:∀z∈O.map (Ll ns),0<=z
 cnt:O.length=ns.countP xw
open Go.Maps Go.WideMaps
def GB(e:En):List A1:=[V e.nm,T U e.ln,T U e.dp,T U e.nd]
def uy(a:List En):List A1:=a.flatMap GB
theorem Fg(a b:List En):uy (a++b)=uy a++uy b:=mj
theorem Jt:∀(a:List En)(j:Nat)(e:En),a[j]?=S e->∀t,t<4->(uy a)[j*4+t]?=(GB e)[t]?
 |[],j,e,h,t,b=>by simp at h
 |x::a,0,e,h,t,b=>by
  simp at h;subst h;show(GB x++uy a)[0*4+t]?=_;rw[Nat.zero_mul,od,ie (by show t<4;exact b)]
 |x::a,j+1,e,h,t,b=>by
  show(GB x++uy a)[(j+1)*4+t]?=_;rw[gc (by show 4<=_;omega),show(j+1)*4+t-(GB x).length=j*4+t by show _-4=_;omega];exact Jt a j e (by simpa using h) t b
def ez(base:Nat)(b:X)(v:A1)(a:List En):Prop:=b.ownsRow base 37 4 v a.length (uy a)
theorem ez.form{base:Nat}{d:X}{v:A1}{b:List En}(h:ez base d v b):∃a c,v= Z a b.length c:=bI h
theorem ez.formn{base n:Nat}{d:X}{v:A1}{b:List En}(h:ez base d v b)(e:b.length=n):∃a c,v= Z a n c:=by subst e;exact bI h
theorem ez.below{base:Nat}{a b:X}{v:A1}{c:List En}(h:ez base a v c)(d:M a.heap.size a b):ez base b v c:=aG h d
theorem ez.nil(base:Nat)(a:X):ez base a (Z Ax 0 0) []:=bk _ _ _ _
theorem ez.le{base b:Nat}{a:X}{v:A1}{c:List En}(h:ez base a v c)(d:b<=base):ez b a v c:=jL h d
theorem ez.get{base n c:Nat}{b:X}{a:Option Addr}{d:List En}(h:ez base b (Z a n c) d){j:Nat}{e:En}(l:d[j]?=S e):
  ∃g,a=S ⟨g,0,Ax⟩/\n=d.length/\b.cell? ⟨g,j*4,Ax⟩=S (V e.nm)/\b.cell? ⟨g,j*4+1,Ax⟩=S (T U e.ln)/\b.cell? ⟨g,j*4+2,Ax⟩=S (T U e.dp)/\b.cell? ⟨g,j*4+3,Ax⟩=S (T U e.nd)/\g<b.heap.size:=by
 have v:j<d.length:=(List.getElem?_eq_some_iff.1 l).1;have o:b.ownsRow base 37 4 (Z a n c) d.length (uy d):=h;rcases o.2 with⟨_,t⟩|⟨g,r,s,m,u,k,x,w,y,q⟩
 ·omega
 ·cases m;have i:∀f,f<4->b.cell? ⟨g,j*4+f,Ax⟩=(GB e)[f]?:=fun f p=>by
   rw[az _ _ _ _ _ _ k,<-Jt d j e l f p,<-q,List.getElem?_take_of_lt (by omega)];simp
  exact⟨g,rfl,rfl,i 0 (by omega),i 1 (by omega),i 2 (by omega),i 3 (by omega),ax k⟩
theorem acA:(Tryz.prog.info? 37).map (fun i=>(i.zero,i.size,i.bytes))=S (S (.agg #[V ⟨#[]⟩,T U 0,T U 0,T U 0]),4,40):=by kernel_rfl
theorem Ju(e:En):∀u∈GB e,u.oneCell'=true:=fun u a=>by
 unfold GB at a;simp only[iF,ld,lh]at a;rcases a with rfl|rfl|rfl|rfl<;>rfl
theorem Jv(w:X)(nm:ByteArray)(a b c:Int):∀j u,(GB ⟨nm,a,b,c⟩)[j]?=S u->(w.alloc (A0 #[V nm,T U a,T U b,T U c] 37)).cell? ((⟨w.heap.size,0,Ax⟩:Addr).add j)=S u:=
 World.news_of_block (cs:=#[V nm,T U a,T U b,T U c]) (fr:=(0,0)) (aw w _)
theorem uz(w:X)(a:Nat)(b:w.heap.size=a)(e:En):∀j u,(GB e)[j]?=S u->(w.alloc (A0 #[V e.nm,T U e.ln,T U e.dp,T U e.nd] 37)).cell? ((⟨a,0,Ax⟩:Addr).add j)=S u:=by
 subst b;exact Jv w e.nm e.ln e.dp e.nd
theorem rI{w:X}{m:Array Oper}{n:List Oper}{g:Oper}{a:Act}{k:Exit->Act->X->Prop}(t:g.guard=Ax)(s x:Operand)
  (A:g.op= .call {callee:= .builtin .append,args:=#[s,x],argTypes:=#[30,30]}) (base:Nat) (v:A1) (b:List En) (F:a.eval s=v)
  (B:ez base w v b) (p:base<=w.heap.size) (i:Addr) (c:Nat) (e:En) (G:a.eval x= .slice (S i) 1 c) (z:∀j u,(GB e)[j]?=S u->w.cell? (i.add j)=S u) (L:b.length<=4194304) (r:Nat) (E:b.length+1=r)
  (h:∀d f w1,ez base w1 (.slice d r f) (b++[e])->w.grownBy w1 v.ownBlock->((A4 d r f).ownBlock=v.ownBlock\/(A4 d r f).ownBlock=S w.heap.size)->wpList Y m k n (a.put g.dst (.slice d r f)) w1):
  wpList Y m k (g::n) a w:=by
 subst E;obtain⟨K,y,H,I,J⟩:=dC acA;have C:w.ownsRow base 37 4 v b.length (uy b):=B;refine wpList_append_own_at _ t s x 30 A base 37 K _ 4 40 Tryz.underlying30 y H I J rfl (by decide) v _ _ F C i 1 c (GB e) G rfl z (Ju e) (by unfold maxLen;omega) (by omega) p ?_;intro af w1 l q _ o;obtain⟨d,f,rfl⟩:=bI l;exact h d f w1 (by unfold ez;rw[aC,Fg];show w1.ownsRow _ _ _ _ _ (uy b++(GB e++[]));rw[dA];exact l) q o
theorem ez.grown{base:Nat}{w w1:X}{v:A1}{e:List En}(h:ez base w v e)(a:base<=w.heap.size)(b:w.grownBy w1 v.ownBlock):M base w w1:=
 (aj base w).grown b a (fun d c=>(h.lt d c).1)
theorem acB{a:List Nd}{i:Nat}{N:Nd}(h:a[i]?=S N):(a.take (i+1)).countP xw=(a.take i).countP xw+(if N.k=36 then 1 else 0):=by
 rw[dG,h,List.countP_append];show _+[N].countP xw=_;rw[List.countP_singleton];unfold xw;by_cases b:N.k=36<;>simp[b]
structure ajE (w:X) (Q:List Nd->Prop) (O:List Nd->List En) (D:List Nd->ByteArray):Prop where
 q:∀ns,Q ns->ns.length<=1048576/\af6 ns (O ns)
 io:∀W v ns,M w.heap.size w W->cg W v ns->Q ns->A3 Y 6 #[.agg #[v]] W fun e w'=>∃vo,e= .returned vo/\ez W.heap.size w' vo (O ns)/\M W.heap.size W w'
 so:∀W v ns,M w.heap.size w W->cg W v ns->Q ns->A3 Y 7 #[.agg #[v]] W fun e w'=>∃vo,e= .returned vo/\ez W.heap.size w' vo (O ns)/\M W.heap.size W w'
 id:∀W v ns,M w.heap.size w W->cg W v ns->Q ns->A3 Y 8 #[.agg #[v]] W fun e w'=>e= .returned (.string (D ns))/\M W.heap.size W w'
 sd:∀W v ns,M w.heap.size w W->cg W v ns->Q ns->A3 Y 9 #[.agg #[v]] W fun e w'=>e= .returned (.string (D ns))/\M W.heap.size W w'
theorem Hh{b:Nat}{a:X}{v:A1}{t:A5}(h:a.heap[b]?=S (A0 #[v] t (0,0))):a.cell? ⟨b,0,Ax⟩=S v:=by
 rw[az _ _ _ _ _ _ h];rfl
structure Ol (w:X) (tb n cv m:Nat) (av ao aS:Option Addr) (co cS:Nat) (ns:List Nd) (O:List En) (W:X):Prop where
 bel:M w.heap.size w W
 t:W.heap[tb]?=S (.cells #[.slice av n cv] 25 (0,0))
 nd:cg W (.slice av n cv) ns
 o:ez 0 W (.slice ao m co) O
 s:ez 0 W (.slice aS m cS) O
 n_:ns.length=n
 m_:O.length=m
 p:af6 ns O
theorem Ol.below{w b d:X}{q n k m j i:Nat}{g f e:Option Addr}{l:List Nd}{c:List En}(h:Ol w q n k m g f e j i l c b)(a:M b.heap.size b d):Ol w q n k m g f e j i l c d:=
 ⟨h.bel.trans (a.mono h.bel.size),(a.block _ (ax h.t)).trans h.t,h.nd.below a,h.o.below a,h.s.below a,h.n_,h.m_,h.p⟩
def atF(b:List Nd)(a:List En):Nat->Int
 |0=> -1
 |j+1=>((a.map (Ll b))[j]?).getD 0
theorem ajF{a:List Nd}{b:List En}(h:af6 a b){j:Nat}{e:En}(i:b[j]?=S e):∃(x:Nat) (N:Nd),e.nd=(x:Int)/\a[x]?=S N/\N.k=36/\N.l=e.ln/\atF a b j<N.f/\atF a b (j+1)=N.f:=by
 obtain⟨x,N,d,g,o,p⟩:=h.ok e (bC i);have q:Ll a e=N.f:=by
  unfold Ll;rw[d,show((x:Int)).toNat=x by omega,bm,g];rfl
 have c:(b.map (Ll a))[j]?=S N.f:=by rw[cj,i,<-q];rfl
 refine⟨x,N,d,g,o,p,?_,by show((b.map (Ll a))[j]?).getD 0=_;rw[c];rfl⟩;cases j with
 |zero=>
  have:=h.pos _ (bC c);show -1<_;omega
 |succ j=>
  obtain⟨r,m⟩:=List.getElem?_eq_some_iff.1 c;have n:(b.map (Ll a))[j]?=S ((b.map (Ll a))[j]'(by omega)):=aI _;show((b.map (Ll a))[j]?).getD 0<_;rw[n,<-m];exact List.pairwise_iff_getElem.1 h.inc j (j+1) (by omega) r (by omega)
theorem sG{a:Nat}{w b:X}(h:M a w b)(n:Nat):M a w (b.drewN n):=⟨h.os,h.tape,h.output,h.size,h.block⟩
theorem af7(w:X)(a:Obj):M w.heap.size w (w.alloc a):=(aj _ w).alloc (ah _) a
theorem Bb(w:X)(df:Option Addr)(F cap:Nat)(f2:F<=9223372036854775807){c8:List Nd->Prop}{ad:List Nd->List En}{D:List Nd->ByteArray}(c7:ajE w c8 ad D)
  (e2:F<=1048576->A3 Y 5 #[Z df F cap] w fun e L=>∃s:ByteArray,e= .returned (V s)/\s.size<=1048576/\M w.heap.size w L)
  (e4:∀w1 (s:ByteArray),s.size<=1048576->M w.heap.size w w1->∃c a h,c8 h/\A3 Y 4 #[V s] w1 fun e L=>∃v,e= .returned (.agg #[T U c,T U a,v])/\cg L v h/\M w1.heap.size w1 L):
  A3 Y 3 #[Z df F cap] w fun e L=>e= .returned (.bool true)/\M w.heap.size w L:=by
 by_cases fq:1048576<F
 ·have eq:(1048576:Int)<(F:Int):=by omega
  go_in;go_wp2_with fail;go_ret;exact⟨rfl,aj _ _⟩
 have eq:¬(1048576:Int)<(F:Int):=by omega
 have e3:=e2 (by omega);have z:=dx c7 e4;clear e2 e4 c7;go_in;go_wp2_with fail;refine e3.mono ?_;rintro e w1 ⟨s,rfl,et,a8⟩;obtain⟨c,a,h,a3,e5⟩:=z.out.2 w1 s et a8;clear e3;go_wp2_with fail;refine e5.mono ?_;rintro e bs ⟨v,rfl,j,dk⟩;have g3:∀(f5 f6 e9:A1)(w:X),(Instr.field 27 (.agg #[f5,f6,e9]) 2).run Y w= .ok (.agg #[e9]) w:=fun _ _ _ _=>by kernel_rfl
 obtain⟨x,cf⟩:=aA h.length;obtain⟨A,B,rfl⟩:=j.form;rw[cf]at j⊢;have G:=tI (a8.trans (dk.mono a8.size)) j a3 cf;clear e5 a8 dk j a3 cf et eq fq f2;go_wp2_with fail;obtain⟨f9,ex⟩:=aA (bs.alloc (A0 #[Z A x B] 25));have a5:=aw bs (A0 #[Z A x B] 25);have a9:=af7 bs (A0 #[Z A x B] 25);rw[ex]at a5 a9⊢;obtain⟨c0,ev⟩:=aA bs.heap.size;rw[ev]at a5⊢;have a7:=G.out.1.trans (a9.mono G.out.1.size);have bE:=G.out.2.1.below a9;refine(z.out.1.io f9 _ h a7 bE G.out.2.2.1).mono ?_;rintro e gb ⟨hg,rfl,b9,bb⟩;obtain⟨u,ce⟩:=aA (ad h).length;obtain⟨fe,fg,rfl⟩:=b9.formn ce;have c2:=a7.trans (bb.mono a7.size);have cB:=(bb.block _ (ax a5)).trans a5;have fk:=Hh cB;have i:=aez c2 cB (bE.below bb) (b9.le (be _)) ce G.out.2.2;clear ex a9 a5 ev a7 bE b9 bb c2 cB ce G;go_wp2_with fail;refine(z.out.1.so gb _ h i.out.1 i.out.2.2.1 i.out.2.2.2.2.2.1).mono ?_;rintro e c1 ⟨hh,rfl,ca,af⟩;obtain⟨fc,ff,rfl⟩:=ca.formn i.out.2.2.2.2.1;have bA:Ol w c0 x B u A fe fc fg ff h (ad h) c1:=⟨i.out.1.trans (af.mono i.out.1.size),(af.block _ (ax i.out.2.1)).trans i.out.2.1,i.out.2.2.1.below af,i.out.2.2.2.1.below af,ca.le (be _),i.out.2.2.2.2.2.2,i.out.2.2.2.2.1,(z.out.1.q h i.out.2.2.2.2.2.1).2⟩;have fn:=Hh bA.t;have H:=gD bA i.out.2.2.2.2.2.1 ((z.out.1.q h i.out.2.2.2.2.2.1).1);clear bA ca af i fk;have g7:x<=1048576:=by rw[<-H.out.1.n_];exact H.out.2.2
 go_wp2_with fail;go_loopw [6,26] (fun fo cm wr=>∃g:Nat,cm= T U g/\g<=x/\fo= T U ((h.take g).countP xw:Nat)/\Hid (M c1.heap.size c1 wr)) (fun _ cm _=>x-(A2 cm).toNat)
 case atStart=>exact⟨0,rfl,be _,rfl,aj _ _⟩
 case round=>
  obtain⟨g,rfl,fA,rfl,o⟩:=hrel;have d:=H.out.1.below o.out;by_cases a1:g<x
  ·obtain⟨m,j⟩:=bj d.n_ a1;obtain⟨fb,cb,f8,f7,cc⟩:=d.nd.get j;subst cb;obtain⟨bd,b0,dp,b6,dq,ds,dz,d9,ea,bp,bn⟩:=cc;obtain⟨gr,gt,rfl⟩:=bp.form;obtain⟨gm,gs,rfl⟩:=bn.form;have cl:=acB j;have f1:(h.take g).countP xw<=g:=bz List.countP_le_length (List.length_take_le _ _);obtain⟨hc,a3⟩:=aA ((h.take g).countP xw);rw[a3]at cl f1⊢;have c6:=aq cl;have fz:(g:Int)<(x:Int):=by omega
   have g4:(0:Int)<=(g:Int):=by omega
   clear cl j d a3 bp bn;have am:=fun ct=>aq (o.out.trans ((af7 wr ct).mono o.out.size));by_cases I:m.k=36
   ·have bf:(m.k==36)=true:=by rw[gn];exact I
    have bx:=aq I;clear I;go_wp2_with fail;go_roundw
    case rel=>exact⟨g+1,by go_num,by omega,by rw[c6.out,ab bx.out];go_num,(am _).out⟩
    case measure=>simp[A2];omega
   ·have bf:(m.k==36)=false:=by rw[bg];exact I
    have bx:=aq I;clear I;go_wp2_with fail;go_roundw
    case rel=>exact⟨g+1,by go_num,by omega,by rw[c6.out,aa bx.out];rfl,(am _).out⟩
    case measure=>simp[A2];omega
  ·obtain rfl:g=x:=by omega
   have b8:(h.take g).countP xw=u:=by rw[<-d.m_,d.p.cnt,cw (by rw[d.n_];exact ah _)]
   rw[b8];have fz:¬(g:Int)<(g:Int):=by omega
   have g6:u<=g:=by rw[<-b8];exact bz List.countP_le_length (List.length_take_le _ _)
   have c5:=aq d;have gv:((u:Int)!=(u:Int))=false:=by simp
   obtain⟨bt,rfl⟩:∃bt,bt=wr:=⟨_,rfl⟩;clear d o b8 a1 fA fn;go_wp2_with fail;go_loopw [9,48] (fun gf cp wr=>∃k:Nat,cp= T U k/\k<=u/\gf= T U (atF h (ad h) k)/\Hid (M bt.heap.size bt wr)) (fun _ cp _=>u-(A2 cp).toNat)
   case atStart=>exact⟨0,rfl,be _,rfl,aj _ _⟩
   case round=>
    obtain⟨k,rfl,f0,rfl,o⟩:=hrel;have d:=c5.out.below o.out;have bF:=Hh d.t;by_cases a1:k<u
    ·obtain⟨e,bl⟩:=bj d.m_ a1;obtain⟨gz,rfl, -,e6,e7,p2,e8,fr⟩:=d.o.get bl;obtain⟨g0,rfl, -,cu,cx,cy,cz,fu⟩:=d.s.get bl;obtain⟨y,m,ef,j,bf,eg,eh,ei⟩:=ajF d.p bl;obtain⟨fb,cb,f8,f7,cc⟩:=d.nd.get j;subst cb;have g8:y<g:=by rw[<-d.n_];exact(List.getElem?_eq_some_iff.1 j).1
     obtain⟨K,hf,J,hd⟩:=e;simp only at e6 e7 p2 e8 cu cx cy cz ef eg;subst ef eg;obtain⟨ge,e0⟩:=aA (atF h (ad h) k);rw[e0]at eh⊢;have fa:=aq ei;obtain⟨bd,b0,dp,b6,dq,ds,dz,d9,ea,bp,bn⟩:=cc;rw[bf]at bd;have fB:(k:Int)<(u:Int):=by omega
     have g5:(0:Int)<=(k:Int):=by omega
     have ha:(y:Int)<(g:Int):=by omega
     have g9:(0:Int)<=(y:Int):=by omega
     have hb:¬m.f<=ge:=by omega
     have am:=fun ct=>aq (o.out.trans ((af7 wr ct).mono o.out.size));have f3:=ax d.t;clear bl j e0 ei d bp bn dp dq ds dz d9 ea bf eh;go_wp2_with fail;have dn:=af7 wr (A0 #[V K,T U m.l,T U J,T U (y:Int)] 37);have br:=aw wr (A0 #[V K,T U m.l,T U J,T U (y:Int)] 37);have c3:=am (A0 #[V K,T U m.l,T U J,T U (y:Int)] 37);obtain⟨a6,eF⟩:=aA (wr.alloc (A0 #[V K,T U m.l,T U J,T U (y:Int)] 37));obtain⟨ar,ep⟩:=aA wr.heap.size;have r:=fun (a:Addr) (v:A1) (q:wr.cell? a=S v)=>(cell_kept dn q:(wr.alloc (A0 #[V K,T U m.l,T U J,T U (y:Int)] 37)).cell? a=S v);rw[eF]at r br c3⊢;rw[ep]at br⊢;have ap:=fun f4=>az a6 ar f4 _ _ _ br;have hj:a6.cell? ⟨ar,0,Ax⟩=S (V K):=ap 0;have hl:a6.cell? ⟨ar,1,Ax⟩=S (T U m.l):=ap 1;have ho:a6.cell? ⟨ar,2,Ax⟩=S (T U J):=ap 2;have hp:a6.cell? ⟨ar,3,Ax⟩=S (T U (y:Int)):=ap 3;replace cu:=r _ _ cu;replace cx:=r _ _ cx;replace cy:=r _ _ cy;replace cz:=r _ _ cz;replace bd:=r _ _ bd;replace b0:=r _ _ b0;replace b6:=r _ _ b6;replace bF:=r _ _ bF;clear ap r dn br eF ep am e6 e7 p2 e8 fr fu f3 o;go_quiet (fail)
     go_wp2_with fail;go_roundw
     case rel=>exact⟨k+1,by go_num,by omega,by rw[fa.out],sG c3.out _⟩
     case measure=>simp[A2];omega
    ·obtain rfl:k=u:=by omega
     have fB:¬(k:Int)<(k:Int):=by omega
     obtain⟨gu,em⟩:=aA (D h);have cq:=fun (n:X) (q:M wr.heap.size wr n)=>z.out.1.id n (Z A g B) h (d.bel.trans (q.mono d.bel.size)) (d.nd.below q) H.out.2.1;have cs:=fun (n:X) (q:M wr.heap.size wr n)=>z.out.1.sd n (Z A g B) h (d.bel.trans (q.mono d.bel.size)) (d.nd.below q) H.out.2.1;have a4:∀n,M wr.heap.size wr n->n.cell? ⟨c0,0,Ax⟩=S (Z A g B)/\M wr.heap.size wr n:=fun n q=>⟨cell_kept q bF,q⟩;have b:M wr.heap.size wr wr.drew:=sG (aj _ wr) 1;have c4:=aq d.bel;rw[em]at cq cs;clear z H c5 o d a1 f0 em;go_wp2_with fail;go_region_held3 (fun c9=>c9.cell? ⟨c0,0,Ax⟩=S (Z A g B)/\M wr.heap.size wr c9) (first|exact a4 _ b|exact a4 _ (b.trans (E.mono b.size))|exact a4 _ (b.trans (C.mono b.size))|exact a4 _ ((b.trans (E.mono b.size)).trans (C.mono (b.trans (E.mono b.size)).size))|exact a4 _ ((b.trans (C.mono b.size)).trans (E.mono (b.trans (C.mono b.size)).size))|go_keep) (first|(go_at_call 8;(first|refine(cq _ (b.trans (C.mono b.size))).mono ?_|refine(cq _ b).mono ?_);rintro e wq ⟨rfl,E⟩)|(go_at_call 9;(first|refine(cs _ (b.trans (E.mono b.size))).mono ?_|refine(cs _ b).mono ?_);rintro e gd ⟨rfl,C⟩))
     all_goals first
      |(have el:M wr.heap.size wr gd:=(b.trans (E.mono b.size)).trans (C.mono (b.trans (E.mono b.size)).size))
      |(have el:M wr.heap.size wr wq:=(b.trans (C.mono b.size)).trans (E.mono (b.trans (C.mono b.size)).size))
     all_goals
      go_wp2_with fail;go_ret;exact⟨rfl,c4.out.trans (el.mono c4.out.size)⟩
theorem GA.pos{tk:Nat->Tk}{n k j:Nat}{a:List ByteArray}(h:GA tk n k a j):k<=j/\j<n:=by
 induction h with
 |stop _ h=>exact⟨ah _,h⟩
 |go _ _ _ _ b=>omega
theorem Prm.pos{tk:Nat->Tk}{n k j:Nat}{a:List ByteArray}{r:Bool}(h:Prm tk n k a r j):k+1<=j/\j<n:=by
 induction h with
 |close _ h=>omega
 |rest _ _ h=>omega
 |last _ _ h=>omega
 |go _ _ _ _ b=>omega
def iz:tq->Nat
 | .more _ _ _=>0
 | .post _ _=>0
 | .moreE=>0
 | .moreB=>0
 | .stats=>0
 | .entries=>0
 |_=>1
def slk:tq->Nat
 | .more _ _ _=>0
 | .post _ _=>0
 | .moreE=>0
 | .moreB=>0
 | .stats=>0
 | .entries=>0
 | .entry=>1
 | .stat=>1
 | .branch=>1
 |_=>2
def bas:tq->Nat
 | .more _ _ x=>x.sz
 | .post _ x=>x.sz
 |_=>0
theorem af8(N:Nd)(ks:Fo)(s:Tk)(e:Int):(jG N ks s e).sz<=(one N ks).sz+1:=by
 unfold jG;split
 ·rw[aJ];omega
 ·omega
theorem P.pos{tk:Nat->Tk}{n i j:Nat}{t:tq}{R:Fo}(h:P tk n t i R j):i+iz t<=j/\j<n/\R.sz+slk t+3*i<=bas t+3*j:=by
 induction h
 case bopen i k j N ks R h1 h2 h3 h4 h5 h6 ih1 ih2=>
  have:=af8 N ks (tk i) (tk k).t;simp only[iz,slk,bas,aJ,Fo.sz_app,Fo.sz]at *;omega
 case body h1 h2 h3 h4 ih=>
  have:=h3.pos;simp only[iz,slk,bas,aJ,Fo.sz_app,Fo.sz]at *;omega
 case tlet0 h1 h2 h3 h4 h5=>have:=h4.pos;simp only[iz,slk,bas,aJ,Fo.sz_app,Fo.sz]at *;omega
 case tlet h1 h2 h3 h4 h5 h6 ih=>have:=h4.pos;simp only[iz,slk,bas,aJ,Fo.sz_app,Fo.sz]at *;omega
 case tfor h1 h2 h3 h4 h5 h6 h7 ih1 ih2=>have:=h4.pos;simp only[iz,slk,bas,aJ,Fo.sz_app,Fo.sz]at *;omega
 case teach h1 h2 h3 h4 h5 h6 h7 h8 h9 ih1 ih2=>have:=h4.pos;simp only[iz,slk,bas,aJ,Fo.sz_app,Fo.sz]at *;omega
 case ttry h1 h2 h3 h4 h5 h6 h7 h8 ih1 ih2=>have:=h7.pos;simp only[iz,slk,bas,aJ,Fo.sz_app,Fo.sz]at *;omega
 all_goals
  simp only[iz,slk,bas,aJ,Fo.sz_app,Fo.sz]at *;omega
theorem Lm(a:List ByteArray)(k:Nat)(s:ByteArray)(h:a[k]?=S s):kF (a.take (k+1))=kF (a.take k)+s.size:=by
 induction a generalizing k with
 |nil=>simp at h
 |cons b a c=>
  cases k with
  |zero=>simp at h;subst h;simp[kF]
  |succ k=>have:=c k (by simpa using h);show b.size+kF (a.take (k+1))=b.size+kF (a.take k)+s.size;omega
theorem af9(a:List ByteArray)(k:Nat):kF (a.take k)<=kF a:=by
 induction a generalizing k with
 |nil=>simp
 |cons b a c=>
  cases k with
  |zero=>exact be _
  |succ k=>have:=c k;show b.size+kF (a.take k)<=b.size+kF a;omega
theorem acC(g c m:Nat)(x:ByteArray)(d:List ByteArray)(w:X)(t:d.length=m+1)(z:w.cell? ⟨g,0,Ax⟩=S (V x))(A:∀(j:Nat) y,d[j]?=S y->w.cell? ⟨g,j+1,Ax⟩=S (V y))(bt:m<=4194304)(ce:m+2<=c)(a2:(x++dI d).size<=70368744177664):
  A3 Y 42 #[Z (S ⟨g,0,Ax⟩) (m+2) c,V ⟨#[32]⟩] w fun e bF=>e= .returned (V (x++dI d))/\M w.heap.size w bF:=by
 have H:=dx z A;have a1:(x++dI d).size=(m+1)+(x.size+kF d):=by rw[ag,sI,t];omega
 obtain⟨f,u⟩:∃f,f=x::d:=⟨_,rfl⟩;have a3:∀(j:Nat) y,f[j]?=S y->w.cell? ⟨g,j,Ax⟩=S (V y):=fun j y C=>by
  subst u;cases j with
  |zero=>simp at C;subst C;exact z
  |succ j=>exact A j y (by simpa using C)
 have a4:f.length=m+2:=by rw[u,di,t]
 have a5:kF f=x.size+kF d:=by rw[u];rfl
 have i:Hid ((∀(j:Nat) y,f[j]?=S y->w.cell? ⟨g,j,Ax⟩=S (V y))/\f.length=m+2/\kF f=x.size+kF d/\d.length=m+1/\(x++dI d).size=(m+1)+(x.size+kF d)/\(x++dI d).size<=70368744177664):=⟨a3,a4,a5,t,a1,a2⟩;have cl:(m:Int)<=4194304:=by omega
 have cm:(0:Int)<=(m:Int):=by omega
 have cn:(1:Int)<9223372036854775807 / ((m:Int)+2-1):=by
  have:(2:Int)<=9223372036854775807 / ((m:Int)+2-1):=Int.le_ediv_of_mul_le (by omega) (by omega);omega
 have b8:((m:Int)+2==0)=false:=by rw[bg];omega
 have b9:((m:Int)+2==1)=false:=by rw[bg];omega
 clear z A a1 u a3 a4 a5 t a2 bt;go_in;go_wp2_with fail;go_loopw [5,41] (fun bE o wr=>∃a:Nat,a<=m+2/\o= T U a/\bE= T U ((m:Int)+1+(kF (f.take a):Nat))/\wr=w) (fun _ o _=>m+2-(A2 o).toNat)
 case atStart=>exact⟨0,by omega,rfl,by first|rfl|(congr 1;omega)|(congr 1;simp[kF];omega),rfl⟩
 case round=>
  obtain⟨a,bp,rfl,rfl,rfl⟩:=hrel;by_cases B:a<m+2
  ·obtain⟨l,n⟩:=bj i.out.2.1 B;have cf:=i.out.1 a l n;have q:=Lm f a l n;have r:=af9 f (a+1);have bs:(a:Int)<(m:Int)+2:=by omega
   have br:(0:Int)<=(a:Int):=by omega
   have bw:=i.out;obtain⟨_,_,bx,_,bA,bD⟩:=bw;have k:=aq q;rw[q]at r;generalize kF (f.take a)=b0 at r k⊢;have ca:(b0:Int)+(l.size:Int)<=70368744177664:=by omega
   clear q bx bA bD n r;go_wp2_with fail;exact⟨⟨a+1,by omega,by go_num,by rw[k.out];congr 1;omega,by trivial⟩,by simp[A2];omega⟩
  ·obtain rfl:a=m+2:=by omega
   obtain⟨b,rfl⟩:∃b,b=wr:=⟨wr,rfl⟩;obtain⟨p,hS⟩:∃p:Nat,(m+1)+kF f=p:=⟨_,rfl⟩;have ak:(m:Int)+1+((kF (f.take (m+2)):Nat):Int)=(p:Int):=by
    rw[cw (by rw[i.out.2.1];exact ah _)];omega
   have b1:=aq hS;have bn:p<=70368744177664:=by have:=i.out;omega
   have am:0<p:=by omega
   rw[ak];clear hS ak;have a6:=Ff b.heap.size b.heap.size p (b.alloc (A0 #[.pointer Ax,Z Ax 0 0] 68)) (ah _) (aw b _) (by simp) (by omega) am;go_wp2_with fail;refine a6.mono ?_;rintro e F ⟨rfl,af,ao⟩;have a0:M b.heap.size b (b.alloc (A0 #[.pointer Ax,Z Ax 0 0] 68)):=(aj _ b).alloc (ah _) _;have s:M b.heap.size b F:=a0.trans ao;have I:Bu b.heap.size b.heap.size ⟨#[]⟩ F:= .inr af;have bl:=cell_kept s H.out.1;have co:x.size<=70368744177664:=by have:=i.out;omega
   clear a6 af ao a0;have a7:=s.size;have E:=kJ b.heap.size b.heap.size ⟨#[]⟩ x F I (by show 0+x.size<=_;omega) a7;rw[rD]at E;have bf:=aq s;clear I a7 s;go_wp2_with fail;refine E.mono ?_;rintro e a8 ⟨rfl,J,ap⟩;have G:Hid (Bu b.heap.size b.heap.size x a8/\M b.heap.size b a8):=⟨J,bf.out.trans ap⟩;clear J ap E bl bn am;have cb:(1:Int)<=(m:Int)+2:=by omega
   have cc:(m:Int)+2<=(c:Int):=by omega
   go_wp2_with fail;go_loopw [65] (fun o wq=>∃a:Nat,a<=m+1/\o= T U a/\Hid (Bu b.heap.size b.heap.size (x++dI (d.take a)) wq/\M b.heap.size b wq)) (fun o _=>m+1-(A2 o).toNat)
   case atStart=>exact⟨0,by omega,rfl,by rw[iG,show x++dI []=x from oq x];exact G.out.1,G.out.2⟩
   case round=>
    obtain⟨a,bp,rfl,h⟩:=hrel;by_cases B:a<m+1
    ·obtain⟨l,n⟩:=bj i.out.2.2.2.1 B;have ad:=cell_kept h.out.2 (H.out.2 a l n);rw[Nat.add_comm a 1]at ad;have q:=sH d a l n;have r:=lJ d (a+1);have k:Hid (dI (d.take (a+1))=dI (d.take a)++(iI++l)/\(x++dI (d.take (a+1))).size<=70368744177664):=⟨q,by have:=i.out.2.2.2.2.2;rw[ag]at this⊢;omega⟩;have bs:(a:Int)<(m:Int)+2-1:=by omega
     have ck:(a:Int)<(m:Int)+1:=by omega
     have br:(0:Int)<=(a:Int):=by omega
     clear q r n;go_wp2_with fail;refine(kJ _ _ _ iI _ h.out.1 (by have:=k.out.2;rw[k.out.1]at this;simp only[ag]at this⊢;omega) h.out.2.size).mono ?_;rintro e a9 ⟨rfl,K,ar⟩;have v:Hid (Bu b.heap.size b.heap.size (x++dI (d.take a)++iI) a9/\M b.heap.size b a9):=⟨K,h.out.2.trans ar⟩;clear K ar ad h;go_wp2_with fail;refine(kJ _ _ _ l _ v.out.1 (by have:=k.out.2;rw[k.out.1]at this;simp only[ag]at this⊢;omega) v.out.2.size).mono ?_;rintro e bb ⟨rfl,L,av⟩;have bd:Hid (Bu b.heap.size b.heap.size (x++dI (d.take (a+1))) bb/\M b.heap.size b bb):=⟨by rw[k.out.1,<-aF,<-aF];exact L,v.out.2.trans av⟩;clear L av;go_wp2_with fail;exact⟨⟨a+1,by omega,by go_num,bd⟩,by simp[A2];omega⟩
    ·obtain rfl:a=m+1:=by omega
     have an:d.take (m+1)=d:=cw (by rw[i.out.2.2.2.1];exact ah _);rw[an]at h;clear an;go_wp2_with fail;refine(ta _ _ _ _ h.out.1 h.out.2.size).mono ?_;rintro e cp ⟨rfl,b7,bo⟩;go_wp2_with fail;go_ret;exact⟨rfl,h.out.2.trans bo⟩
