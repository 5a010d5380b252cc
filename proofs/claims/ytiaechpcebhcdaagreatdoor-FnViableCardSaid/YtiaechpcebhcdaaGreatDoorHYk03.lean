import Derived.Test.YtiaechpcebhcdaaGreatDoorRows
import Derived.LaidMore
import Derived.LaidSub
import Derived.OpenVars
import Derived.Stop.Joined
import Derived.Test.YtiaechpcebhcdaaGreatDoorHYk02
import Derived.Lib.ItoaLen
import Derived.Lib.Join
import Derived.Laws.AppendOwnNone
set_option linter.all false
set_option maxRecDepth 100000
set_option maxHeartbeats 6400000
open Go.Proofs.Tryz renaming prog->M
open Go.Ending renaming returned->Q
open Go renaming World->R,Calls->Ax,Value->A0,TypeId->A6
open Go.Value renaming string->S,int->T,pointer->X,bool->Y,slice->Br,string->B0,iface->B1,tuple->B2,agg->B3
open Go.IntKind renaming i64->V
open Option renaming some->A2,none->A5
open Bool renaming true->A3,false->A9
namespace Go.Proofs.YtiaechpcebhcdaaGreatDoor
open Go.ChangeShapes Go.WideShapes Go.ChangeAt Go.WideMaps Go.WideElems Go.RowKit
def Gc{H:Type}{enc:A6×A0->H}{P:Program}{w:R}{base:Nat}{A:Nat->Bool}{u:Bool}{fuel:Nat}{t e:A6}{n:Nat}{cs:List A0}{d:List (List UInt8)}{p:List MemPlace}
  (ht:P.underlying t=A2 (.array n e)) (r:P.underlying e=A2 .string) (m:P.cellsOf e=1) (q:P.cellsOf t=n)
  (h:DataW.trod enc P w base A u fuel t cs=A2 (.agg (d.map λb=> .lit (.string b)),p)):cs=d.map λb=>B0 ⟨b.toArray⟩:=by
 obtain⟨B,E,rfl,f,x,z,s⟩:=DataW.trod_array ht h;simp only[pA,DataW.agg.injEq]at f;have y:d.length=n:=by have:=congrArg List.length f.1;simpa [z] using this
 apply List.ext_getElem (by simp[x,q,y]);intro a l C;have v:a<n:=O;have g:=s a v;rw[m,wL,bi O]at g;have⟨i,j,k,_⟩:=DataW.trod_string r g;have o:cs[a]= .string i:=by
  have:((cs.drop a).take 1)[0]?=A2 (.string i):=by rw[j];rfl
  simpa [zk,C1,bi l] using this
 have c:(B.map (·.1))[a]?=(d.map λb=>(DataW.lit (.string b):DataW H))[a]?:=by rw[f.1]
 rw[dw,dw,bi O,bi O]at c;simp only[xa,iL]at c;rw[k]at c;simp only[DataW.lit.injEq,Lit.string.injEq]at c;rw[o,List.getElem_map,<-c]
def own:ownKnob Tryz.prog.godebug=A5:=J
def IE:laidOutB M=A3:=J
end Go.Proofs.YtiaechpcebhcdaaGreatDoor
namespace Go.Proofs.YtiaechpcebhcdaaGreatDoor
open Go.RowKit
def DH(s:Bz)(ak:s.size<=4100)(w:R):
  Ax M 68 #[S s] w λe t=>e= Q (S (gL (jl s)))/\Below w.heap.size w t:=by
 go_in;go_wp2;go_loopw [4,5] (λA r wr=>∃b g:Nat,b<=s.size/\r= T V b/\wr.ownsRow w.heap.size 5 1 A g (B8 (qt s b))/\Below w.heap.size w wr) (λ_ r _=>s.size-(intOf r).toNat)
 case atStart=>exact⟨0,1,nH,rfl,AB w 34,(ai _ _).alloc cJ _⟩
 case round=>
  obtain⟨b,g,u,rfl,h,c⟩:=hrel;have x:=zD h;have z:=Ix s b u;have ag:g<=20000:=O;clear x z;by_cases y:b<s.size
  .have i:Hid (qt s (b+1)=qt s b++esc (s[b].toNat:Int)):=Iu s b y;obtain⟨a,q⟩:∃a:Int,a=(s[b].toNat:Int):=⟨_,rfl⟩;have L:0<=a:=O;have ad:a<256:=by have:=s[b].toNat_lt;omega
   rw[<-q]at i;have af:∀w,(Instr.index 9 (S s) (T V (b:Int))).run M w= .ok (T .u8 a) w:=by
    intro w;rw[q];go_simp
   clear q;by_cases m:a=10
   .subst m;go_wp2_with (at_builtin;refine nB rfl (.tmp 24) (.tmp 25) rfl w.heap.size _ g (qt s b) rfl h c.size O [92,110] 2 rfl Z Z _ rfl rfl ?_;intro k j w1 f d);go_roundw
    case rel=>exact⟨b+1,_,O,by go_num,by rw[i.out];exact f,c.trans d⟩
    case measure=>simp[intOf];omega
   have E:(a==10)=A9:=U;by_cases n:a=9
   .subst n;go_wp2_with (at_builtin;refine nB rfl (.tmp 30) (.tmp 31) rfl w.heap.size _ g (qt s b) rfl h c.size O [92,116] 2 rfl Z Z _ rfl rfl ?_;intro k j w1 f d);go_roundw
    case rel=>exact⟨b+1,_,O,by go_num,by rw[i.out];exact f,c.trans d⟩
    case measure=>simp[intOf];omega
   have F:(a==9)=A9:=U;by_cases o:a=34
   .subst o;go_wp2_with (at_builtin;refine nB rfl (.tmp 40) (.tmp 42) rfl w.heap.size _ g (qt s b) rfl h c.size O [92,34] 2 rfl Z Z _ rfl rfl ?_;intro k j w1 f d);go_roundw
    case rel=>exact⟨b+1,_,O,by go_num,by rw[i.out];exact f,c.trans d⟩
    case measure=>simp[intOf];omega
   have G:(a==34)=A9:=U;by_cases p:a=92
   .subst p;go_wp2_with (at_builtin;refine nB rfl (.tmp 40) (.tmp 42) rfl w.heap.size _ g (qt s b) rfl h c.size O [92,92] 2 rfl Z Z _ rfl rfl ?_;intro k j w1 f d);go_roundw
    case rel=>exact⟨b+1,_,O,by go_num,by rw[i.out];exact f,c.trans d⟩
    case measure=>simp[intOf];omega
   have H:(a==92)=A9:=U;by_cases e5:a<32\/126<a
   .have l:Hid (esc a=[92,120,xD (a / 16),xD (a%16)]):=by unfold esc Hid;grind
    clear m n o p;have al:=ag1 (a / 16) O O;have am:=ag1 (a%16) O O;have K:=atf a O O;rcases e5 with e5|e5;all_goals
     go_wp2_with fail;go_region_held3 (λt=>True) (trivial) ((refine adv byR _ _ byR w.heap.size _ g (qt s b) byR h c.size O [92,120,_,_] 4 byR Z Z _ byR byR ?_;intro k j w1 f d))
     all_goals
      go_wp2;go_roundw
      case rel=>exact⟨b+1,_,O,by go_num,by rw[i.out,l.out];omega,c.trans O⟩
      case measure=>simp[intOf];omega
   .have l:Hid (esc a=[a]):=by unfold esc Hid;grind
    have B:¬a<32:=O;have C:¬126<a:=O;clear m n o p e5;go_wp2_with (at_builtin;refine nB rfl (.tmp 17) (.tmp 19) rfl w.heap.size _ g (qt s b) rfl h c.size O [a] 1 rfl Z Z _ rfl rfl ?_;intro k j w1 f d);go_roundw
    case rel=>exact⟨b+1,_,O,by go_num,by rw[i.out,l.out];omega,c.trans d⟩
    case measure=>simp[intOf];omega
  .have v:b=s.size:=O;subst v;go_wp2_with (at_builtin;refine nB rfl (.tmp 62) (.tmp 63) rfl w.heap.size _ g (qt s s.size) rfl h c.size O [34] 1 rfl Z Z _ rfl rfl ?_;intro k j w1 f d;have an:=oF f);go_ret;exact⟨rfl,c.trans d⟩
def afv(s:Bz)(b:s.size<=4000)(w:R):
  Ax M 68 #[S s] w λe a=>e= Q (S (gL (jl s)))/\Below w.heap.size w a:=DH s O w
def DI:Array A0:=⟨[26,1,2,10,2,3,73,3,4,74,3,4,75,3,4,76,3,4,77,3,4,78,3,4,72,4,4,68,5,6,69,6,7,67,7,8,70,8,9,71,8,9,61,9,10,62,9,10,63,10,11,64,10,11,65,10,11,66,10,11].map (Value.int V)⟩
def sI:List Int:=[26,10,73,74,75,76,77,78,72,68,69,67,70,71,61,62,63,64,65,66]
def zI(k:Nat):Int:=match DI.getD k (T V 0) with| .int _ a=>a|_=>0
def aoA(k:Nat)(a:k<20)(w:R):(Instr.index 195 (B3 DI) (T V (k:Int))).run M w= .ok (B3 #[T V (sI.getD k 0),T V (zI (3*k+1)),T V (zI (3*k+2))]) w:=by
 iterate 20 (obtain _|k:=k;· kernel_rfl)
 omega
def ndD:Nd:=⟨0,0,0,0,0,0,ByteArray.empty,[],[]⟩
def nodeI(ns:List Nd)(i:Int):Nd:=ns.getD i.toNat ndD
open Go.Maps Go.WideMaps
def aoB(s:Bz):Bz:=gL (jl s)
def abD(x:List Int):(gL x).size=x.length:=by
 have d:∀(x:List Int)(a:Bz),(x.foldl (λb e=>b.push (UInt8.ofNat e.toNat)) a).size=a.size+x.length:=by
  intro x
  induction x with
  |nil=>grind
  |cons f b c=>intro a;show(b.foldl _ (a.push _)).size=_;rw[c];simp;omega
 have:=d x ByteArray.empty;unfold gL
 simp_all
def afw(s:Bz):(aoB s).size<=2+4*s.size:=by
 rw[aoB,abD];unfold jl;have:=Ix s s.size cJ;grind
def DJ(l:List Int):∀r:Bz,(l.foldl (λr n=>r.push (UInt8.ofNat n.toNat)) r).data.toList=r.data.toList++l.map (λn=>UInt8.ofNat n.toNat):=by
 induction l with
 |nil=>grind
 |cons a l b=>simp_all
def GF(l:List Int):(gL l).data.toList=l.map (λn=>UInt8.ofNat n.toNat):=by
 rw[gL,DJ,show ByteArray.empty.data.toList=[] from rfl,dI]
def afx(s:Bz)(i:Nat):ae s i=((s.data.toList[i]?).map (λb=>(b.toNat:Int))).getD (-1):=by
 unfold ae;by_cases a:i<s.size
 .rw[pG a,bi byS];rfl
 simp_all
def ahn(l:List Int)(h:∀x∈l,0<=x/\x<256)(i:Nat):ae (gL l) i=(l[i]?).getD (-1):=by
 rw[afx,GF,dw,Option.map_map];by_cases a:i<l.length
 .rw[bi a];have:=h _ (xd a);simp only[xa,jF,Function.comp];rw[UInt8.toNat_ofNat'];omega
 grind
def fK(s:Bz):List Int:=s.data.toList.map λa=>(a.toNat:Int)
def abE(s:Bz):(fK s).length=s.size:=by simp[fK]
def IF(d:Int)(a:0<=d)(b:d<16:=by omega):32<=xD d/\xD d<=126:=by unfold xD;omega
def aoC(c:Int)(d:0<=c)(e:c<256):∀x∈esc c,32<=x/\x<=126:=by
 unfold esc;split
 .simp
 split
 .simp
 split
 .grind
 split
 .have a:=IF (c / 16) O;have b:=IF (c%16) O;grind
 grind
def adB(s:Bz)(k:Nat)(h:k<s.size):0<=(s[k].toNat:Int)/\(s[k].toNat:Int)<256:=by have:=s[k].toNat_lt;omega
def anF(s:Bz):∀k,k<=s.size->∀x∈qt s k,32<=x/\x<=126
 |0,_=>by simp[qt]
 |k+1,h=>by
  intro x hx;rw[Iu s k O,xg]at hx;rcases hx with hx|hx
  .exact anF s k O x hx
  .exact aoC _ (adB s k O).1 (adB s k O).2 x hx
def aho(s:Bz):∀x∈jl s,32<=x/\x<=126:=by
 intro x hx;rw[jl,xg]at hx;rcases hx with hx|hx
 .exact anF s s.size cJ x hx
 grind
def N23(st:List Int):Prop:=∀a∈st,a≠2/\a≠3
def c23(s t:Int):Bool:=match fi 8 [s] t 0 with|some (b,_,_)=>b.all (λa=>decide (a≠2/\a≠3))|none=>A3
def alo:((List.range 34).all λs=>(List.range 78).all λt=>c23 ((s:Int)+100) ((t:Int)+1))=A3:=by rfl
def e23(s:Int):Bool:=decide (((xE s 2).1=[]/\(xE s 2).2=A3)↔((xE s 3).1=[]/\(xE s 3).2=A3))&&match fi 8 [s] 2 0,fi 8 [s] 3 0 with|some (_,some a,_),some (_,some b,_)=>a==b|_,_=>A3
def alp:((List.range 34).all λs=>e23 ((s:Int)+100))=A3:=by rfl
def abF{t:Int}(j:1<=t)(f:t<=78):∀(st:List Int),yu st->N23 st->N23 (feedL st t).1
 |[],_,h=>by rw[feedL];exact h
 |s::r,o,h=>by
  have c:N23 r:=λa hx=>h a (dC _ hx);have i:=o s bH;by_cases g:s<100
  .rw[jw g];exact c
  by_cases b:(xE s t).1=[]/\(xE s t).2=A3
  .rw[mA O b];exact abF j f r (λa hx=>o a (dC _ hx)) c
  .obtain⟨l,k,m,e,_⟩:=vC O i O f b;have d:=List.all_eq_true.1 (List.all_eq_true.1 alo (s-100).toNat U) (t-1).toNat U;rw[(O:(((s-100).toNat:Nat):Int)+100=s),(O:(((t-1).toNat:Nat):Int)+1=t)]at d;unfold c23 at d;rw[mC O b e];rw[e]at d;intro a hx;rcases List.mem_append.1 hx with hx|hx
   .grind
   .exact c a hx
def anG:∀(st:List Int),yu st->N23 st->(feedL st 2).2=(feedL st 3).2
 |[],_,h=>by rfl
 |s::r,o,h=>by
  have i:=o s bH;by_cases g:s<100
  .have:=h s bH;rw[jw g,jw g,aG this.1,aG this.2]
  have d:=List.all_eq_true.1 alp (s-100).toNat U;rw[(O:(((s-100).toNat:Nat):Int)+100=s)]at d;rw[e23,cH]at d;have e:=be d.1;by_cases a:(xE s 2).1=[]/\(xE s 2).2=A3
  .rw[mA O a,mA O (e.1 a)];exact anG r (λf c=>o f (dC _ c)) (λf c=>h f (dC _ c))
  .have⟨n,l,q,j,_⟩:=vC O i O O a;have⟨p,m,u,k,_⟩:=vC (t:=3) O i O O (λb=>a (e.2 b));rw[mC O a j,mC O (λb=>a (e.2 b)) k];grind
def fH(k:Int):Nat:=
 if k=2\/k=3\/k=4\/k=9\/k=10\/k=14 then 0
 else if k=5 then 1
 else if k=23 then 2
 else if k=24\/k=25\/k=26\/k=33\/k=42 then 3
 else if k=30\/k=31 then 4
 else if k=36 then 5
 else 6
def rL:Nat->A6
 |0=>153
 |1=>156
 |2=>159
 |3=>162
 |4=>165
 |5=>168
 |_=>107
def yv:Nat->A6
 |0=>155
 |1=>158
 |2=>161
 |3=>164
 |4=>167
 |5=>170
 |_=>110
def exT(N:Nd)(vn:A0):Nat->List A0
 |0=>[vn]
 |1=>[T V N.n]
 |2=>[T V N.n]
 |3=>[S N.x]
 |4=>[T V N.op]
 |5=>[vn,Y (decide (N.op=1))]
 |_=>[]
def ie(W:R)(b:Nat)(N:Nd)(vn:A0)(c:Int)(a:A0):Prop:=
 W.heap[b]?=A2 (.cells ([T V N.k,T V N.f,T V N.t,T V N.l,T V c,a]++exT N vn (fH N.k)).toArray (yv (fH N.k)) (0,0))
def ig(k:Int)(b:Nat):A0:= B1 (rL (fH k)) (X (A2 ⟨b,0,A5⟩))
def abG(w:R)(N:Nd)(vn vk:A0)(hn:∃a n c,vn= Br a n c)(q:∃a n c,vk= Br a n c):
  Ax M 138 #[jA N vn vk] w λe o=>e= Q (ig N.k (w.heap.size+1+1))/\ie o (w.heap.size+1+1) N vn 0 (Br A5 0 0)/\Below w.heap.size w o:=by
 obtain⟨r,v,t,rfl⟩:=hn;obtain⟨s,x,u,rfl⟩:=q;unfold jA;obtain⟨b,y,F,A,E,B,G,C,z⟩:=N;have l:∀d f j,Below w.heap.size w (((w.alloc d).alloc f).alloc j):=λd f j=>(((ai _ w).alloc cJ d).alloc I f).alloc byT j;have m:∀d f (g:Array A0) (h:A6),(((w.alloc d).alloc f).alloc (.cells g h)).heap[w.heap.size+1+1]?=A2 (.cells g h (0,0)):=λd f g h=>by
  have:=ay ((w.alloc d).alloc f) (.cells g h)
  simp_all
 unfold ie ig;simp only;by_cases i:b=2\/b=3\/b=4\/b=9\/b=10\/b=14\/b=5\/b=23\/b=24\/b=25\/b=26\/b=33\/b=42\/b=30\/b=31\/b=36
 .rcases i with rfl|rfl|rfl|rfl|rfl|rfl|rfl|rfl|rfl|rfl|rfl|rfl|rfl|rfl|rfl|rfl;all_goals
   go_in;go_wp2;go_ret;exact⟨rfl,m _ _ _ _,l _ _ _⟩
 .have p:fH b=6:=by unfold fH;grind
  simp only[not_or]at i;obtain⟨_,_,_,_,_,_,_,_,_,_,_,_,_,_,_,_⟩:=i;rw[p];go_in;go_wp2;go_ret;exact⟨rfl,m _ _ _ _,l _ _ _⟩
def jf(b:Nat)(w:R):Ax M 308 #[X (A2 ⟨b,0,A5⟩)] w λe a=>e= Q (X (A2 ⟨b,0,A5⟩))/\a=w:=by
 go_in;go_wp2;go_ret
 simp_all
def pi(N:Nd):Nat->Nd
 |0=>⟨N.k,N.f,N.t,N.l,0,0,⟨#[]⟩,N.nm,[]⟩
 |1=>⟨N.k,N.f,N.t,N.l,0,N.n,⟨#[]⟩,[],[]⟩
 |2=>⟨N.k,N.f,N.t,N.l,0,N.n,⟨#[]⟩,[],[]⟩
 |3=>⟨N.k,N.f,N.t,N.l,0,0,N.x,[],[]⟩
 |4=>⟨N.k,N.f,N.t,N.l,N.op,0,⟨#[]⟩,[],[]⟩
 |5=>⟨N.k,N.f,N.t,N.l,(if N.op=1 then 1 else 0),0,⟨#[]⟩,N.nm,[]⟩
 |_=>⟨N.k,N.f,N.t,N.l,0,0,⟨#[]⟩,[],[]⟩
def uL(vn:A0):Nat->A0
 |0=>vn
 |5=>vn
 |_=> Br A5 0 0
def anH(b:Nat)(w:R)(d:A6)(h:d=153\/d=156\/d=159\/d=162\/d=165\/d=168\/d=107):(method 435 d (X (A2 ⟨b,0,A5⟩)) "loop.example/warp/impl.head").run M w= .ok (308,X (A2 ⟨b,0,A5⟩)) w:=by rcases h with rfl|rfl|rfl|rfl|rfl|rfl|rfl<;>kernel_rfl
def aoD(k:Nat):rL k=153\/rL k=156\/rL k=159\/rL k=162\/rL k=165\/rL k=168\/rL k=107:=by
 unfold rL;grind
def GG(k b:Nat)(w:R):(method 435 (rL k) (X (A2 ⟨b,0,A5⟩)) "loop.example/warp/impl.head").run M w= .ok (308,X (A2 ⟨b,0,A5⟩)) w:=anH b w _ (aoD k)
def asT(b:Nat)(w:R)(d:A6)(h:d=153\/d=156\/d=159\/d=162\/d=165\/d=168\/d=107):(Instr.typeAssert (B1 d (X (A2 ⟨b,0,A5⟩))) 54 d A3).run M w= .ok (B2 #[X (A2 ⟨b,0,A5⟩),Y A3]) w:=by rcases h with rfl|rfl|rfl|rfl|rfl|rfl|rfl<;>kernel_rfl
def asF(b:Nat)(w:R)(d e:A6)(h:d=153\/d=156\/d=159\/d=162\/d=165\/d=168\/d=107)(g:e=153\/e=156\/e=159\/e=162\/e=165\/e=168\/e=107)(hn:d≠e):(Instr.typeAssert (B1 d (X (A2 ⟨b,0,A5⟩))) 54 e A3).run M w= .ok (B2 #[X A5,Y A9]) w:=by
 rcases h with rfl|rfl|rfl|rfl|rfl|rfl|rfl;all_goals
  rcases g with rfl|rfl|rfl|rfl|rfl|rfl|rfl;all_goals first|exact absurd rfl hn|kernel_rfl
def ahp(base:Nat)(W:R)(v:A0)(xs:List Bz):Prop:=W.ownsRow base 9 1 v xs.length (xs.map B0)
def ahp.form{base:Nat}{W:R}{v:A0}{xs:List Bz}(h:ahp base W v xs):∃a c,v= Br a xs.length c:=cG h
def ahp.below{base:Nat}{W a:R}{v:A0}{xs:List Bz}(h:ahp base W v xs)(b:Below W.heap.size W a):ahp base a v xs:=bz h b
def ahq:(Tryz.prog.info? 9).map (λi=>(i.zero,i.size,i.bytes))=A2 (A2 (S ⟨#[]⟩),1,16):=J
def aoE(z:Int)(w:R):(Instr.typeAssert (B1 41 (B3 #[T V z])) 20 41 A3).run M w= .ok (B2 #[B3 #[T V z],Y A3]) w:=J
def aoF(w:R):(Instr.typeAssert .nilIface 20 41 A3).run M w= .ok (B2 #[B3 #[T V 0],Y A9]) w:=J
def wB:Nat->Bz
 |0=>⟨#[115,116,97,116]⟩
 |1=>⟨#[98,108,111,99,107]⟩
 |2=>⟨#[101,108,115,101]⟩
 |3=>⟨#[101,120,112,114]⟩
 |4=>⟨#[98,97,115,101]⟩
 |5=>⟨#[116,97,114,103,101,116]⟩
 |6=>⟨#[99,97,108,108]⟩
 |7=>⟨#[109,97,110,121]⟩
 |8=>⟨#[102,110]⟩
 |_=>⟨#[101,110,116,114,121]⟩
def ms:Nat->Int->Bool
 |0,k=>ll k
 |1,k=>k==1
 |2,k=>k==1||k==7
 |3,k=>io k
 |4,k=>io k&&k !=27
 |5,k=>k==26||k==32||k==33
 |6,k=>k==34
 |7,k=>k==34||k==27
 |8,k=>k==36
 |_,k=>decide (40<=k/\k<=42)
def DK(k:Int)(w:R):Ax M 262 #[T V k] w λe c=>e= Q (Y (io k))/\c=w:=by
 unfold io;rcases((O:(20<=k/\k<=37)\/(20<=k/\¬k<=37)\/¬20<=k)) with⟨h1,b⟩|⟨h1,b⟩|h1
 .rw[dB ⟨h1,b⟩];go_in;go_wp2;go_ret
  simp_all
 .rw[aG (λa=>b a.2)];go_in;go_wp2;go_ret
  simp_all
 .rw[aG (λa=>h1 a.1)];go_in;go_wp2;go_ret
  simp_all
def afy(k:Int)(w:R):Ax M 241 #[S ⟨#[115,116,97,116]⟩,T V k] w λe b=>e= Q (Y (ms 0 k))/\b=w:=by
 rcases((O:(1<=k/\k<=16)\/(1<=k/\¬k<=16)\/(¬1<=k))) with⟨h0,a⟩|⟨h0,a⟩|h0
 .rw[show ms 0 k=A3 from dto];go_in;go_wp2;go_ret
  simp_all
 .rw[show ms 0 k=A9 from dfo];go_in;go_wp2;go_ret
  simp_all
 .rw[show ms 0 k=A9 from dfo];go_in;go_wp2;go_ret
  simp_all
def afz(k:Int)(w:R):Ax M 241 #[S ⟨#[98,108,111,99,107]⟩,T V k] w λe a=>e= Q (Y (ms 1 k))/\a=w:=by
 unfold ms;go_in;go_wp2;go_ret
 simp_all
def afA(k:Int)(w:R):Ax M 241 #[S ⟨#[101,108,115,101]⟩,T V k] w λe a=>e= Q (Y (ms 2 k))/\a=w:=by
 unfold ms;rcases((O:(k=1)\/(k=7)\/(¬k=1/\¬k=7))) with rfl|rfl|⟨b,c⟩
 .go_in;go_wp2;go_ret
  simp_all
 .go_in;go_wp2;go_ret
  simp_all
 .go_in;go_wp2;go_ret
  simp_all
def afB(k:Int)(w:R):Ax M 241 #[S ⟨#[101,120,112,114]⟩,T V k] w λe a=>e= Q (Y (ms 3 k))/\a=w:=by
 have b:=λw=>DK k w;have⟨d,c⟩:=aw (io k);show Ax _ _ _ _ λe a=>e= Q (Y (io k))/\a=w;rw[c]at b⊢;go_in;go_wp2_with (go_at_call 262;refine eE (b _) ?_);go_ret
 simp_all
def afC(k:Int)(w:R):Ax M 241 #[S ⟨#[98,97,115,101]⟩,T V k] w λe b=>e= Q (Y (ms 4 k))/\b=w:=by
 have a:=λw=>DK k w;have⟨c,d⟩:=aw (io k);show Ax _ _ _ _ λe b=>e= Q (Y (io k&&k !=27))/\b=w;rw[d]at a⊢;cases c
 .rw[gJ];go_in;go_wp2_with (go_at_call 262;refine eE (a _) ?_);go_ret
  simp_all
 .rw[gK];go_in;go_wp2_with (go_at_call 262;refine eE (a _) ?_);go_ret
  simp_all
def afD(k:Int)(w:R):Ax M 241 #[S ⟨#[116,97,114,103,101,116]⟩,T V k] w λe a=>e= Q (Y (ms 5 k))/\a=w:=by
 unfold ms;rcases((O:(k=26)\/(k=32)\/(k=33)\/(¬k=26/\¬k=32/\¬k=33))) with rfl|rfl|rfl|⟨b,c,d⟩
 .go_in;go_wp2;go_ret
  simp_all
 .go_in;go_wp2;go_ret
  simp_all
 .go_in;go_wp2;go_ret
  simp_all
 .go_in;go_wp2;go_ret
  simp_all
def afE(k:Int)(w:R):Ax M 241 #[S ⟨#[99,97,108,108]⟩,T V k] w λe a=>e= Q (Y (ms 6 k))/\a=w:=by
 unfold ms;go_in;go_wp2;go_ret
 simp_all
def afF(k:Int)(w:R):Ax M 241 #[S ⟨#[109,97,110,121]⟩,T V k] w λe a=>e= Q (Y (ms 7 k))/\a=w:=by
 unfold ms;rcases((O:(k=34)\/(k=27)\/(¬k=34/\¬k=27))) with rfl|rfl|⟨b,c⟩
 .go_in;go_wp2;go_ret
  simp_all
 .go_in;go_wp2;go_ret
  simp_all
 .go_in;go_wp2;go_ret
  simp_all
def afG(k:Int)(w:R):Ax M 241 #[S ⟨#[102,110]⟩,T V k] w λe a=>e= Q (Y (ms 8 k))/\a=w:=by
 unfold ms;go_in;go_wp2;go_ret
 simp_all
def afH(k:Int)(w:R):Ax M 241 #[S ⟨#[101,110,116,114,121]⟩,T V k] w λe b=>e= Q (Y (ms 9 k))/\b=w:=by
 rcases((O:(40<=k/\k<=42)\/(40<=k/\¬k<=42)\/(¬40<=k))) with⟨h0,a⟩|⟨h0,a⟩|h0
 .rw[show ms 9 k=A3 from dto];go_in;go_wp2;go_ret
  simp_all
 .rw[show ms 9 k=A9 from dfo];go_in;go_wp2;go_ret
  simp_all
 .rw[show ms 9 k=A9 from dfo];go_in;go_wp2;go_ret
  simp_all
def IG(i:Nat)(a:i<10)(k:Int)(w:R):Ax M 241 #[S (wB i),T V k] w λe b=>e= Q (Y (ms i k))/\b=w:=by
 match i,a with
 |0,_=>exact afy k w
 |1,_=>exact afz k w
 |2,_=>exact afA k w
 |3,_=>exact afB k w
 |4,_=>exact afC k w
 |5,_=>exact afD k w
 |6,_=>exact afE k w
 |7,_=>exact afF k w
 |8,_=>exact afG k w
 |9,_=>exact afH k w
