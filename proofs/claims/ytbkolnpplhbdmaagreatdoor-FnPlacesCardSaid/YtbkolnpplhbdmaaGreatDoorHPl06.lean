import Derived.Test.YtbkolnpplhbdmaaGreatDoorRows
import Derived.LaidMore
import Derived.LaidSub
import Derived.OpenShut
import Derived.OpenVars
import Derived.Stop.Joined
import Derived.Test.YtbkolnpplhbdmaaGreatDoorHPl05
set_option linter.all false
set_option maxRecDepth 100000
set_option maxHeartbeats 6400000
open Option renaming some->M,none->Ak
open Go.Proofs.Tryz renaming prog->O
open Go.Value renaming int->Q,slice->T,string->Ad,bool->A3,agg->A5
open Go.IntKind renaming i64->S
open Go renaming World->U,Calls->Z,Value->A0
open Go.RowKit renaming intOf->Y,Hid->A2
open Bool renaming false->Ax,true->A1
namespace Go.Proofs.YtbkolnpplhbdmaaGreatDoor
open Go.ChangeShapes Go.WideShapes Go.ChangeAt Go.WideMaps Go.WideElems Go.RowKit
def FC{H:Type}{enc:TypeId×A0->H}{P:Program}{w:U}{base:Nat}{A:Nat->Bool}{u:Bool}{fuel:Nat}{t e:TypeId}{n:Nat}{cs:List A0}{d:List (List UInt8)}{p:List MemPlace}
  (ht:P.underlying t=M (.array n e)) (r:P.underlying e=M .string) (m:P.cellsOf e=1) (q:P.cellsOf t=n)
  (h:DataW.trod enc P w base A u fuel t cs=M (.agg (d.map λb=> .lit (.string b)),p)):cs=d.map λb=>Value.string ⟨b.toArray⟩:=by
 obtain⟨B,E,rfl,f,x,z,s⟩:=DataW.trod_array ht h;simp only[jo,DataW.agg.injEq]at f;have y:d.length=n:=by have:=congrArg List.length f.1;simpa [z] using this
 apply List.ext_getElem (by simp[x,q,y]);intro a l C;have v:a<n:=by omega
 have g:=s a v;rw[m,sH,aw (by omega)]at g;have⟨i,j,k,_⟩:=DataW.trod_string r g;have o:cs[a]= .string i:=by
  have:((cs.drop a).take 1)[0]?=M (.string i):=by rw[j];rfl
  simpa [nh,pE,aw l] using this
 have c:(B.map (·.1))[a]?=(d.map λb=>(DataW.lit (.string b):DataW H))[a]?:=by rw[f.1]
 rw[cD,cD,aw (by omega),aw (by omega)]at c;simp only[vD,fw]at c;rw[k]at c;simp only[DataW.lit.injEq,Lit.string.injEq]at c;rw[o,List.getElem_map,<-c]
def own:ownKnob Tryz.prog.godebug=Ak:=by kernel_rfl
def acv:laidOutB O=A1:=by kernel_rfl
end Go.Proofs.YtbkolnpplhbdmaaGreatDoor
namespace Go.Proofs.YtbkolnpplhbdmaaGreatDoor
open Go.RowKit
def aaI(s:ByteArray)(af:s.size<=4100)(w:U):
  Z O 212 #[Ad s] w λe t=>e= .returned (Ad (fH (ej s)))/\Below w.heap.size w t:=by
 go_in;go_wp2;go_loopw [4,5] (λA r wr=>∃b g:Nat,b<=s.size/\r= Q S b/\wr.ownsRow w.heap.size 5 1 A g (B8 (qt s b))/\Below w.heap.size w wr) (λ_ r _=>s.size-(Y r).toNat)
 case atStart=>exact⟨0,1,aD _,rfl,zJ w 34,(ah _ _).alloc (ag _) _⟩
 case round=>
  obtain⟨b,g,u,rfl,h,c⟩:=hrel;have x:=yo h;have z:=Hq s b u;have ad:g<=20000:=by omega
  clear x z;by_cases y:b<s.size
  .have i:A2 (qt s (b+1)=qt s b++esc (s[b].toNat:Int)):=vI s b y;obtain⟨a,q⟩:∃a:Int,a=(s[b].toNat:Int):=⟨_,rfl⟩;have J:0<=a:=by omega
   have K:a<256:=by have:=s[b].toNat_lt;omega
   rw[<-q]at i;have L:∀w,(Instr.index 9 (Ad s) (Q S (b:Int))).run O w= .ok (Q .u8 a) w:=by
    intro w;rw[q];go_simp
   clear q;by_cases k:a=10
   .subst k;go_wp2_with (at_builtin;refine ny rfl (.tmp 24) (.tmp 25) rfl w.heap.size _ g (qt s b) rfl h c.size (by omega) [92,110] 2 rfl (by decide) (by decide) _ rfl rfl ?_;intro m j w1 f d);go_roundw
    case rel=>exact⟨b+1,_,by omega,by go_num,by rw[i.out];exact f,c.trans d⟩
    case measure=>simp[Y];omega
   have E:(a==10)=Ax:=by simp[k]
   by_cases l:a=9
   .subst l;go_wp2_with (at_builtin;refine ny rfl (.tmp 30) (.tmp 31) rfl w.heap.size _ g (qt s b) rfl h c.size (by omega) [92,116] 2 rfl (by decide) (by decide) _ rfl rfl ?_;intro m j w1 f d);go_roundw
    case rel=>exact⟨b+1,_,by omega,by go_num,by rw[i.out];exact f,c.trans d⟩
    case measure=>simp[Y];omega
   have F:(a==9)=Ax:=by simp[l]
   by_cases n:a=34
   .subst n;go_wp2_with (at_builtin;refine ny rfl (.tmp 40) (.tmp 42) rfl w.heap.size _ g (qt s b) rfl h c.size (by omega) [92,34] 2 rfl (by decide) (by decide) _ rfl rfl ?_;intro m j w1 f d);go_roundw
    case rel=>exact⟨b+1,_,by omega,by go_num,by rw[i.out];exact f,c.trans d⟩
    case measure=>simp[Y];omega
   have G:(a==34)=Ax:=by simp[n]
   by_cases o:a=92
   .subst o;go_wp2_with (at_builtin;refine ny rfl (.tmp 40) (.tmp 42) rfl w.heap.size _ g (qt s b) rfl h c.size (by omega) [92,92] 2 rfl (by decide) (by decide) _ rfl rfl ?_;intro m j w1 f d);go_roundw
    case rel=>exact⟨b+1,_,by omega,by go_num,by rw[i.out];exact f,c.trans d⟩
    case measure=>simp[Y];omega
   have H:(a==92)=Ax:=by simp[o]
   by_cases e5:a<32\/126<a
   .have p:A2 (esc a=[92,120,ry (a / 16),ry (a%16)]):=by unfold esc A2;rw[aa k,aa l,aa (by omega),ab e5]
    clear k l n o;have ak:=afF (a / 16) (by omega) (by omega);have al:=afF (a%16) (by omega) (by omega);have I:=ase a (by omega) (by omega);rcases e5 with e5|e5;all_goals
     go_wp2_with fail;go_region_held3 (λt=>True) (trivial) ((refine acj (by rfl) _ _ (by rfl) w.heap.size _ g (qt s b) (by rfl) h c.size (by omega) [92,120,_,_] 4 (by rfl) (by decide) (by decide) _ (by rfl) (by rfl) ?_;intro m j w1 f d))
     all_goals
      go_wp2;go_roundw
      case rel=>exact⟨b+1,_,by omega,by go_num,by rw[i.out,p.out];assumption,c.trans (by assumption)⟩
      case measure=>simp[Y];omega
   .have p:A2 (esc a=[a]):=by unfold esc A2;rw[aa k,aa l,aa (by omega),aa e5]
    have B:¬a<32:=by omega
    have C:¬126<a:=by omega
    clear k l n o e5;go_wp2_with (at_builtin;refine ny rfl (.tmp 17) (.tmp 19) rfl w.heap.size _ g (qt s b) rfl h c.size (by omega) [a] 1 rfl (by decide) (by decide) _ rfl rfl ?_;intro m j w1 f d);go_roundw
    case rel=>exact⟨b+1,_,by omega,by go_num,by rw[i.out,p.out];exact f,c.trans d⟩
    case measure=>simp[Y];omega
  .have v:b=s.size:=by omega
   subst v;go_wp2_with (at_builtin;refine ny rfl (.tmp 62) (.tmp 63) rfl w.heap.size _ g (qt s s.size) rfl h c.size (by omega) [34] 1 rfl (by decide) (by decide) _ rfl rfl ?_;intro m j w1 f d;have an:=oD f);go_ret;exact⟨rfl,c.trans d⟩
def aeA(s:ByteArray)(b:s.size<=4000)(w:U):
  Z O 212 #[Ad s] w λe a=>e= .returned (Ad (fH (ej s)))/\Below w.heap.size w a:=aaI s (by omega) w
open Go.Maps Go.WideMaps
def aeB(w:U)(j k:A0)(l:List Int)(g:dH w j l)(h:dH w k l)(s:l.length<=1048576):
  Z O 35 #[j,k] w (jf w (A3 A1)):=by
 obtain⟨n,p,rfl⟩:=g.form;obtain⟨o,q,rfl⟩:=h.form;have⟨b,d⟩:=aC l.length;have m:=am d;have f:A2 (dH w (T n b p) l/\dH w (T o b q) l):=by rw[<-d];exact⟨g,h⟩
 rw[d]at s⊢;go_in;go_wp21
 go_loopw [13] (λe wr=>∃a:Nat,a<=b/\e= Q S a/\cg w wr) (λe _=>b-(Y e).toNat)
 case atStart=>exact⟨0,by omega,rfl,ah _ _⟩
 case round=>
  obtain⟨a,z,rfl,c⟩:=hrel;by_cases t:a<b
  .have⟨A,i⟩:=cJ m.out t;obtain⟨u,rfl,x⟩:=(f.1.below c).get i;obtain⟨v,rfl,y⟩:=(f.2.below c).get i;have r:(a:Int)<(b:Int):=by omega
   go_wp21
   go_quiet (fail)
   go_wp21
   exact⟨⟨a+1,by omega,by go_num,mq c _⟩,by simp[Y];omega⟩
  .obtain rfl:a=b:=by omega
   have r:¬(a:Int)<(a:Int):=by omega
   go_wp21
   go_ret;exact⟨rfl,c⟩
def aaJ(w:U)(j k:A0)(l:List ByteArray)(g:dz w j l)(h:dz w k l)(s:l.length<=1048576):
  Z O 34 #[j,k] w (jf w (A3 A1)):=by
 obtain⟨n,p,rfl⟩:=g.form;obtain⟨o,q,rfl⟩:=h.form;have⟨b,d⟩:=aC l.length;have m:=am d;have f:A2 (dz w (T n b p) l/\dz w (T o b q) l):=by rw[<-d];exact⟨g,h⟩
 rw[d]at s⊢;go_in;go_wp21
 go_loopw [13] (λe wr=>∃a:Nat,a<=b/\e= Q S a/\cg w wr) (λe _=>b-(Y e).toNat)
 case atStart=>exact⟨0,by omega,rfl,ah _ _⟩
 case round=>
  obtain⟨a,z,rfl,c⟩:=hrel;by_cases t:a<b
  .have⟨A,i⟩:=cJ m.out t;obtain⟨u,rfl,x⟩:=(f.1.below c).get i;obtain⟨v,rfl,y⟩:=(f.2.below c).get i;have r:(a:Int)<(b:Int):=by omega
   go_wp21
   go_quiet (fail)
   go_wp21
   exact⟨⟨a+1,by omega,by go_num,mq c _⟩,by simp[Y];omega⟩
  .obtain rfl:a=b:=by omega
   have r:¬(a:Int)<(a:Int):=by omega
   go_wp21
   go_ret;exact⟨rfl,c⟩
def gg.rd{W:U}{a:Addr}{n c k:Nat}{l:List Nd}{N:Nd}(h:gg W (T (M a) n c) l)(m:l[k]?=M N):
  ∃d i e b g ck,(W.cell? (a.add (k*9))=M (Q S N.k)/\W.cell? ⟨(a.add (k*9)).block,(a.add (k*9)).off+1,Ak⟩=M (Q S N.f)/\W.cell? ⟨(a.add (k*9)).block,(a.add (k*9)).off+2,Ak⟩=M (Q S N.t)/\W.cell? ⟨(a.add (k*9)).block,(a.add (k*9)).off+3,Ak⟩=M (Q S N.l)/\W.cell? ⟨(a.add (k*9)).block,(a.add (k*9)).off+4,Ak⟩=M (Q S N.op)/\W.cell? ⟨(a.add (k*9)).block,(a.add (k*9)).off+5,Ak⟩=M (Q S N.n)/\W.cell? ⟨(a.add (k*9)).block,(a.add (k*9)).off+6,Ak⟩=M (Ad N.x)/\W.cell? ⟨(a.add (k*9)).block,(a.add (k*9)).off+7,Ak⟩=M (T d i e)/\W.cell? ⟨(a.add (k*9)).block,(a.add (k*9)).off+8,Ak⟩=M (T b g ck))/\N.ks.length=g/\dH W (T b g ck) N.ks/\dz W (T d i e) N.nm:=by
 have⟨o,j,q,p,h⟩:=h.get m;cases j;obtain⟨d,e,rfl⟩:=h.hn.form;obtain⟨b,ck,rfl⟩:=h.hk.form;exact⟨d,_,e,b,_,ck,⟨h.c0,h.c1,h.c2,h.c3,h.c4,h.c5,h.c6,h.c7,h.c8⟩,rfl,h.hk,h.hn⟩
def ck9{W V:U}(E:cg W V){a b c d e f g i j:Addr}{p q r s t u v x l:A0}(h:W.cell? a=M p/\W.cell? b=M q/\W.cell? c=M r/\W.cell? d=M s/\W.cell? e=M t/\W.cell? f=M u/\W.cell? g=M v/\W.cell? i=M x/\W.cell? j=M l):
  V.cell? a=M p/\V.cell? b=M q/\V.cell? c=M r/\V.cell? d=M s/\V.cell? e=M t/\V.cell? f=M u/\V.cell? g=M v/\V.cell? i=M x/\V.cell? j=M l:=by
 obtain⟨m,n,o,w,y,z,A,B,C⟩:=h;have k:=λ{a v}=>cell_kept E (a:=a) (v:=v);exact⟨k m,k n,k o,k w,k y,k z,k A,k B,k C⟩
def aeC(w:U)(N:Nd)(g e h f:A0)(m:dz w g N.nm)(j:dH w e N.ks)(n2:dz w h N.nm)(k:dH w f N.ks)(x:N.nm.length<=1048576)(y:N.ks.length<=1048576):
  Z O 16 #[jI N g e,jI N h f] w (jf w (A3 A1)):=by
 have ks:=λb (a:cg w b)=>aaJ b g h N.nm (m.below a) (n2.below a) x;have l:=λb (a:cg w b)=>aeB b e f N.ks (j.below a) (k.below a) y;obtain⟨B,E,rfl⟩:=m.form;obtain⟨C,F,rfl⟩:=n2.form;obtain⟨o,r,rfl⟩:=j.form;obtain⟨p,s,rfl⟩:=k.form;unfold jI;generalize N.nm.length=A at ks⊢;generalize N.ks.length=i at l⊢;go_in;go_wp2_with fail;generalize v:(w.alloc _).alloc _=n;obtain⟨t,u,d, -⟩:=CD v;refine dt (ks n d) λw1 c=>?_;have G:w1.cell? ⟨w.heap.size,8,Ak⟩=M (T o i r):=cell_kept c ((aj _ _ _ _ _ _ t).trans rfl);have H:w1.cell? ⟨w.heap.size+1,8,Ak⟩=M (T p i s):=cell_kept c ((aj _ _ _ _ _ _ u).trans rfl);have a:=d.trans (c.mono d.size);have z:=l w1 a;go_wp2_with (go_at_call 35;refine dt z λI q=>?_);go_ret;exact⟨rfl,a.trans (q.mono a.size)⟩
def aeD(w:U)(y z:A0)(l:List Nd)(k:gg w y l)(m:gg w z l)(J:l.length<=1048576)(H:∀N∈l,N.nm.length<=1048576/\N.ks.length<=1048576):
  Z O 6 #[A5 #[y],A5 #[z]] w (jf w (A3 A1)):=by
 obtain⟨A,C,rfl⟩:=k.form;obtain⟨B,E,rfl⟩:=m.form;have⟨b,v⟩:=aC l.length;rw[v]at k m J⊢;have c:=Ft v k m H;go_in;go_wp2_with fail;generalize I:(w.alloc _).alloc _=j;obtain⟨F,G,s, -⟩:=CD I;have n:j.cell? ⟨w.heap.size,0,Ak⟩=M (T A b C):=(aj _ _ _ _ _ _ F).trans rfl;have o:j.cell? ⟨w.heap.size+1,0,Ak⟩=M (T B b E):=(aj _ _ _ _ _ _ G).trans rfl;have e:=kK s n o;go_loopw [16] (λp wr=>∃a:Nat,a<=b/\p= Q S a/\cg j wr) (λp _=>b-(Y p).toNat)
 case atStart=>exact⟨0,aD _,rfl,ah _ _⟩
 case round=>
  obtain⟨a,a6,rfl,f⟩:=hrel;have n:=cell_kept f e.2.1;have o:=cell_kept f e.2.2;have h:=e.1.trans (f.mono e.1.size);by_cases K:a<b
  .have⟨N,d⟩:=cJ c.1 K;have⟨ao,ap⟩:=c.2.2.2 N (dj d);obtain⟨a3,rfl, -⟩:=c.2.1.get d;obtain⟨s,rfl, -⟩:=c.2.2.1.get d;have⟨bb,ar,bj,bf,av,bl,al,a4,L,af⟩:=(c.2.1.below h).rd d;have⟨bd,aK,bk,bh,a0,bn,an,a5,ad,ak⟩:=(c.2.2.1.below h).rd d;have x:=aeC wr.drew N _ _ _ _ af L ak ad ao ap;unfold jI at x;have a8:(a:Int)<(b:Int):=by omega
   have a7:(0:Int)<=(a:Int):=by omega
   have u:cg wr wr.drew:=bF (ah _ wr);have a9:=λi (g:cg wr i)=>And.intro (And.intro (cell_kept g n) (cell_kept g o)) (And.intro (ck9 g al) (ck9 g an));have r:=gF h f;go_wp2_with fail;go_region_held3 (λi=>cg wr i) (first|exact u.trans t|exact u) ((go_at_call 16;refine dt x λba t=>?_))
   go_wp2;exact⟨⟨a+1,by omega,by go_num,(bF r.2).trans (t.mono r.2.size)⟩,by simp[Y];omega⟩
  .obtain rfl:a=b:=by omega
   go_wp2;go_ret;exact⟨rfl,h⟩
def nlc(s:ByteArray):Nat->Int
 |0=>0
 |p+1=>nlc s p+(if aq s p=10 then 1 else 0)
def agj(s:ByteArray):∀p,0<=nlc s p/\nlc s p<=p
 |0=>⟨Int.le_refl _,Int.le_refl _⟩
 |p+1=>by
  have:=agj s p;rw[nlc];split<;>omega
def chn(ns:List Nd)(e:Int):Int->List Int->Prop
 |_,[]=>True
 |a,k::r=>(0<=k/\k.toNat<ns.length)/\a<=(ae ns k).f/\(ae ns k).f<=(ae ns k).t/\(ae ns k).t<=e/\chn ns e (ae ns k).t r
def Km{ns:List Nd}{k:Int}(h:0<=k/\k.toNat<ns.length):∃i:Nat,k=(i:Int)/\ns[i]?=M (ae ns k):=
 ⟨k.toNat,by omega,by unfold ae;rw[aF,aw h.2];rfl⟩
def anj{ns:List Nd}{e a:Int}{ks:List Int}{j:Nat}(h:chn ns e a (ks.drop j))(b:j<ks.length):∃k:Nat,∃X,ks[j]?=M (k:Int)/\ns[k]?=M X/\a<=X.f/\X.f<=X.t/\X.t<=e/\chn ns e X.t (ks.drop (j+1)):=by
 rw[kL b]at h;have⟨g,c,d⟩:=Km h.1;exact⟨g,_,by rw[<-c];exact aw b,d,h.2⟩
def gg.fm{W:U}{v:A0}{l:List Nd}{n:Nat}(h:gg W v l)(b:l.length=n)(e:0<n):∃a c,v= T (M a) n c:=by
 rcases h with⟨rfl,_⟩|⟨a,c,d,_⟩
 .simp at b;omega
 .exact⟨a,c,b ▸ d⟩
def PaP(W:U)(ns:List Nd)(e:Ending)(b:U):Prop:=∃a,e= .returned (A5 #[Q S 0,Q S 0,a])/\gg b a ns/\cg W b
def SbV(w:U)(t:ByteArray)(X:Nd):Prop:=∃c a:Nat,X.f=(c:Int)/\X.t=(a:Int)/\c<a/\a<=t.size/\∃(ms:List Nd) (d:Nat) (f b:Nd),ms.length=d+2/\d<=1048576/\ms[d+1]?=M f/\f.ks.length=1/\ms[d]?=M b/\b.k=X.k/\b.f=0/\b.t=(a:Int)-(c:Int)/\∀e,cg w e->Z O 5 #[Ad (t.extract c a)] e (PaP e ms)
structure PlC (w:U) (t:ByteArray) (ns:List Nd) (m:Nat):Prop where
 sz:t.size<=65536
 n:ns.length=m+1
 n1:m+1<=1048576
 ln:∀N∈ns,N.nm.length<=1048576/\N.ks.length<=1048576
 l:∀N∈ns,∃f:Nat,N.f=(f:Int)/\f<=t.size/\N.l=1+nlc t f
 c:∀N∈ns,chn ns N.t N.f N.ks
 i:∀W,cg w W->Z O 5 #[.string t] W (PaP W ns)
 p:∀W,Z O 7 #[.string t] W (PaP W ns)
 s:∀R,ns[m]?=M R->∀j,j<R.ks.length->∃k:Nat,∃X,R.ks[j]?=M (k:Int)/\ns[k]?=M X/\SbV w t X
def Kn{w:U}{cd:Option Addr}{bs cp:Nat}{t:ByteArray}{ns:List Nd}{m:Nat}(d9:Z O 4 #[T cd bs cp] w (jf w (Ad t)))(H:PlC w t ns m)(gz:¬(1048576:Int)<(bs:Int)):
  Z O 3 #[T cd bs cp] w (jf w (A3 A1)):=by
 have h:=am H;have⟨d,da⟩:=aC (m+1);have dc:0<d:=by omega
 have e8:d<=1048576:=da ▸ H.n1;have e9:ns.length=d:=da ▸ H.n;have ge:(d:Int)-1=(m:Int):=by omega
 have e7:m<d:=by omega
 have ha:=H.sz;have j:=am e9;go_in;go_wp2_with fail;refine dt d9 λw1 C=>?_;have a3:=am C;have df:=h.out.i w1 C;unfold PaP at df;have c8:∀(fo fq d3:A0)(w:U),(Instr.field 28 (A5 #[fo,fq,d3]) 2).run O w= .ok (A5 #[d3]) w:=λ_ _ _ _=>by kernel_rfl
 go_wp2_with fail;refine df.mono ?_;rintro bb bE ⟨bA,rfl,ds,al⟩;obtain⟨ce,cq,rfl⟩:=ds.fm j.out dc;have I:=am (a3.out.trans (al.mono a3.out.size));have d8:=am ds;go_wp2_with fail;generalize eA:bE.alloc _=L;have⟨ep,ba,hC⟩:=al1 eA;have cl:cg L L.drew:=bF (ah _ L);have a4:=am ((I.out.trans (ba.mono I.out.size)).trans (cl.mono (by have:=I.out.size;have:=ba.size;omega)));have bw:L.drew.cell? ⟨bE.heap.size,0,Ak⟩=M (T (M ce) d cq):=(aj _ _ _ _ _ _ ep).trans rfl;have b9:=am ((d8.out.below ba).below cl);have dq:=λn=>h.out.p n;unfold PaP at dq;have fd:=λ(n:U) bA d2 (cF:gg n bA ns) (cI:gg n d2 ns)=>aeD n bA d2 ns cF cI (by rw[j.out];exact e8) h.out.ln;have hd:¬((d:Int)=0):=by omega
 go_region_held3 (λfu=>fu.cell? ⟨bE.heap.size,0,Ak⟩=M (T (M ce) d cq)) (first|go_keep|exact cell_kept ao (cell_kept o bw)|exact cell_kept o bw) (first|(go_at_call 7;refine(dq _).mono ?_;rintro bb hx ⟨hw,rfl,dx,o⟩;obtain⟨f9,gd,rfl⟩:=dx.fm j.out dc)|(go_at_call 6;refine(fd _ _ _ (b9.out.below o) dx).mono ?_;rintro bb fv ⟨rfl,ao⟩))
 have fk:=cell_kept ao (cell_kept o bw);have K:=am ((b9.out.below o).below ao);have B8:=am ((a4.out.trans (o.mono a4.out.size)).trans (ao.mono (by have:=a4.out.size;have:=o.size;omega)));have a9:=am fk;go_wp2;go_loopw [41] (λc wr=>∃e:Nat,e<=d/\c= Q S e/\cg fv wr) (λc _=>d-(Y c).toNat)
 case atStart=>exact⟨0,aD _,rfl,ah _ _⟩
 case round=>
  obtain⟨e,g7,rfl,b⟩:=hrel;have d1:=cell_kept b a9.out;by_cases e4:e<d
  .have⟨k,ar⟩:=cJ j.out e4;have⟨q,c6,gu,c8⟩:=h.out.l k (dj ar);have c4:=h.out.c k (dj ar);have br:=(h.out.ln k (dj ar)).2;obtain⟨eg,ea,en,ee,f,el,y,F,bh, -⟩:=(K.out.below b).rd ar;rw[c6,c8]at y;rw[c6]at c4;rw[F]at br;have a6:=kK F bh c4;have e1:(e:Int)<(d:Int):=by omega
   have c9:(0:Int)<=(e:Int):=by omega
   go_wp2_with fail;generalize ex:wr.alloc _=cb;obtain⟨ap,C, -⟩:=al1 ex;have D:=kK (b.trans (C.mono b.size)) (a6.2.1.below C) ap;have ap:=λa=>aj cb _ a _ _ _ ap;generalize wr.heap.size=eh at ap D⊢;go_loop [7,8] (λft c=>∃a:Nat,a<=q/\ft= Q S (1+nlc t a)/\c= Q S (a:Int)) (λ_ c=>q-(Y c).toNat)
   case atStart=>exact⟨0,aD _,rfl,rfl⟩
   case round=>
    obtain⟨a,g5,rfl,rfl⟩:=hrel;by_cases g6:a<q
    .have fb:=λn=>dG (s:=t) (i:=a) (by omega) n;have ff:=jF (s:=t) (i:=a) (by omega);have fg:=agj t a;have z:A2 (nlc t (a+1)=nlc t a+if aq t a=10 then 1 else 0):=rfl;have eL:(a:Int)<(q:Int):=by omega
     have⟨ek,c3⟩:=aC (aq t a);have⟨d0,dd⟩:=aC (nlc t a);rw[c3,dd]at z;rw[c3]at fb ff;rw[dd]at fg⊢;by_cases bf:ek=10
     .rw[ab bf]at z;subst bf;go_wp2;go_round
      case rel=>exact⟨a+1,by omega,by rw[z.out];go_num,by go_num⟩
      case measure=>simp[Y];omega
     .rw[aa bf]at z;go_wp2;go_round
      case rel=>exact⟨a+1,by omega,by rw[z.out];go_num,by go_num⟩
      case measure=>simp[Y];omega
    .obtain rfl:a=q:=by omega
     have eL:¬(a:Int)<(a:Int):=by omega
     go_wp2;go_loopw [9,66] (λfr c wr=>∃(i:Nat) (af:Int),i<=f/\fr= Q S af/\c= Q S (i:Int)/\A2 (chn ns k.t af (k.ks.drop i))/\cg cb wr) (λ_ c _=>f-(Y c).toNat)
     case atStart=>exact⟨0,_,aD _,rfl,rfl,a6.out.2.2,ah _ _⟩
     case round=>
      obtain⟨i,af,eF,rfl,rfl,d7,b⟩:=hrel;by_cases bl:i<f
      .have⟨G,v,a1,x,gf,gl,gm,er⟩:=anj d7.out (by rw[a6.out.1];exact bl);have a2:=(List.getElem?_eq_some_iff.1 x).1;rw[j.out]at a2;obtain⟨ed,rfl,eo⟩:=(D.2.1.below b).get a1;have r:=am (D.1.trans (b.mono D.1.size));obtain⟨f0,eb,fA,fF,ec,fB,y, -⟩:=(K.out.below r.out).rd x;have d1:=cell_kept r.out a9.out;have fn:wr.cell? ⟨eh,2,Ak⟩=M (Q S k.t):=cell_kept b ((aj _ _ _ _ _ _ D.2.2).trans rfl);have bo:(i:Int)<(f:Int):=by omega
       have eB:(0:Int)<=(i:Int):=by omega
       have c9:(0:Int)<=(G:Int):=by omega
       have e0:(G:Int)<(d:Int):=by omega
       have d6:=am er;have E:=am b;have gr:=yw fn;have cF:¬v.f<af:=by omega
       have cI:¬k.t<v.t:=by omega
       have gn:¬v.t<v.f:=by omega
       go_wp2;exact⟨⟨i+1,v.t,by omega,rfl,by go_num,d6.out,E.out.alloc E.out.size _⟩,by simp[Y];omega⟩
      .obtain rfl:i=f:=by omega
       have bo:¬(i:Int)<(i:Int):=by omega
       go_wp2;exact⟨⟨_,_,_,_,_,_,_,_,⟨e+1,by omega,rfl,D.1.trans (b.mono D.1.size)⟩,rfl,rfl,rfl,rfl,rfl,rfl,rfl,by go_num⟩,by simp[Y];omega⟩
  .obtain rfl:e=d:=by omega
   have e1:¬(e:Int)<(e:Int):=by omega
   have⟨ca,bj⟩:=cJ j.out e7;obtain⟨eg,ea,en,ee,f,el,y,F,bh, -⟩:=(K.out.below b).rd bj;have br:=(h.out.ln ca (dj bj)).2;rw[F]at br;have hy:=y.2.2.2.2.2.2.2.2;have J:=kK F bh bj;have g8:(0:Int)<=(m:Int):=by omega
   have g9:(m:Int)<(e:Int):=by omega
   go_wp2_with fail;have⟨fz,es⟩:=aC wr;rw[es]at b J⊢;have b6:=am b;go_loopw [107] (λc wr=>∃i:Nat,i<=f/\i<=6/\c= Q S (i:Int)/\cg fz wr) (λc _=>f-(Y c).toNat)
   case atStart=>exact⟨0,aD _,aD _,rfl,ah _ _⟩
   case round=>
    obtain⟨i,eF,g0,rfl,b⟩:=hrel;have r:=am (b6.out.trans (b.mono b6.out.size));have av:=am (B8.out.trans (r.out.mono B8.out.size));by_cases bl:i<f
    .have⟨G,v,a1,x,q,d4,cx,cB,gv,hg,ms,B,f1,f5,cy,gp,c1,c2,E,ct,cu,cw,dg⟩:=h.out.s ca J.out.2.2 i (by rw[J.out.1];exact bl);have a2:=(List.getElem?_eq_some_iff.1 x).1;rw[j.out]at a2;obtain⟨ed,rfl,eo⟩:=(J.out.2.1.below b).get a1;have bo:(i:Int)<(f:Int):=by omega
     have eB:(0:Int)<=(i:Int):=by omega
     by_cases c0:i=6
     .have eq:((i:Int)==6)=A1:=by rw[c0];rfl
      clear a1 x cx cB cy c1 c2 E ct cu cw dg a2 b c0;go_wp2;go_ret;exact⟨rfl,av.out⟩
     .have eq:((i:Int)==6)=Ax:=by rw[du];omega
      obtain⟨f0,eb,fA,fF,ec,fB,y, -⟩:=(K.out.below r.out).rd x;rw[cx,cB]at y;have d1:=cell_kept r.out a9.out;have c9:(0:Int)<=(G:Int):=by omega
      have e0:(G:Int)<(e:Int):=by omega
      have g:=asd cy c1 c2 E ct cu cw dg b;have gt:(q:Int)<=(d4:Int):=by omega
      have he:(d4:Int)<=(t.size:Int):=by omega
      go_wp2_with fail;generalize ey:wr.alloc _=cc;obtain⟨cr,al, -⟩:=al1 ey;have d0:=λa=>aj cc _ a _ _ _ cr;have A:=gF cr (g.out.2.2.2.2.2.2.2.2.trans (al.mono g.out.2.2.2.2.2.2.2.2.size));have dn:=g.out.2.2.2.2.2.2.2.1 cc (av.out.trans (al.mono av.out.size));generalize wr.heap.size=ei at d0 A⊢;unfold PaP at dn;go_wp2_with fail;refine dn.mono ?_;rintro bb w5 ⟨hv,rfl,bt,cf⟩;obtain⟨gb,c5,rfl⟩:=bt.fm g.out.1 (by omega);have bk:=ai A.1;have cs:=(cf.block _ bk).trans A.1;have hu:=λa=>aj w5 _ a _ _ _ cs;have a5:=am (A.2.trans (cf.mono A.2.size));obtain⟨An,f2,Ac,f4,d5,f3,b0,et, -⟩:=bt.rd g.out.2.1;obtain rfl:d5=1:=et.symm.trans g.out.2.2.1;obtain⟨f8,a3,f6,f7,I,Bd,b4, -⟩:=bt.rd g.out.2.2.2.1;rw[g.out.2.2.2.2.1,g.out.2.2.2.2.2.1,g.out.2.2.2.2.2.2.1]at b4;have b0:=λbv=>ck9 (dC w5 bv) b0;have b4:=λbv=>ck9 (dC w5 bv) b4;have bk:=ai cs;have gs:ei<w5.heap.size+1:=Nat.lt_succ_of_lt bk;have⟨u,ew⟩:=aC (B+2);have⟨a8,ev⟩:=aC (B+1);rw[ev]at b0;have hh:(u:Int)-1=(a8:Int):=by omega
      have hl:(u:Int)-2=(B:Int):=by omega
      have hm:¬(u:Int)<2:=by omega
      have ho:(a8:Int)<(u:Int):=by omega
      have hp:(B:Int)<(u:Int):=by omega
      have hr:u<=1048578:=by omega
      have hs:(0:Int)<=(B:Int):=by omega
      have ht:(0:Int)<=(a8:Int):=by omega
      rw[ew];go_wp2;exact⟨⟨i+1,by omega,by omega,by go_num,(a5.out.alloc a5.out.size _).alloc (by have:=a5.out.size;simp;omega) _⟩,by simp[Y];omega⟩
    .obtain rfl:i=f:=by omega
     have bo:¬(i:Int)<(i:Int):=by omega
     go_wp2;go_ret;exact⟨rfl,av.out⟩
def Af(op:Int):Int×Int:=
 if 13<=op/\op<=18 then(3,4) else if op=12 then(4,4) else if op=8 then(5,6) else if op=9 then(6,7) else if op=7 then(7,8) else if op=10\/op=11 then(8,9) else if op=1\/op=2 then(9,10) else(10,11)
def Bg(op:Int)(b:1<=op)(c:op<=18)(w:U):
  Z O 205 #[Q S (60+op)] w (jt w (.tuple #[Q S (Af op).1,Q S (Af op).2])):=by
 have a:op=1\/op=2\/op=3\/op=4\/op=5\/op=6\/op=7\/op=8\/op=9\/op=10\/op=11\/op=12\/op=13\/op=14\/op=15\/op=16\/op=17\/op=18:=by omega
 rcases a with rfl|rfl|rfl|rfl|rfl|rfl|rfl|rfl|rfl|rfl|rfl|rfl|rfl|rfl|rfl|rfl|rfl|rfl<;>
  (go_in
   go_wp2;exact aL (results_tmp2 rfl _ _ _) rfl ⟨rfl,rfl⟩)
def iA(k op:Int):Int:=if k=29 then 1 else if k=28 then 2 else if k=31 then(Af op).1 else if k=30 then 11 else 12
def ui(k op:Int):Int:=if k=29 then 2 else if k=28 then 3 else(Af op).2
def qo(k:Int):Bool:=k==26||k==32||k==33||k==34||k==37
def Bh(N:Nd)(vn vk:A0)(h:N.k=31->1<=N.op/\N.op<=18)(w:U):
  Z O 165 #[jI N vn vk] w (jf w (Q S (iA N.k N.op))):=by
 have g:cg w (w.alloc (.cells #[Q S N.k,Q S N.f,Q S N.t,Q S N.l,Q S N.op,Q S N.n,Ad N.x,vn,vk] 34)):=(ah _ w).alloc (ag _) _;unfold jI;by_cases b:N.k=29
 .have m:(N.k==29)=A1:=by simpa using b
  have a:A2 (iA N.k N.op=1):=by show _=_;unfold iA;rw[ab b]
  clear b h;go_in;go_wp2;go_ret;exact⟨by rw[a.out];rfl,g⟩
 have m:(N.k==29)=Ax:=by simpa using b
 by_cases c:N.k=28
 .have o:(N.k==28)=A1:=by simpa using c
  have a:A2 (iA N.k N.op=2):=by show _=_;unfold iA;rw[aa b,ab c]
  clear b c h;go_in;go_wp2;go_ret;exact⟨by rw[a.out];rfl,g⟩
 have o:(N.k==28)=Ax:=by simpa using c
 by_cases d:N.k=31
 .have p:(N.k==31)=A1:=by simpa using d
  have a:A2 (iA N.k N.op=(Af N.op).1):=by show _=_;unfold iA;rw[aa b,aa c,ab d]
  have⟨r,s⟩:=h d;have i:=Bg N.op r s;generalize Af N.op=j at i a;obtain⟨u,v⟩:=j;simp only at i a;clear b c d h;go_in;go_wp2_with (go_at_call 205;refine fC (i _) ?_);go_ret;exact⟨by rw[a.out];rfl,g⟩
 have p:(N.k==31)=Ax:=by simpa using d
 by_cases e:N.k=30
 .have q:(N.k==30)=A1:=by simpa using e
  have a:A2 (iA N.k N.op=11):=by show _=_;unfold iA;rw[aa b,aa c,aa d,ab e]
  clear b c d e h;go_in;go_wp2;go_ret;exact⟨by rw[a.out];rfl,g⟩
 have q:(N.k==30)=Ax:=by simpa using e
 have a:A2 (iA N.k N.op=12):=by show _=_;unfold iA;rw[aa b,aa c,aa d,aa e]
 go_in;go_wp2;go_ret;exact⟨by rw[a.out];rfl,g⟩
def Ko(N:Nd)(vn vk:A0)(e:N.k≠29->N.k≠28->1<=N.op/\N.op<=18)(w:U):
  Z O 209 #[jI N vn vk] w (jf w (Q S (ui N.k N.op))):=by
 have d:cg w (w.alloc (.cells #[Q S N.k,Q S N.f,Q S N.t,Q S N.l,Q S N.op,Q S N.n,Ad N.x,vn,vk] 34)):=(ah _ w).alloc (ag _) _;unfold jI;by_cases a:N.k=29
 .have i:(N.k==29)=A1:=by simpa using a
  have b:A2 (ui N.k N.op=2):=by show _=_;unfold ui;rw[ab a]
  clear a e;go_in;go_wp2;go_ret;exact⟨by rw[b.out];rfl,d⟩
 have i:(N.k==29)=Ax:=by simpa using a
 by_cases c:N.k=28
 .have j:(N.k==28)=A1:=by simpa using c
  have b:A2 (ui N.k N.op=3):=by show _=_;unfold ui;rw[aa a,ab c]
  clear a c e;go_in;go_wp2;go_ret;exact⟨by rw[b.out];rfl,d⟩
 have j:(N.k==28)=Ax:=by simpa using c
 have b:A2 (ui N.k N.op=(Af N.op).2):=by show _=_;unfold ui;rw[aa a,aa c]
 have⟨m,o⟩:=e a c;have g:=Bg N.op m o;generalize Af N.op=h at g b;obtain⟨p,q⟩:=h;simp only at g b;go_in;go_wp2_with (go_at_call 205;refine fC (g _) ?_);go_ret;exact⟨by rw[b.out];rfl,d⟩
def aaK(k:Int)(w:U):Z O 210 #[Q S k] w (jt w (A3 (qo k))):=by
 unfold qo;cases f1:(k==26)<;>cases f2:(k==32)<;>cases f3:(k==33)<;>cases f4:(k==34)<;>cases f5:(k==37)<;>
  (go_in
   go_wp2;go_ret;exact⟨rfl,rfl⟩)
def ank(w:U):(Instr.typeAssert .nilIface 20 42 A1).run O w= .ok (.tuple #[A5 #[Q S 0],A3 Ax]) w:=by kernel_rfl
