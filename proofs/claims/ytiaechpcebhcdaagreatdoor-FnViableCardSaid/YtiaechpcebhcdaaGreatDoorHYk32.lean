import Derived.Test.YtiaechpcebhcdaaGreatDoorHYk16
import Derived.Test.YtiaechpcebhcdaaGreatDoorHYk18
import Derived.Test.YtiaechpcebhcdaaGreatDoorHYk26
import Derived.Test.YtiaechpcebhcdaaGreatDoorHYk31
import Derived.Test.YtiaechpcebhcdaaGreatDoorHYk29
set_option linter.all false
set_option maxRecDepth 100000
set_option maxHeartbeats 12800000
open Go.Proofs.Tryz
open List renaming length->Q,range->B6,replicate->E0
open Option renaming some->X,none->Ax
open Bool renaming true->Y,false->B2
open Go renaming Value->A0,World->Br,TypeId->B7,Calls->C2
open Go.Value renaming slice->A2,ownBlock->A5,int->A6,slice->B4,pointer->Ce,string->Ck,int->D3,agg->Ed,bool->E2,iface->Fs
open Go.IntKind renaming i64->A3
open Go.Obj renaming cells->A9
open Go.Proofs.Tryz renaming prog->B0
open Go.RowKit renaming Below->B1,intOf->B5,Hid->E1
open Go.Ending renaming returned->B3
open Go.Lib renaming decDigits->D4
namespace Go.Proofs.YtiaechpcebhcdaaGreatDoor
open Go.RowKit Go.Maps Go.WideMaps
variable{E:Pe}{N:Nd}{W W' w w0:World}{b bn g i j k lb m mb n p:Nat}{c d s:Int}{kv v vs:Value}{ns:List Nd}{r st:List Int}{t:TypeId}{xs:List Value}
section
variable {w : World} {vt : Value} {ns : List Nd} {N : Nd} {vn vk : Value} (A : NArg w vt ns N vn vk)
include A
def CD(h:ll N.k=Y):C2 B0 96 #[Ed #[vt],jA N vn vk] w λe w'=>e= B3 (E2 (stB ns N))/\B1 w.heap.size w w':=by
 have a:=be h;rcases((O:(N.k=3\/N.k=8\/N.k=11\/N.k=12\/N.k=2\/N.k=4\/N.k=6\/N.k=16\/N.k=10\/N.k=13\/N.k=14\/N.k=15)\/N.k=1\/N.k=5\/N.k=7\/N.k=9)) with hK|hK|hK|hK|hK
 .exact apd A hK
 all_goals
  unfold stB;simp only[hK,reduceIte,Int.reduceEq];first|exact al3 A hK|exact ama A hK|exact amb A hK|exact al9 A hK
theorem Bp:C2 B0 97 #[Ed #[vt],jA N vn vk] w λe w'=>e= B3 (E2 (kI ns N))/\B1 w.heap.size w w':=by
 by_cases b:N.k=20\/N.k=21\/N.k=22\/N.k=27\/N.k=23\/N.k=24\/N.k=25\/N.k=26\/N.k=28\/N.k=29\/N.k=41\/N.k=32\/N.k=30\/N.k=31\/N.k=33\/N.k=34\/N.k=40\/N.k=42\/N.k=36\/N.k=37
 .exact apc A b
 by_cases a:N.k=35
 .unfold kI;simp only[a,reduceIte,Int.reduceEq];exact aie A a
 rw[show kI ns N=B2 by unfold kI;grind];refine al0 A λd c=>?_;simp only[Dk,gG,iC,iD]at c;omega
end
def klB(l:List Int)(i:Int):Nat->Nat->Bool
 |0,_=>Y
 |f+1,j=>decide (0<=l.getD j 0/\l.getD j 0<i)&&klB l i f (j+1)
structure ap6 (l:List Int) (i:Int) (f j:Nat) (R:Bool):Prop where
 out:klB l i f j=R
theorem Ao(l:List Int)(i:Int):∀(f j:Nat),klB l i f j=Y->∀k,j<=k->k<j+f->0<=l.getD k 0/\l.getD k 0<i
 |0,j,_,k,a,b=>O
 |f+1,j,h,k,a,b=>by
  rw[klB,cH]at h;rcases js a with rfl|h3
  .grind
  .exact Ao l i f (j+1) h.2 k h3 O
theorem ap7(h:klB N.ks i (Q N.ks) 0=Y)(c:i<=Q ns):AD ns N:=by
 refine⟨λe a=>?_⟩;obtain⟨b,d,rfl⟩:=jd a;have:=Ao N.ks i (Q N.ks) 0 h b O O;grind
def acE(N:Nd):Bool:=decide (0<=N.f/\N.f<=N.t/\0<=N.l/\Q N.ks<=200)
def qk(ns:List Nd)(N:Nd):Bool:=if ll N.k=Y then stB ns N else kI ns N
def jD(ns:List Nd)(i:Nat)(N:Nd):Bool:=acE N&&(klB N.ks i (Q N.ks) 0&&qk ns N)
structure jK (N:Nd):Prop where
 l1:Q N.nm<=1048576
 l2:Q N.ks<=1048576
 lx:N.x.size<=1048576
 ls:∀s∈N.nm,s.size<=1048576
theorem JJ(w:Br)(al:A0)(ns:List Nd)(i:Nat)(N:Nd)(ht:fj w al ns)(bb:Q ns<=1048576)(ag:ns[i]?=X N)(hS:jK N):
  C2 B0 45 #[Ed #[al],A6 A3 i] w λe w'=>e= B3 (E2 (jD ns i N))/\B1 w.heap.size w w':=by
 obtain⟨bf,G,rfl⟩:=ht.form;obtain⟨ak,rfl,bv,bt,a7⟩:=ht.get ag;have a9:i<Q ns:=U;have bl:(i:Int)<(Q ns:Int):=O;have bk:(0:Int)<=(i:Int):=O;obtain⟨L,ap,ar,av,aL,a0,a4,a5,a6,x,v⟩:=a7;obtain⟨E,H,rfl⟩:=x.form;obtain⟨F,K,rfl⟩:=v.form;have br:=Dd L;have j:=aj hS;have m:=jB ht x v;have bp:=hS.l2;clear ht x v hS ag;unfold jD;by_cases q:N.f<0\/N.t<N.f\/N.l<0\/(200:Int)<(Q N.ks:Int)
 .rw[show acE N=B2 from aG O];go_in;go_wp2;all_goals (go_ret;exact⟨rfl,(Da rfl).2.2.1⟩)
 rw[show acE N=Y from dB O];simp only[not_or]at q;obtain⟨q,bg,bh,bj⟩:=q;have⟨C,hS⟩:=aw (qk ns N);rw[hS];have B:=aj hS;clear hS;have⟨o,r⟩:=aw (klB N.ks i (Q N.ks) 0);rw[r];have ao:ap6 N.ks i (Q N.ks) 0 o:=⟨r⟩;clear r;go_in;go_wp2_with fail;generalize ad:(w.alloc _).alloc _=p;obtain⟨af,u,c, -⟩:=Da ad;replace af:p.cell? ⟨w.heap.size,0,Ax⟩=X (A2 (X ak) (Q ns) G):=(au _ _ _ _ _ _ af).trans rfl;replace u:rA (w.heap.size+1) p 100 N (A2 E (Q N.nm) H) (A2 F (Q N.ks) K):=u;clear ad;clear L ap ar av aL a0 a4 a5 a6;go_loop [7,37] (λ_ A=>∃a:Nat,A= A6 A3 a/\a<=Q N.ks/\ap6 N.ks i (Q N.ks-a) a o) (λ_ A=>Q N.ks-(B5 A).toNat)
 case atStart=>grind
 case round=>
  obtain⟨a,rfl,bn,an⟩:=hrel;have b:=an.out;by_cases bc:a<Q N.ks
  .have z:N.ks[a]?=X N.ks[a]:=bi bc;obtain⟨bs,rfl,a8⟩:=(m.2.2.below c).get z;rw[(O:Q N.ks-a=(Q N.ks-(a+1))+1),klB,er,z,jF]at b;have ba:(a:Int)<(Q N.ks:Int):=O;have bo:(0:Int)<=(a:Int):=O;generalize N.ks[a]=am at b a8;clear z;by_cases z0:am<0
   .rw[aG O,gJ]at b;have d:=aj b;clear b;go_wp2;go_ret;exact⟨by rw[<-d.out];rfl,c⟩
   by_cases b5:(i:Int)<=am
   .rw[aG O,gJ]at b;have d:=aj b;clear b;go_wp2;go_ret;exact⟨by rw[<-d.out];rfl,c⟩
   rw[dB O,gK]at b;have d:ap6 N.ks i (Q N.ks-(a+1)) (a+1) o:=⟨b⟩;clear b;go_wp2;go_round
   case rel=>grind
   case measure=>simp[B5];omega
  .rw[(O:Q N.ks-a=0),klB]at b;have d:=aj b;have ba:¬(a:Int)<(Q N.ks:Int):=O;have y:AD ns N:=ap7 (by rw[ao.out,<-d.out]) (fs a9);have h:NArg p (A2 (X ak) (Q ns) G) ns N (A2 E (Q N.nm) H) (A2 F (Q N.ks) K):=⟨m.1.below c,m.2.1.below c,m.2.2.below c,y,bb,j.l1,j.l2,j.lx,j.ls⟩;have⟨bw,bx,bA,bD,bE,b0,b1,b2,b3,b4⟩:=co u;have n:=λw=>DD N.k w;clear b;cases hx:ll N.k with
   |true=>
    have g:=CD h hx;rw[hx]at n;rw[show stB ns N=C by rw[<-B.out];unfold qk;grind]at g;unfold jA at g;clear hx h y;go_wp2_with (first|(go_at_call 95;refine eE (n _) ?_)|(go_at_call 96;refine g.mono ?_;rintro e bd ⟨rfl,s⟩));go_ret;exact⟨by rw[<-d.out];rfl,c.trans (s.mono c.size)⟩
   |false=>
    have g:=Bp h;rw[hx]at n;rw[show kI ns N=C by rw[<-B.out];unfold qk;grind]at g;unfold jA at g;clear hx h y;go_wp2_with (first|(go_at_call 95;refine eE (n _) ?_)|(go_at_call 97;refine g.mono ?_;rintro e bd ⟨rfl,s⟩));go_ret;exact⟨by rw[<-d.out];rfl,c.trans (s.mono c.size)⟩
def Fo.all(p:Nd->Prop):Fo->Prop
 | .nil=>True
 | .cons N k r=>p N/\k.all p/\r.all p
def Aq(p:Nd->Prop):∀(a b:Fo),(a.app b).all p↔a.all p/\b.all p
 | .nil,b=>by simp[Fo.app,Fo.all]
 | .cons N k r,b=>by simp only[Fo.app,Fo.all,Aq p r b,and_assoc]
def kK(p:Nd->Prop)(N:Nd)(k:Fo):(one N k).all p↔p N/\k.all p:=by simp[one,Fo.all]
def Gd(tk:Nat->Tk)(n:Nat)(N:Nd):Prop:=(N.x=z0\/∃a,N.x=(tk a).x)/\Q N.nm<=n/\∀b∈N.nm,∃a,b=(tk a).x
def asl(tk:Nat->Tk)(n:Nat):Ay->Prop
 | .more _ _ x=>x.all (Gd tk n)
 | .post _ B=>B.all (Gd tk n)
 |_=>True
section
variable {tk : Nat → Tk} {n : Nat}
def gd0(k:Int)(s:Tk)(e op m:Int):Gd tk n (nd k s e op m z0 []):=⟨.inl rfl,nH,λb a=>by cases a⟩
def gdx(k:Int)(s:Tk)(e op m:Int)(q:Nat):Gd tk n (nd k s e op m (tk q).x []):=⟨.inr ⟨q,rfl⟩,nH,λx a=>by cases a⟩
def gd1(h:0<n)(k:Int)(s:Tk)(e op m:Int)(q:Nat):Gd tk n (nd k s e op m z0 [(tk q).x]):=⟨.inl rfl,h,λx a=>⟨q,List.mem_singleton.1 a⟩⟩
def gdb(k:Int)(s:Tk)(e:Int):Gd tk n (AK k s e):=by unfold AK;split;exact gd0 ..;split;exact gd0 ..;exact gd0 ..
theorem gdh(N:Nd)(ks:Fo)(s:Tk)(e:Int)(h:Gd tk n N)(a:ks.all (Gd tk n)):(oI N ks s e).all (Gd tk n):=by
 unfold oI;split
 .rw[kK,kK];exact⟨gd0 ..,h,a⟩
 .rw[kK];grind
theorem Ku.gd{ns:List Bz}(h:Ku tk n i ns j):i+2*Q ns<=j/\j<n/\∀x∈ns,∃q,x=(tk q).x:=by
 induction h with
 |stop a b=>grind
 |go a b c _ d=>
  grind
theorem Prm.gd{ns:List Bz}{r:Bool}(h:Prm tk n i ns r j):i+Q ns<=j/\j<=n/\∀x∈ns,∃q,x=(tk q).x:=by
 induction h with
 |close a b=>grind
 |rest a b c=>grind
 |last a b c=>grind
 |go a b c _ d=>
  grind
theorem gdn{q:Nat}{ns:List Bz}(h:Ku tk n i ns j)(k:Int)(s:Tk)(e op m:Int):Gd tk n (nd k s e op m z0 ((tk q).x::ns)):=by
 have⟨a,b,c⟩:=h.gd;refine⟨.inl rfl,by show Q ns+1<=n;omega,λx hx=>?_⟩;rcases List.mem_cons.1 hx with rfl|hx;all_goals grind
theorem P.gd{t:Ay}{R:Fo}(h:P tk n t i R j):asl tk n t->R.all (Gd tk n):=by
 induction h
 case tlet0 h1 h2 h3 h4 h5=>intro _;rw[kK];exact⟨gdn h4 ..,trivial⟩
 case tlet h1 h2 h3 h4 h5 h6 ih=>intro _;rw[kK];exact⟨gdn h4 ..,ih trivial⟩
 case tfor h1 h2 h3 h4 h5 h6 h7 i1 i2=>intro _;rw[kK,Aq];exact⟨gdn h4 ..,i1 trivial,i2 trivial⟩
 case teach h1 h2 h3 h4 h5 h6 h7 h8 h9 i1 i2=>intro _;rw[kK,Aq];exact⟨gdn h4 ..,i1 trivial,i2 trivial⟩
 case ttry h1 h2 h3 h4 h5 h6 h7 h8 i1 i2=>intro _;rw[kK,Aq];exact⟨gdn h7 ..,i1 trivial,i2 trivial⟩
 case body nm r B h1 h2 h3 h4 ih=>intro _;rw[kK];exact⟨⟨.inl rfl,by have:=h3.gd;show Q nm<=n;omega,h3.gd.2.2⟩,ih trivial⟩
 case bopen h1 h2 h3 h4 h5 h6 i1 i2=>intro _;have:=i1 trivial;rw[kK]at this;exact i2 (gdh _ _ _ _ this.1 this.2)
 case tcon h1 h2 h3 h4 h5 ih=>intro _;rw[kK];exact⟨gd1 O ..,ih trivial⟩
 case tfn h1 h2 h3 h4 h5 ih=>intro _;rw[kK];exact⟨gd1 O ..,ih trivial⟩
 all_goals
  intro a
  simp_all only[kK,Aq,asl,Fo.all,gdx,gd0,lj,gdb,and_self,true_implies,forall_const]
end
def Fo.nms:Fo->Nat
 | .nil=>0
 | .cons N k r=>Q N.nm+k.nms+r.nms
def rF:∀(a b:Fo),(a.app b).nms=a.nms+b.nms
 | .nil,b=>by simp[Fo.app,Fo.nms]
 | .cons N k r,b=>by simp only[Fo.app,Fo.nms,rF r b];omega
def qa(N:Nd)(k:Fo):(one N k).nms=Q N.nm+k.nms:=by rfl
def ajj(N:Nd)(ks:Fo)(s:Tk)(e:Int):(oI N ks s e).nms=(one N ks).nms:=by
 unfold oI;split
 .rw[qa];simp[lj,nd]
 .rfl
def Fj(k:Int)(s:Tk)(e op m:Int)(x:Bz)(nm:List Bz):(nd k s e op m x nm).nm=nm:=rfl
def ap8(k:Int)(s:Tk)(e:Int):(AK k s e).nm=[]:=by unfold AK;split;rfl;split<;>rfl
def JK:Ay->Nat
 | .more _ _ x=>x.nms
 | .post _ B=>B.nms
 |_=>0
def P.nms{tk:Nat->Tk}{t:Ay}{R:Fo}(h:P tk n t i R j):R.nms+i<=JK t+j:=by
 induction h
 case tlet0 h1 h2 h3 h4 h5=>have:=h4.gd;simp only[qa,rF,JK,Fj,Fo.nms,db]at *;omega
 case tlet h1 h2 h3 h4 h5 h6 ih=>have:=h4.gd;simp only[qa,rF,JK,Fj,Fo.nms,db]at *;omega
 case tfor h1 h2 h3 h4 h5 h6 h7 i1 i2=>have:=h4.gd;simp only[qa,rF,JK,Fj,Fo.nms,db]at *;omega
 case teach h1 h2 h3 h4 h5 h6 h7 h8 h9 i1 i2=>have:=h4.gd;simp only[qa,rF,JK,Fj,Fo.nms,db]at *;omega
 case ttry h1 h2 h3 h4 h5 h6 h7 h8 i1 i2=>have:=h7.gd;simp only[qa,rF,JK,Fj,Fo.nms,db]at *;omega
 case body h1 h2 h3 h4 ih=>have:=h3.gd;simp only[qa,rF,JK,Fj,Fo.nms,db]at *;omega
 all_goals
  simp only[qa,rF,ajj,JK,lj,Fj,ap8,Fo.nms,db,fx]at *;omega
def Fk:∀(R:Fo)(K b:Nat),cnt K (R.flat b)+R.len=K+8*R.sz+R.nms
 | .nil,K,b=>by rfl
 | .cons N k r,K,b=>by
  have c:=Fk k K b;have d:=Fk r (nxt (cnt K (k.flat b)) {N with ks:=k.tops b}) (b+k.sz+1);have e:=k.tops_len b;rw[Fo.flat,ahD,cnt];have a:nxt (cnt K (k.flat b)) {N with ks:=k.tops b}=cnt K (k.flat b)+7+Q N.nm+Q (k.tops b):=rfl;simp only[Fo.len,Fo.sz,Fo.nms];omega
theorem asm(s:Bz)(p:Nat)(c:p<s.size):(rdI s p).x.size<=s.size:=by
 have e:∀a b,(s.extract a b).size<=s.size:=λa b=>by rw[im];omega
 unfold rdI;split
 .show(vK s p).2.size<=_;unfold vK;split
  .exact iz _
  grind
 split
 .split
  .show(th s p).2.2.size<=_;unfold th;split
   .exact iz _
   split
   .exact iz _
   grind
  simp_all
 split
 .split
  .show(gL _).size<=_;have d:=(sE s (s.size+1) (p+1) [] c).2.2;rw[xk];grind
  simp_all
 split
 all_goals simp_all
theorem aeA(s:Bz):∀(f:Nat)(st:List Int)(p:Nat)(l:Int)(a:List Tk),(∀T∈a,T.x.size<=s.size)->∀T∈(wlk s f st p l a).1,T.x.size<=s.size
 |0,st,p,l,a,h=>λT d=>by cases d
 |f+1,st,p,l,a,h=>by
  have c:∀(b:Tk),b.x.size<=s.size->∀T∈a++[b],T.x.size<=s.size:=λb g T d=>by
   grind
  rw[wlk];split
  .exact c _ nH
  .rename_i i;have e:=asm s p O;split
   .split
    .exact aeA s f _ _ _ _ (c _ e)
    .exact aeA s f _ _ _ _ h
   .split
    .split
     .exact aeA s f _ _ _ _ (c _ e)
     grind
    grind
theorem aeB(s:Bz):∀(f:Nat)(st:List Int)(p:Nat)(l:Int)(b:List Tk),p<=s.size->(wlk s f st p l b).1.length<=Q b+(s.size-p)+1
 |0,st,p,l,b,h=>iz _
 |f+1,st,p,l,b,h=>by
  rw[wlk];split
  .simp
  .rename_i j;have d:∀q,q<=s.size->q<=blk s (s.size+1) q/\blk s (s.size+1) q<=s.size:=λq i=>ft s (s.size+1) q i;split
   .rename_i e;have c:=eD s p O (Cz s p e).1;have:=d _ c.2.1;split
    .have:=aeB s f (feedL st 5).1 (blk s (s.size+1) (rdI s p).a) (l+1) (b++[⟨5,(p:Nat),((rdI s p).a:Nat),l,(rdI s p).n,(rdI s p).x⟩]) O;grind
    .have:=aeB s f st (blk s (s.size+1) (rdI s p).a) (l+1) b O;omega
   .split
    .split
     .rename_i g;have c:=eD s p O g;have:=d _ c.2.1;have:=aeB s f (feedL st (gD s p)).1 (blk s (s.size+1) (rdI s p).a) l (b++[⟨gD s p,(p:Nat),((rdI s p).a:Nat),l,(rdI s p).n,(rdI s p).x⟩]) O;grind
     grind
    grind
theorem JL(p:Nd->Prop)(c:∀(N:Nd) (ks:List Int),p N->p {N with ks:=ks}):∀(R:Fo)(b:Nat),R.all p->∀N∈R.flat b,p N/\Q N.ks<=R.sz
 | .nil,b,h=>λN hN=>by cases hN
 | .cons e k r,b,h=>λN hN=>by
  have f:=k.len_le;have g:=k.tops_len b;rw[Fo.flat,xg,gG]at hN;rcases hN with hN|rfl|hN
  .obtain⟨a,d⟩:=JL p c k b h.2.1 N hN;exact⟨a,by rw[Fo.sz];omega⟩
  .exact⟨c _ _ h.1,by rw[Fo.sz];grind⟩
  .obtain⟨a,d⟩:=JL p c r _ h.2.2 N hN;exact⟨a,by rw[Fo.sz];omega⟩
def ss(s:Bz)(R:Fo):List Nd:=(one ⟨1,0,(s.size:Nat),1,0,0,⟨#[]⟩,[],[]⟩ R).flat 0
structure PF (s:Bz) (toks:List Tk) (m:Nat) (R:Fo) (lz:Int):Prop where
 len:Q toks=m+1
 le:m<=s.size
 p:P (xy toks) (m+1) .stats 0 R m
 k78:∀q,(xy toks q).k<=78
 k6:∀q,q<m->(xy toks q).k≠6
 end_:xy toks m=⟨6,(s.size:Nat),(s.size:Nat),lz,0,⟨#[]⟩⟩
 sz:R.sz<=200000
 sm:∀N∈ss s R,jK N
 ct:cnt 1 (ss s R)<=2000000
theorem asn{s:Bz}(C:s.size<=65536){toks:List Tk}(h:jn s=(toks,st, -1)){R:Fo}{i:Int}(l:Q toks=m+1)(n:xy toks m=⟨6,(s.size:Nat),(s.size:Nat),i,0,⟨#[]⟩⟩)(h3:P (xy toks) (m+1) .stats 0 R m)(o:∀q,q<m->(xy toks q).k≠6):PF s toks m R i:=by
 obtain⟨G,F,a,u⟩:=EJ s _ _ _ _ _ toks st h;rw[dI]at a;have B:=ft s (s.size+1) 0 nH;have f:=aeB s (s.size+1) [100,6] (blk s (s.size+1) 0) 1 [] O;have b:=aeA s (s.size+1) [100,6] (blk s (s.size+1) 0) 1 [] (λd t=>by cases t);have y:wlk s (s.size+1) [100,6] (blk s (s.size+1) 0) 1 []=(toks,st, -1):=h;rw[y]at f b;simp only[fx]at f;have x:=h3.pos;simp only[gC,slk,bas]at x;have w:=h3.nms;have p:=h3.gd trivial;have e:(one ⟨1,0,(s.size:Nat),1,0,0,⟨#[]⟩,[],[]⟩ R:Fo).sz=R.sz+1:=dj _ _;have H:∀q,(xy toks q).x.size<=65536:=λq=>by
  unfold xy;rw[er];cases hq:toks[q]? with
  |none=>exact iz _
  |some d=>grind
 have z:∀q,(xy toks q).k<=78:=λq=>by
  unfold xy;rw[er];cases hq:toks[q]? with
  |none=>show(0:Int)<=78;decide
  |some d=>
   have:=da hq;rw[a,xg,List.mem_singleton]at this;rcases this with g|g
   .have:=an6 u g;grind
   grind
 refine⟨l,O,h3,z,o,n,O,λc r=>?_,?_⟩
 .obtain⟨g,v⟩:=JL (Gd (xy toks) (m+1)) (λc E h=>h) _ 0 ((kK _ _ R).2 ⟨⟨.inl rfl,nH,λj b=>by cases b⟩,p⟩) c r;rw[e]at v;refine⟨by have:=g.2.1;omega,O,?_,λj b=>?_⟩
  .rcases g.1 with a|⟨q,a⟩
   .rw[a];exact iz _
   grind
  .obtain⟨q,a⟩:=g.2.2 j b;grind
 .have:=Fk (one ⟨1,0,(s.size:Nat),1,0,0,⟨#[]⟩,[],[]⟩ R) 1 0;rw[e,qa]at this;simp only[JK]at w;have A:Q ([]:List Bz)=0:=rfl;unfold ss;grind
def iK(p:Nat->Bool):Nat->Nat->Option Nat
 |0,_=>Ax
 |f+1,j=>if p j=Y then X j else iK p f (j+1)
structure zg (p:Nat->Bool) (f j:Nat) (R:Option Nat):Prop where
 out:iK p f j=R
def dpK(i:Nat):List Int->List Int->List Int
 |[],D=>D
 |k::r,D=>dpK i r (D.set k.toNat (D.getD i 0+1))
def dpN(ns:List Nd):Nat->List Int->List Int
 |0,D=>D
 |m+1,D=>dpN ns m (dpK m (ns.getD m zNd).ks D)
def J0(ns:List Nd):List Int:=dpN ns (Q ns) (E0 (Q ns) 0)
def kL(ns:List Nd):Bool:=decide (Q ns=0\/3000<Q ns\/(ns.getD (Q ns-1) zNd).k≠1)
def gc(ns:List Nd)(i:Nat):Bool:=!(jD ns i (ns.getD i zNd))
def ia(S:List Int)(i:Nat):Bool:=S.getD i 0==0
def jt(D:List Int)(i:Nat):Bool:=decide (100<D.getD i 0)
def tf4:Option Nat->Int×Int
 |some i=>(4,(i:Int))
 |none=>(0,0)
def tf3(S D:List Int)(n:Nat):Option Nat->Int×Int
 |some i=>(3,(i:Int))
 |none=>if S.getD (n-1) 0≠(n:Int) then(3,(n:Int)-1) else tf4 (iK (jt D) n 0)
def tf2(S D:List Int)(n:Nat):Option Nat->Int×Int
 |some i=>(2,(i:Int))
 |none=>tf3 S D n (iK (ia S) n 0)
def dF(ns:List Nd):Int×Int:=if kL ns=Y then(1,0) else tf2 (jk ns) (J0 ns) (Q ns) (iK (gc ns) (Q ns) 0)
def agt(n:Nat)(D:List Int):Prop:=Q D=n/\∀(j:Nat) z,D[j]?=X z->0<=z/\z<=(n:Int)-1-j
theorem agt.set{D:List Int}(h:agt n D)(i q:Nat)(b:i<n)(d:q<i):agt n (D.set q (D.getD i 0+1)):=by
 obtain⟨c,a⟩:=h;refine⟨U,λf g e=>?_⟩;grind
theorem qF{p:Nat->Bool}:∀{f j:Nat},iK p f j=Ax->∀k,j<=k->k<j+f->p k=B2
 |0,j,_,k,a,b=>O
 |f+1,j,h,k,a,b=>by
  rw[iK]at h;split at h
  .cases h
  .rename_i c;rcases js a with rfl|g
   .grind
   .exact qF h k g O
def ma(b:Nat)(W:Br)(c n:Int):Prop:=W.heap[b]?=X (A9 #[A6 A3 c,A6 A3 n] 57 (0,0))
def kC{n:Int}(h:ma b W c n):W.cell? ⟨b,0,Ax⟩=X (A6 A3 c)/\W.cell? ⟨b,1,Ax⟩=X (A6 A3 n)/\∀j,W.frozen? ⟨b,j,Ax⟩=B2:=by
 unfold ma at h;exact⟨by rw[au _ _ _ _ _ _ h];rfl,by rw[au _ _ _ _ _ _ h];rfl,λj=>cD _ _ _ _ _ h⟩
def qG{n:Int}(h:ma b W c n)(a n2:Int):ma b ((W.setCell ⟨b,0,Ax⟩ (A6 A3 a)).setCell ⟨b,1,Ax⟩ (A6 A3 n2)) a n2:=aI _ b 1 _ _ _ (aI _ b 0 _ _ _ h)
def ma.below{n:Int}(h:ma b W c n)(a:B1 W.heap.size W W'):ma b W' c n:=(a.block _ (ah h)).trans h
theorem aaI(w:Br)(v:A0)(ns:List Nd)(h:fj w v ns)(p:Q ns<=1048576)(y:kL ns=Y):
  C2 B0 20 #[Ed #[v]] w λe w'=>e= B3 (Ed #[A6 A3 1,A6 A3 0])/\B1 w.heap.size w w':=by
 obtain⟨C,E,rfl⟩:=h.form;have f:∀b c,B1 w.heap.size w ((w.alloc b).alloc c):=λb c=>((ai _ w).alloc cJ b).alloc I c;have l:∀b (d:Array A0) (g:B7),((w.alloc b).alloc (A9 d g)).heap[w.heap.size+1]?=X (A9 d g (0,0)):=λb d g=>by
  have:=ay (w.alloc b) (A9 d g)
  simp_all
 have K:=be y;by_cases n:Q ns=0
 .rw[n];go_in;go_wp2;exact aD (fE rfl _ _ (w.heap.size+1) _ _ _ _ rfl (l _ _ _) underlying57 rfl byR) rfl ⟨rfl,f _ _⟩
 by_cases t:3000<Q ns
 .have u:(3000:Int)<(Q ns:Int):=O;have s:¬(Q ns:Int)=0:=O;generalize Q ns=m at s u p⊢;go_in;go_wp2;exact aD (fE rfl _ _ (w.heap.size+1) _ _ _ _ rfl (l _ _ _) underlying57 rfl byR) rfl ⟨rfl,f _ _⟩
 .have x:(ns.getD (Q ns-1) zNd).k≠1:=O;have q:Q ns-1<Q ns:=O;obtain⟨i,o⟩:∃i,ns[Q ns-1]?=X i:=⟨_,bi q⟩;rw[er,o,jF]at x;obtain⟨r,rfl,an,am,z⟩:=h.get o;have j:=z.c0;have⟨m,B⟩:=aw (Q ns);rw[B]at j n t p q⊢;obtain⟨a,A⟩:∃a:Nat,m=a+1:=⟨m-1,O⟩;subst A;rw[ou]at j;have H:((a+1:Nat):Int)-1=(a:Int):=O;have af:¬((a+1:Nat):Int)=0:=O;have ag:¬(3000:Int)<((a+1:Nat):Int):=O;have ak:(a:Int)<((a+1:Nat):Int):=O;have ad:(0:Int)<=(a:Int):=O;have F:(((a:Int)+1)==0)=B2:=U;have G:decide ((3000:Int)<(a:Int)+1)=B2:=aG O;have al:(a:Int)<(a:Int)+1:=O;have L:∀b c,((w.alloc b).alloc c).cell? (r.add (a*9))=X (A6 A3 i.k):=λb c=>aq (f b c) j;go_in;go_wp2;exact aD (fE rfl _ _ (w.heap.size+1) _ _ _ _ rfl (l _ _ _) underlying57 rfl byR) rfl ⟨rfl,f _ _⟩
structure aaJ (w:Br) (v:A0) (W:Br):Prop where
 tb:W.heap[w.heap.size]?=X (.cells #[v] 26 (0,0))
 fb:ma (w.heap.size+1) W 0 0
 bl:B1 w.heap.size w W
def aaJ.below(h:aaJ w v W)(a:B1 W.heap.size W W'):aaJ w v W':=
 ⟨(a.block _ (ah h.tb)).trans h.tb,h.fb.below a,h.bl.trans (a.mono h.bl.size)⟩
structure ap9 (w:Br) (v:A0) (gd n:Nat) (ns:List Nd) (t:Nat) (D:List Int) (W:Br):Prop where
 tk:aaJ w v W
 row:W.ownsRow w.heap.size 3 1 (.slice (X ⟨gd,0,Ax⟩) n n) n (D.map (D3 .i64))
 ok:agt n D
 rest:dpN ns t D=J0 ns
structure aqa (w:Br) (v:A0) (gd n t:Nat) (ks D:List Int) (j:Nat) (E:List Int) (W:Br):Prop where
 tk:aaJ w v W
 row:W.ownsRow w.heap.size 3 1 (.slice (X ⟨gd,0,Ax⟩) n n) n (E.map (D3 .i64))
 ok:agt n E
 rest:dpK t (ks.drop j) E=dpK t ks D
def dE(h:W.heap[b]?=X (A9 #[v] t (0,0))):W.cell? ⟨b,0,Ax⟩=X v:=by
 rw[au _ _ _ _ _ _ h];rfl
theorem aaK(w:Br)(v:A0)(ns:List Nd)(h:fj w v ns)(eg:Q ns<=1048576)(cB:∀N∈ns,jK N)(bv:kL ns=B2):
  C2 B0 20 #[Ed #[v]] w λe w'=>e= B3 (Ed #[A6 A3 (dF ns).1,A6 A3 (dF ns).2])/\B1 w.heap.size w w':=by
 obtain⟨e7,y,rfl⟩:=h.form;have bw:=jE bv;have G:=jB h cB bv;have ce:¬(Q ns)=0:=λe=>bw (.inl e);have d4:¬3000<Q ns:=λe=>bw (.inr (.inl e));have bp:(ns.getD (Q ns-1) zNd).k=1:=by
  omega
 obtain⟨N,H⟩:∃N,ns[Q ns-1]?=X N:=⟨_,bi O⟩;rw[er,H,jF]at bp;obtain⟨s,rfl,f9,f7,cm⟩:=h.get H;have a6:=cm.c0;rw[bp]at a6;have d9:∀ap A,B1 w.heap.size w ((w.alloc ap).alloc A):=λap A=>((ai _ w).alloc cJ ap).alloc I A;obtain⟨ao,b1⟩:=aw (Q ns);obtain⟨B,hF⟩:=aw (dF ns);have o:=fD b1 hF;rw[hF];rw[b1]at G a6 ce d4⊢;obtain⟨a,en⟩:∃a:Nat,ao=a+1:=⟨ao-1,O⟩;have cw:ao-1=a:=O;rw[cw]at a6;have cA:(0:Int)<=(a:Int):=O;have e0:¬(ao:Int)=0:=O;have e1:¬(3000:Int)<(ao:Int):=O;have e2:(a:Int)<(ao:Int):=O;have e3:(ao:Int)-1=(a:Int):=O;have fd:(((a:Int)+1)==0)=B2:=U;have fe:decide ((3000:Int)<(a:Int)+1)=B2:=aG O;have f6:(a:Int)<(a:Int)+1:=O;have ea:∀ap A,((w.alloc ap).alloc A).cell? (s.add (a*9))=X (A6 A3 1):=λap A=>aq (d9 ap A) a6;clear h bv bw ce bp H cm b1 eg cB hF cw a6 e0 e1 e2 e3;subst en;go_in;go_wp2_with fail;generalize ch:(w.alloc _).alloc _=dk;obtain⟨cc,b8,b7, -⟩:=Da ch;have e4:aaJ w (A2 (X s) (a+1) y) dk:=⟨cc,b8,b7⟩;clear ch;obtain⟨bk,bs⟩:=aw (iK (gc ns) (a+1) 0);have bh:=aj bs;have c5:zg (gc ns) (a+1-0) 0 bk:=⟨bs⟩;clear bs cc b8 b7 ea;go_loopw [39] (λj wr=>∃b:Nat,b<=a+1/\j= A6 A3 b/\zg (gc ns) (a+1-b) b bk/\aaJ w (A2 (X s) (a+1) y) wr) (λj _=>a+1-(B5 j).toNat)
 case atStart=>grind
 case round=>
  obtain⟨b,cr,rfl,m,x⟩:=hrel;clear e4 c5;have c:=m.out;by_cases ei:b<a+1
  .obtain⟨ba,bc⟩:=dh o.1 ei;have cu:(b:Int)<(a:Int)+1:=O;have cs:(0:Int)<=(b:Int):=O;have bf:=JJ wr (A2 (X s) (a+1) y) ns b ba (G.1.below x.bl) (by rw[o.out.1];omega) bc (G.2.1 ba (da bc));have aL:=dE x.tb;obtain⟨ag,al,am⟩:=kC x.fb;rw[(O:a+1-b=(a+1-(b+1))+1),iK]at c;have z:gc ns b=!(jD ns b ba):=by unfold gc;grind
   rw[z]at c;have a9:=aj x;cases hx:jD ns b ba with
   |true=>
    rw[hx]at bf c;rw[aa Z]at c;have bg:zg (gc ns) (a+1-(b+1)) (b+1) bk:=⟨c⟩;clear c hx z bc x m ag al am;go_wp2_with (go_at_call 45;refine bf.mono ?_;rintro e K ⟨rfl,an⟩);exact⟨⟨b+1,O,by go_num,bg,a9.below an⟩,by simp[B5];omega⟩
   |false=>
    rw[hx]at bf c;rw[ab Z]at c;have F:E1 (B=(2,(b:Int))):=by
     show B=(2,(b:Int));rw[<-o.out.2];unfold dF;rw[G.out.2.2,aa Z,o.out.1,bh.out,<-c];rfl
    clear c hx z bc x m ag al am;go_wp2_with fail;refine bf.mono ?_;rintro e K ⟨rfl,an⟩;have g:=a9.below an;obtain⟨ag,al,am⟩:=kC g.fb;have p:=aj g;clear g an;go_wp2_with fail;have g:=p.out;exact aD (fE rfl _ _ (w.heap.size+1) _ _ _ _ rfl (qG g.fb 2 b) underlying57 rfl byR) rfl ⟨by rw[F.out],(g.bl.setCell I _).setCell I _⟩
  .obtain rfl:b=a+1:=O;rw[fI,iK]at c;have dc:=aj c.symm;have cl:=qF (show iK (gc ns) (a+1) 0=Ax by rw[bh.out];grind);have a4:∀(E:Nat) N,ns[E]?=X N->∀i∈N.ks,0<=i/\i<(E:Int):=λE N H i f=>by
    have b0:E<a+1:=by rw[<-o.out.1];grind
    have ad:=cl E nH O;unfold gc at ad;rw[er,H,jF]at ad;have d5:jD ns E N=Y:=U;unfold jD at d5;have d6:klB N.ks E (Q N.ks) 0=Y:=by
     grind
    obtain⟨n,cy,rfl⟩:=jd f;have:=Ao N.ks E (Q N.ks) 0 d6 n O O;grind
   have b4:=aal wr (A2 (X s) (a+1) y) ns (G.1.below x.bl) (by rw[o.out.1];omega) (λN H=>(G.2.1 N H).l2) a4;rw[o.out.1]at b4;have b9:=aj a4;have aL:=dE x.tb;have a9:=aj x;have ew:=x.bl.size;have f3:w.heap.size+1<wr.heap.size:=ah x.fb;clear c cl a4 x m;go_wp2_with fail;refine b4.mono ?_;rintro e K ⟨cd,rfl,b2,an⟩;have g:=a9.below an;obtain⟨q,hS⟩:=aw (jk ns);have cg:Q q=a+1:=by rw[<-hS,kJ,o.out.1]
   rw[hS]at b2;have ca:E1 (jk ns=q/\Q q=a+1/\EB q):=⟨hS,cg,by rw[<-hS];exact Bi ns (λN H i f=>by
    obtain⟨E,b0,e⟩:=jd H;exact(b9 E N U i f).1)⟩
   have p:=fD g b2;obtain⟨bb,bd⟩:=aw (iK (ia q) (a+1) 0);have e6:=aj bd;have bg:zg (ia q) (a+1-0) 0 bb:=⟨bd⟩;have bj:E1 (dF ns=tf3 q (J0 ns) (a+1) bb):=by
    show dF ns=_;unfold dF;rw[G.out.2.2,aa Z,o.out.1,bh.out,dc.out,hS];show tf3 q (J0 ns) (a+1) (iK (ia q) (a+1) 0)=_;rw[bd]
   clear hS cg bd g b2 an b4 aL;go_wp2;go_loop [53] (λj=>∃b:Nat,b<=a+1/\j= A6 A3 b/\zg (ia q) (a+1-b) b bb) (λj=>a+1-(B5 j).toNat)
   case atStart=>grind
   case round=>
    obtain⟨b,fr,rfl,m⟩:=hrel;clear bg;have c:=m.out;by_cases ek:b<a+1
    .have cu:(b:Int)<(a:Int)+1:=O;have cs:(0:Int)<=(b:Int):=O;obtain⟨i,f⟩:=dh ca.2.1 ek;have bo:K.cell? ⟨cd,b,Ax⟩=X (A6 A3 i):=by rw[p.out.2.cellAt b O,dw,f];rfl
     rw[(O:a+1-b=(a+1-(b+1))+1),iK]at c;have z:ia q b=(i==0):=by unfold ia;grind
     rw[z]at c;by_cases b3:i=0
     .subst b3;rw[ab Z]at c;have F:E1 (B=(3,(b:Int))):=by
       show B=(3,(b:Int));rw[<-o.out.2,bj.out,<-c];rfl
      obtain⟨ag,al,am⟩:=kC p.1.fb;clear c z f m;go_wp2_with fail;have g:=p.1;exact aD (fE rfl _ _ (w.heap.size+1) _ _ _ _ rfl (qG g.fb 3 b) underlying57 rfl byR) rfl ⟨by rw[F.out],(g.bl.setCell I _).setCell I _⟩
     .rw[aa U]at c;have c6:zg (ia q) (a+1-(b+1)) (b+1) bb:=⟨c⟩;clear c z f m;go_wp2;go_round
      case rel=>grind
      case measure=>simp[B5];omega
    .obtain rfl:b=a+1:=O;rw[fI,iK]at c;have dd:=aj c.symm;obtain⟨i,f⟩:=dh ca.2.1 (O:a<a+1);have bo:K.cell? ⟨cd,a,Ax⟩=X (A6 A3 i):=by rw[p.out.2.cellAt a O,dw,f];rfl
     have a1:q.getD a 0=i:=U;have t:=bj.out;rw[dd.out,tf3,ou,a1]at t;by_cases eL:i=(a:Int)+1
     .rw[aa O]at t;have dg:=aj t;subst eL;have aL:=dE p.1.tb;clear c t f a1 m;obtain⟨cA,b0,b3,ez,f5⟩:=eC tL;have es:=p.1.bl.size;go_wp2_with (at_make;refine C6 _ rfl _ _ 98 rfl w.heap.size 3 cA (A6 A3 0) 1 underlying98 b0 b3 ez A3 A3 _ _ (a+1) rfl rfl rfl rfl U py es ?_;intro cI cx a3;have bx:B1 K.heap.size K cI:=⟨a3.os,a3.tape,a3.output,a3.size,λb cr=>a3.block b cr I⟩;have dn:=aq bx aL);rw[show(madeCells (D3 A3 0).cells ((a+1)*1)).toList=E0 (a+1) (D3 A3 0) by rw[wL];exact zq _ _]at cx;have b6:ap9 w (A2 (X s) (a+1) y) K.heap.size (a+1) ns (a+1) (E0 (a+1) 0) cI:=by
       refine⟨p.1.below bx,?_,⟨I,λu i f=>?_⟩,?_⟩
       .simp_all
       .grind
       .unfold J0;rw[o.out.1]
      have ev:w.heap.size+1<K.heap.size:=ah p.1.fb;clear cx a3 bx dn aL bo;obtain⟨r,a1⟩:=aw K.heap.size;rw[a1]at b6 ev⊢;have df:=aj b6;clear b6 a1 p bj;go_loopw [8] (λj wr=>∃(d:Nat) (D:List Int),d<=a+1/\j= A6 A3 ((d:Int)-1)/\E1 (ap9 w (A2 (X s) (a+1) y) r (a+1) ns d D wr)) (λj _=>(B5 j+1).toNat)
      case atStart=>grind
      case round=>
       obtain⟨d,D,fB,rfl,l⟩:=hrel;clear df;cases d with
       |zero=>
        have fv:¬(0:Int)<=((0:Nat):Int)-1:=O;have cf:D=J0 ns:=l.rest;have ar:=jB l.tk l.row l.ok.1;have t:=dg.out;rw[<-cf]at t;obtain⟨bn,bt⟩:=aw (iK (jt D) (a+1) 0);rw[bt,o.out.2]at t;have cb:=aj t;have c7:zg (jt D) (a+1-0) 0 bn:=⟨bt⟩;clear t bt cf l;go_wp2;go_loop [110] (λj=>∃b:Nat,b<=a+1/\j= A6 A3 b/\zg (jt D) (a+1-b) b bn) (λj=>a+1-(B5 j).toNat)
        case atStart=>grind
        case round=>
         obtain⟨b,fu,rfl,m⟩:=hrel;clear c7;have c:=m.out;by_cases el:b<a+1
         .have cu:(b:Int)<(a:Int)+1:=O;have cs:(0:Int)<=(b:Int):=O;obtain⟨i,f⟩:=dh ar.2.2 el;have bo:wr.cell? ⟨r,b,Ax⟩=X (A6 A3 i):=by rw[ar.out.2.1.cellAt b O,dw,f];rfl
          rw[(O:a+1-b=(a+1-(b+1))+1),iK]at c;have z:jt D b=decide (100<i):=by unfold jt;grind
          rw[z]at c;by_cases eF:100<i
          .rw[ab (dB eF)]at c;have F:E1 (B=(4,(b:Int))):=by
            show B=(4,(b:Int));rw[cb.out,<-c];rfl
           obtain⟨ag,al,am⟩:=kC ar.1.fb;clear c z f m;go_wp2_with fail;have g:=ar.1;exact aD (fE rfl _ _ (w.heap.size+1) _ _ _ _ rfl (qG g.fb 4 b) underlying57 rfl byR) rfl ⟨by rw[F.out],(g.bl.setCell I _).setCell I _⟩
          .rw[aa U]at c;have c6:zg (jt D) (a+1-(b+1)) (b+1) bn:=⟨c⟩;clear c z f m;go_wp2;go_round
           case rel=>grind
           case measure=>simp[B5];omega
         .obtain rfl:b=a+1:=O;rw[fI,iK]at c;have F:E1 (B=(0,0)):=by
           show B=(0,0);rw[cb.out,<-c];rfl
          obtain⟨ag,al,am⟩:=kC ar.1.fb;clear c m;go_wp2_with fail;have g:=ar.1;exact aD (fE rfl _ _ (w.heap.size+1) _ _ _ _ rfl (qG g.fb 0 0) underlying57 rfl byR) rfl ⟨by rw[F.out],(g.bl.setCell I _).setCell I _⟩
       |succ d=>
        have d0:(((d+1:Nat)):Int)-1=(d:Int):=O;rw[d0];have f2:(d:Int)<(a:Int)+1:=O;have fF:(0:Int)<=(d:Int):=O;obtain⟨C,a0⟩:=dh o.1 (O:d<a+1);obtain⟨e8,d7,gb,f8,bA⟩:=G.1.get a0;obtain rfl:=cC d7;have dq:=aq l.tk.bl bA.c8;have a4:=b9.out d C a0;have cv:=bA.hk;obtain⟨dl,ds,rfl⟩:=cv.form;obtain⟨av,br⟩:=aw (Q C.ks);have eh:=(G.2.1 C (da a0)).l2;rw[br]at dq eh;have ef:l.rest=l.rest:=rfl;have a7:dpN ns d (dpK d C.ks D)=J0 ns:=by
         have:=l.rest;rw[dpN,er,a0,jF]at this;omega
        have a8:=Dy br a4 a7 a0;have aL:=dE l.tk.tb;have c9:E1 (dz w (A2 dl av ds) C.ks):=U;have c2:E1 (aqa w (A2 (X s) (a+1) y) r (a+1) d C.ks D 0 D wr):=⟨l.tk,l.row,l.ok,rfl⟩;have ew:=l.tk.bl.size;clear a4 cv a7 bA a0 br l ef;go_wp2;go_loopw [95] (λj e5=>∃(u:Nat) (af:List Int),u<=av/\j= A6 A3 u/\E1 (aqa w (A2 (X s) (a+1) y) r (a+1) d C.ks D u af e5)) (λj _=>av-(B5 j).toNat)
        case atStart=>grind
        case round=>
         obtain⟨u,af,fm,rfl,k⟩:=hrel;clear c2;by_cases ee:u<av
         .have fo:(u:Int)<(av:Int):=O;have fn:(0:Int)<=(u:Int):=O;obtain⟨i,f⟩:=dh a8.1 ee;obtain⟨e9,d8,fl⟩:=(c9.below k.tk.bl).get f;subst d8;obtain⟨ex,f4⟩:=a8.2.1 i (da f);obtain⟨n,rfl⟩:=eJ ex;have cy:n<d:=O;obtain⟨L,bD⟩:=dh k.ok.1 (O:d<a+1);obtain⟨d3,cn⟩:=dh k.ok.1 (O:n<a+1);have fk:=k.ok.2 d L bD;have a5:=k.row;have fc:wr.cell? ⟨r,d,Ax⟩=X (A6 A3 L):=by rw[a5.cellAt d O,dw,bD];rfl
          have fa:wr.cell? ⟨r,n,Ax⟩=X (A6 A3 d3):=by rw[a5.cellAt n O,dw,cn];rfl
          have fg:=a5.frozenAt n;have ed:=(a5.lt r rfl).1;have bE:af.getD d 0=L:=U;have A:=(a5.stored n (A6 A3 (L+1))).1;rw[<-List.map_set]at A;have b5:=k.ok.set d n O cy;rw[bE]at b5;have a7:dpK d (C.ks.drop (u+1)) (af.set n (L+1))=dpK d C.ks D:=by
           have ad:=k.rest;have cp:=(List.getElem?_eq_some_iff.1 f);rw[ja cp.1,cp.2,dpK,bE]at ad;exact ad
          have eq:r≠w.heap.size:=O;have ep:r≠w.heap.size+1:=O;have cF:aaJ w (A2 (X s) (a+1) y) (wr.setCell ⟨r,n,Ax⟩ (A6 A3 (L+1))):=
           ⟨(az _ _ _ _ (dy eq)).trans k.tk.tb,(az _ _ _ _ (dy ep)).trans k.tk.fb,k.tk.bl.setCell ed _⟩
          have c3:E1 (aqa w (A2 (X s) (a+1) y) r (a+1) d C.ks D (u+1) (af.set n (L+1)) (wr.setCell ⟨r,n,Ax⟩ (A6 A3 (L+1)))):=⟨cF,A,b5,a7⟩;have fA:(n:Int)<(a:Int)+1:=O;have fz:(0:Int)<=(n:Int):=O;clear f k A b5 a7 cF a5 bD cn bE;go_wp2;exact⟨⟨u+1,_,O,by go_num,c3⟩,by simp[B5];omega⟩
         .obtain rfl:u=av:=O;have ec:E1 (ap9 w (A2 (X s) (a+1) y) r (a+1) ns d af wr):=by
           refine⟨k.tk,k.row,k.ok,?_⟩;have ad:=k.rest;rw[kD (by rw[a8.out.1];omega),dpK]at ad;rw[ad];exact a8.2.2.1
          clear k;go_wp2;exact⟨⟨d,af,O,rfl,ec⟩,by simp[B5]⟩
     .rw[ab O]at t;have F:E1 (B=(3,(a:Int))):=by
       show B=(3,(a:Int));rw[<-o.out.2,t];grind
      obtain⟨ag,al,am⟩:=kC p.1.fb;clear c t f a1 m;go_wp2_with fail;have g:=p.1;exact aD (fE rfl _ _ (w.heap.size+1) _ _ _ _ rfl (qG g.fb 3 a) underlying57 rfl byR) rfl ⟨by rw[F.out],(g.bl.setCell I _).setCell I _⟩
theorem Fl(w:Br)(v:A0)(ns:List Nd)(h:fj w v ns)(a:Q ns<=1048576)(b:∀N∈ns,jK N):
  C2 B0 20 #[Ed #[v]] w λe w'=>e= B3 (Ed #[A6 A3 (dF ns).1,A6 A3 (dF ns).2])/\B1 w.heap.size w w':=by
 cases hb:kL ns with
 |true=>
  have e:dF ns=(1,0):=by unfold dF;grind
  rw[e];exact aaI w v ns h a hb
 |false=>exact aaK w v ns h a b hb
theorem J2:∀(ts:List Tk)(q i:Nat)(T:Tk),ts[q]?=X T->i<6->(AJ ts)[q*6+i]?=(cTk T)[i]?
 |[],q,i,T,h,b=>U
 |a::r,0,i,T,h,b=>by
  simp at h;subst h;show(cTk a++AJ r)[0*6+i]?=_;rw[mo (by show 0*6+i<6;omega),Nat.zero_mul,ny]
 |a::r,q+1,i,T,h,b=>by
  show(cTk a++AJ r)[(q+1)*6+i]?=_;rw[jr (by show 6<=_;omega),show(q+1)*6+i-Q (cTk a)=q*6+i by show _-6=_;omega];exact J2 r q i T U b
def ajk{c:Array A0}{ts:List Tk}{tk:Nat->Tk}(h:c.toList.take (n*6)=AJ ts)(hn:Q ts=n)(g:∀q T,ts[q]?=X T->{T with l:=(tk q).l}=tk q/\((tk q).k≠6->T.l=(tk q).l)):TkR c tk n:=by
 intro q j;have d:=bi (O:q<Q ts);obtain⟨e,f⟩:=g q _ d;generalize ts[q]=T at d e f;have a:∀b,b<6->c[q*6+b]?=(cTk T)[b]?:=λb i=>by rw[<-J2 ts q b T d i,<-h,zk,ab O,CJ]
 refine⟨T.l,?_,?_,?_,a 3 O,?_,?_,f⟩;all_goals rw[<-e]
 .exact a 0 O
 .exact a 1 O
 .exact a 2 O
 .exact a 4 O
 .exact a 5 O
def tokF(s:Bz):List Tk×Int:=if 0<=(jn s).2.2 then([],(jn s).2.2) else if(feedL (jn s).2.1 6).2=Y then((jn s).1, -1) else([],(s.size:Nat))
def TkP(s:Bz)(w:Br)(e:Ending)(b:Br):Prop:=∃a c,e= B3 (.tuple #[A2 a (tokF s).1.length c,A6 A3 (tokF s).2])/\b.ownsRow w.heap.size 48 6 (A2 a (tokF s).1.length c) (tokF s).1.length (AJ (tokF s).1)/\B1 w.heap.size w b
def row3{r:Nat}{a b c:A0}(h:w.heap[r]?=X (A9 #[a,b,c] t (0,0))):w.cell? ⟨r,0,Ax⟩=X a/\w.cell? ⟨r,1,Ax⟩=X b/\w.cell? ⟨r,2,Ax⟩=X c/\∀j,w.frozen? ⟨r,j,Ax⟩=B2:=
 ⟨by rw[au _ _ _ _ _ _ h];rfl,by rw[au _ _ _ _ _ _ h];rfl,by rw[au _ _ _ _ _ _ h];rfl,λj=>cD _ _ _ _ _ h⟩
def set3{r:Nat}{d e f:A0}(h:w.heap[r]?=X (A9 #[d,e,f] t (0,0)))(a b c:A0):(((w.setCell ⟨r,0,Ax⟩ a).setCell ⟨r,1,Ax⟩ b).setCell ⟨r,2,Ax⟩ c).heap[r]?=X (A9 #[a,b,c] t (0,0)):=
 aI _ r 2 _ _ _ (aI _ r 1 _ _ _ (aI _ r 0 _ _ _ h))
def aoe{r:Nat}(h:k≠r)(a b c:A0):(((w.setCell ⟨r,0,Ax⟩ a).setCell ⟨r,1,Ax⟩ b).setCell ⟨r,2,Ax⟩ c).heap[k]?=w.heap[k]?:=
 (az _ _ _ _ h).trans ((az _ _ _ _ h).trans (az _ _ _ _ h))
def Ht{a:Br}{r:Nat}(h:B1 r a w)(b c f:A0):B1 r a (((w.setCell ⟨r,0,Ax⟩ b).setCell ⟨r,1,Ax⟩ c).setCell ⟨r,2,Ax⟩ f):=by
 have d:B1 r a (w.setCell ⟨r,0,Ax⟩ b):=h.setCell cJ _;have e:B1 r a ((w.setCell ⟨r,0,Ax⟩ b).setCell ⟨r,1,Ax⟩ c):=d.setCell cJ _;exact e.setCell cJ _
def Acc(s:Bz):Prop:=(jn s).2.2= -1/\(feedL (jn s).2.1 6).2=Y
def aso(s:Bz)(ns:List Nd):Prop:=∃b m a c,s.size<=65536/\Acc s/\tokF s=(b, -1)/\PF s b m a c/\dF (ss s a)=(0,0)/\ns=ss s a
def agu(s:Bz):Prop:=∀w,C2 B0 18 #[.string s] w (TkP s w)
def psV(c a:Int)(v:A0):A0:= Ed #[A6 A3 c,A6 A3 a,v]
def Nl(w:Br)(v:A0)(ns:List Nd):Prop:=∃L lo,L.map Mb.N=ns/\Lw w lo v L
def Nl.nds(h:Nl w v ns):fj w v ns:=by
 obtain⟨b,c,rfl,a⟩:=h;exact a.nds
def acF(w:Br):Nl w (A2 Ax 0 0) []:=⟨[],0,rfl,dA _ _ _ _,λb a=>by cases a⟩
def PsP(w:Br)(c a:Int)(ns:List Nd)(e:Ending)(b:Br):Prop:=∃v,e= B3 (psV c a v)/\Nl b v ns/\B1 w.heap.size w b
def okC(ns:List Nd):Int:=if(dF ns).1=0 then 0 else 2
def okN(ns:List Nd):List Nd:=if(dF ns).1=0 then ns else []
def ajl(ns:List Nd)(B:Nat)(a:List Int):Prop:=∀b∈a,∃k:Nat,b=(k:Int)/\k<B/\k<Q ns/\io (nodeI ns k).k=Y
theorem agv(c:Br)(j v:A0)(ns:List Nd)(E:Int->Bz)(t:Int)(B:Nat)(ak:OkE c j ns E t B)(d:List Int)(z:dz c v d)(ag:ajl ns B d)(hn:Q d<=1048576)(T:Bz)(w:Br)(h:Pr c j T t w)(al:T.size+(gx (d.map E)).size<=140737488355328):
  C2 B0 179 #[Ce (X ⟨c.heap.size,0,Ax⟩),v] w λe w'=>e= B3 (.tuple #[])/\Pr c j (T++gx (d.map E)) t w'/\Kq c.heap.size w w':=by
 have k:=Dy h z ag ak;obtain⟨a1,a2,rfl⟩:=z.form;have⟨i,y⟩:=aw (Q d);rw[y]at hn k⊢;have F:=aj y;have⟨b,x⟩:=aw (d.map E);rw[x]at al⊢;have a0:E1 (d.map E=b/\Q b=i):=⟨x,U⟩;go_in;go_wp2;go_loopw [8] (λq wr=>∃a:Nat,a<=i/\q= A6 A3 a/\E1 (Pr c j (T++gx (b.take a)) t wr/\Kq c.heap.size w wr)) (λq _=>i-(B5 q).toNat)
 case atStart=>exact⟨0,O,rfl,by rw[show T++gx (b.take 0)=T from ByteArray.append_empty];omega,Kq.refl _ _⟩
 case round=>
  obtain⟨a,a4,rfl,f⟩:=hrel;by_cases am:a<i
  .obtain⟨aL,A⟩:=dh F.out am;obtain⟨g,rfl,an,a8,ao⟩:=k.2.2.1 aL (da A);obtain⟨G,rfl,H⟩:=(k.2.1.below f.1.bel).get A;have a6:(a:Int)<(i:Int):=O;have a5:(0:Int)<=(a:Int):=O;have ap:b[a]?=X (E g):=U;have ad:=qh b a (E g) ap;have af:=Df b (a+1);have u:=fD ad af;have p:=fD an ao;by_cases L:a=0
   .subst L;have l:gx (b.take (0+1))=gx (b.take 0)++E g:=U;have m:=u.2;rw[l,ax]at m;have n:=fD l m;have a3:wr.cell? G=X (A6 A3 (g:Int)):=by simpa [Addr.add] using H
    go_wp2_with fail;refine(k.2.2.2.zero g _ _ p.1 p.2 f.1 U).mono ?_;rintro e s ⟨rfl,p2,r⟩;have o:=fD p2 r;go_wp2_with fail;refine⟨⟨1,O,by go_num,?_,f.2.trans o.2⟩,by simp[B5];omega⟩;rw[show(1:Nat)=0+1 from rfl,n.out.1,<-dJ];omega
   .have l:gx (b.take (a+1))=gx (b.take a)++lm++E g:=U;have m:=u.2;rw[l,ax,ax]at m;have K:lm.size=2:=rfl;have n:=jB l m K;have a7:(0:Int)<(a:Int):=O;go_wp2_with fail;refine(gw c j _ _ _ _ f.1 (by have:=n.2;rw[ax];show _+lm.size<=_;omega)).mono ?_;rintro e s ⟨rfl,p2,r⟩;have o:E1 (Pr c j (T++gx (b.take a)++lm) t s/\Kq c.heap.size wr s):=⟨p2,r⟩;go_wp2_with fail;refine(k.2.2.2.zero g _ _ p.1 p.2 o.1 U).mono ?_;rintro e a9 ⟨rfl,av,ar⟩;have C:=fD av ar;go_wp2_with fail;refine⟨⟨a+1,O,by go_num,?_,(f.2.trans o.2).trans C.2⟩,by simp[B5];omega⟩;rw[n.out.1,<-dJ,<-dJ];omega
  .obtain rfl:a=i:=O;go_wp2_with fail;go_end0
   refine⟨rfl,?_,f.2⟩;have:=f.1;grind
def NoL(st:List Int):Prop:=∀a∈st,100<=a/\a<=133\/a<100/\a≠2/\a≠3
def noB(st:List Int):Bool:=st.all λa=>decide (100<=a/\a<=133\/a<100/\a≠2/\a≠3)
def aqb:((B6 34).all λs=>(B6 78).all λt=>match fi 8 [(s:Int)+100] ((t:Int)+1) 0 with|some (lo,some _,_)=>noB lo|_=>Y)=Y:=by rfl
def amy:((B6 34).all λs=>decide (((xE ((s:Int)+100) 2).1=[]/\(xE ((s:Int)+100) 2).2=Y)↔((xE ((s:Int)+100) 3).1=[]/\(xE ((s:Int)+100) 3).2=Y))&&(match fi 8 [(s:Int)+100] 2 0,fi 8 [(s:Int)+100] 3 0 with|some (_,some a,_),some (_,some b,_)=>a==b|none,none=>Y|some (_,none,_),some (_,none,_)=>Y|_,_=>B2))=Y:=by rfl
theorem NoL.feed:∀{st:List Int}{k:Int},NoL st->1<=k->k<=78->NoL (feedL st k).1
 |[],k,h,_,_=>h
 |s::r,k,h,f,g=>by
  have d:NoL r:=λb a=>h b (dC _ a);have l:=h s bH;rw[feedL];split
  .exact d
  rename_i j;split
  .exact d.feed f g
  have c:=List.all_eq_true.1 (List.all_eq_true.1 aqb (s-100).toNat U) (k-1).toNat U;rw[(O:(((s-100).toNat:Nat):Int)+100=s),(O:(((k-1).toNat:Nat):Int)+1=k)]at c;split
  .rename_i m i n e;rw[e]at c;intro b a;rcases List.mem_append.1 a with q|q
   .exact be (List.all_eq_true.1 c b q)
   .exact d b q
  .exact λb a=>by cases a
theorem NoL.two:∀{st:List Int},NoL st->(feedL st 2).2=(feedL st 3).2
 |[],h=>rfl
 |s::r,h=>by
  have d:NoL r:=λf e=>h f (dC _ e);have g:=h s bH;rw[feedL,feedL];by_cases c:s<100
  .grind
  rw[aa c,aa c];have a:=List.all_eq_true.1 amy (s-100).toNat U;rw[(O:(((s-100).toNat:Nat):Int)+100=s),cH,ga]at a;by_cases b:(xE s 2).1=[]/\(xE s 2).2=Y
  .rw[ab b,ab (a.1.1 b)];exact d.two
  grind
theorem xB(st:List Int)(k:Int):∀j:Nat,k∈lA st j↔1<=k/\k<=j/\(feedL st k).2=Y
 |0=>by simp[lA];omega
 |j+1=>by
  have a:=xB st k j;rw[lA];grind
def Az:List Int->Bool
 |[]=>Y
 |c::r=>(c !=120||r.head?==X 121)&&Az r
theorem ajm:∀{a b:List Int},Az a=Y->Az b=Y->Az (a++b)=Y
 |[],b,_,h=>h
 |[c],b,h,e=>by
  simp only[Az,List.head?_nil,Bool.and_true]at h;simp only[dt,dI,Az,e,Bool.and_true];grind
 |c::d::r,b,h,e=>by
  rw[Az,cH]at h;rw[dt,Az,ajm h.2 e,Bool.and_true];grind
theorem aeC:∀{a:List Int}{c:Int}{r:List Int},Az (a++[c])=Y->Az (c::r)=Y->Az (a++c::r)=Y
 |[],c,r,_,h=>h
 |[d],c,r,h,b=>by
  simp only[dt,dI]at h⊢;rw[Az,cH]at h;rw[Az,b,Bool.and_true];grind
 |d::e::a,c,r,h,b=>by
  rw[dt,Az,cH]at h;rw[dt,Az,aeC h.2 b,Bool.and_true];grind
def aqc:((B6 34).all λs=>(B6 78).all λt=>match fi 8 [(s:Int)+100] ((t:Int)+1) 0 with|some (lo,some b,_)=>Az (if s=20 then lo++[121] else lo)&&(if b=Y/\(t=1\/t=2) then(if lo=[] then s==20 else(feedL lo 72).2) else Y)|_=>Y)=Y:=by rfl
theorem aof{k:Int}(c:100<=s)(d:s<=133)(f:1<=k)(g:k<=78){lo:List Int}{b:Bool}(e:fi 8 [s] k 0=X (lo,X b,n)):Az (if s=120 then lo++[121] else lo)=Y/\(b=Y->k=2\/k=3->(lo=[]/\s=120)\/(lo≠[]/\(feedL lo 72).2=Y)):=by
 have a:=List.all_eq_true.1 (List.all_eq_true.1 aqc (s-100).toNat U) (k-1).toNat U;grind
theorem Fp:∀{a:List Int}{t:Int}(b:List Int),(feedL a t).2=Y->feedL (a++b) t=((feedL a t).1++b,Y)
 |[],t,b,h=>by simp[feedL]at h
 |s::r,t,b,h=>by
  rw[dt];rw[feedL]at h⊢;rw[feedL];by_cases g:s<100
  .grind
  rw[aa g]at h;rw[aa g,aa g];by_cases c:(xE s t).1=[]/\(xE s t).2=Y
  .rw[ab c]at h;rw[ab c,ab c];exact Fp b h
  rw[aa c]at h;rw[aa c,aa c];revert h;rcases fi 8 [s] t 0 with _|⟨lo,_|b',n⟩;all_goals grind
theorem aqd{lo:List Int}(h:Az (if s=120 then lo++[121] else lo)=Y)(a:Az (s::r)=Y):Az (lo++r)=Y:=by
 rw[Az,cH]at a;split at h
 .rename_i c;have:r.head?=X 121:=U;obtain _|⟨b,d⟩:=r
  .grind
  obtain rfl:b=121:=U;exact aeC h a.2
 .exact ajm h a.2
theorem aeD:∀{st:List Int}{k:Int},NoL st->Az st=Y->1<=k->k<=78->Az (feedL st k).1=Y
 |[],k,_,h,_,_=>h
 |s::r,k,hn,h,a,b=>by
  have e:NoL r:=λg f=>hn g (dC _ f);have j:=hn s bH;have c:Az r=Y:=by rw[Az,cH]at h;grind
  rw[feedL];split
  .exact c
  split
  .exact aeD e c a b
  split
  .rename_i l i m d;exact aqd (aof O O a b d).1 h
  .rfl
theorem aeE:∀{st:List Int}{k:Int},NoL st->Az st=Y->k=2\/k=3->(feedL st k).2=Y->(feedL (feedL st k).1 72).2=Y
 |[],k,_,_,_,h=>by simp[feedL]at h
 |s::r,k,hn,h,d,a=>by
  have i:NoL r:=λb j=>hn b (dC _ j);have m:=hn s bH;have f:=h;rw[Az,cH]at f;rw[feedL]at a⊢;by_cases g:s<100
  .grind
  rw[aa g]at a⊢;by_cases c:(xE s k).1=[]/\(xE s k).2=Y
  .rw[ab c]at a⊢;exact aeE i f.2 d a
  rw[aa c]at a⊢;revert a;cases e:fi 8 [s] k 0 with
  |none=>simp
  |some b=>
   obtain⟨n,_|b',o⟩:=b
   .simp
   simp only;rintro rfl;rcases(aof O O O O e).2 rfl d with⟨rfl,rfl⟩|⟨_,l⟩
   .have:r.head?=X 121:=U;obtain _|⟨b,p⟩:=r
    .grind
    obtain rfl:b=121:=U;rfl
   .rw[Fp r l]
theorem su{s:Bz}(h:aC (ae s p)=Y):gD s p=2\/gD s p=3:=by
 have b:¬aJ (ae s p)=Y:=by
  unfold aC at h;unfold aJ;grind
 unfold gD;split
 .rename_i a;unfold rdI at a⊢;rw[aa b,ab h]at a⊢;split
  .unfold th;grind
  grind
 .unfold od;grind
structure Ivs (st:List Int) (b:Bool):Prop where
 no:NoL st
 um:Az st=Y
 cat:b=Y->(feedL st 72).2=Y
def Tq.iv{s:Bz}{st':List Int}{q j:Nat}{b a:Bool}(t:Tq s st q b st' j a)(h:Ivs st b):Ivs st' a:=by
 induction t with
 |nil _=>exact h
 |line _ _ _ _ _ d=>exact d ⟨h.no,h.um,λc=>by cases c⟩
 |@tok st st' q j b a e m n o f g k t d=>
  have i:e<=78:=by
   have:=(Bj s (blk s (s.size+1) q)).2;rw[<-f];unfold sepK;omega
  refine d ⟨h.no.feed g i,aeD h.no h.um g i,λc=>?_⟩;have l:=su c;have:e=2\/e=3:=by rw[<-f];unfold sepK;omega
  exact aeE h.no h.um this k
theorem iv0:Ivs [100,6] B2:=⟨λc b=>U,Z,λa=>by cases a⟩
theorem Fq{s:Bz}{K:List Int}:∀(f n:Nat),s.size<p+n+f->n<=Hi s p K f n/\(∀m,n<m->m<=Hi s p K f n->p+m<=s.size/\jI K (s.extract p (p+m))=Y)/\(∀m,n<m->m<Hi s p K f n->my s p m=B2)/\(p+(Hi s p K f n+1)<=s.size->jI K (s.extract p (p+(Hi s p K f n+1)))=Y->n<Hi s p K f n/\my s p (Hi s p K f n)=Y)
 |0,n,h=>by rw[Hi];grind
 |f+1,n,h=>by
  rw[Hi];split
  .rename_i g;split
   .grind
   .rename_i e;obtain⟨a,b,c,d⟩:=Fq (s:=s) (K:=K) f (n+1) O;grind
  grind
def qc(c:Int):Bz:=
 if c=1 then⟨#[97]⟩ else if c=106 then⟨#[105,110,32,48,32,123,125]⟩ else if c=110\/c=114 then⟨#[61,32,48]⟩ else if c=112\/c=117 then⟨#[40,41]⟩ else if c=115 then⟨#[46,97,32,61,32,48]⟩
 else if c=113 then⟨#[97,32,61,32,48]⟩ else if c=116 then⟨#[97,40,41]⟩ else if c=119\/c=120\/c=124\/c=131 then⟨#[48]⟩ else if c=128 then⟨#[46,46,46]⟩ else if c=132 then⟨#[123,125]⟩
 else if c=133 then⟨#[40,41,32,123,125]⟩ else if c<100 then eI c else⟨#[]⟩
def J3(c:Int):List Int:=
 if c=106 then [21,2,42,43] else if c=110\/c=114 then [47,2] else if c=112\/c=117 then [40,41] else if c=115 then [48,1,47,2] else if c=113 then [1,47,2] else if c=116 then [1,40,41]
 else if c=119\/c=120\/c=124\/c=131 then [2] else if c=128 then [49] else if c=132 then [42,43] else if c=133 then [40,41,42,43] else if c<100 then [c] else []
def J4:List Int->Int->Int
 |[],k=>k
 |c::r,k=>match J3 c with|[]=>J4 r k|t::_=>t
def ptK(c:Int):List Int:=if c=104 then [6,21,43] else if c=107\/c=109 then [42] else if(119<=c/\c<=122)\/c=133 then [6,41,42,43,45,46] else if c=123\/(126<=c/\c<=128) then [41] else if c=125 then [6,41,43] else if c=129\/c=130 then [43] else if c=132 then [6,12,41,42,43,45,46] else if c=102\/c=131 then [] else [6,43]
def tmL:List Int:=[1,12,21,41,43,45,46,47]
def Ft:List Int->Int->Bool
 |[],_=>Y
 |c::r,k=>decide (if c<100 then c∈6::tmL else c<=133/\J4 r k∈ptK c)&&Ft r k
def xJ:List Int->List Int->Option (List Int)
 |st,[]=>X st
 |st,k::ks=>if(feedL st k).2=Y then xJ (feedL st k).1 ks else Ax
def J5(k c:Int):Bool:=decide (100<=c/\(xE c k).1=[]/\(xE c k).2=Y)
def aqe:((B6 34).all λs=>(ptK ((s:Int)+100)).all λk=>(match xJ [(s:Int)+100] (J3 ((s:Int)+100)) with|some a=>a.all (J5 k)|none=>B2)&&(B6 78).all λt=>match fi 8 [(s:Int)+100] ((t:Int)+1) 0 with|some (lo,some true,_)=>Ft lo k|_=>Y)=Y:=by rfl
def aqf:((B6 34).all λs=>(if(xE ((s:Int)+100) 5).1=[]/\(xE ((s:Int)+100) 5).2=Y then J3 ((s:Int)+100)==[] else match fi 8 [(s:Int)+100] 5 0 with|some (lo,some true,_)=>lo==[100]&&J3 ((s:Int)+100)==[]|_=>Y))=Y:=by rfl
def ajn:∀(a b:List Int)(k:Int),J4 (a++b) k=J4 a (J4 b k)
 |[],b,k=>rfl
 |c::r,b,k=>by
  rw[dt,J4,J4];cases J3 c with
  |nil=>exact ajn r b k
  |cons t ts=>rfl
def aeF:∀(a b:List Int)(k:Int),Ft (a++b) k=(Ft a (J4 b k)&&Ft b k)
 |[],b,k=>rfl
 |c::r,b,k=>by rw[dt,Ft,Ft,aeF r b k,ajn,Bool.and_assoc]
section
variable {s k : Int}
theorem aaL(e:100<=s)(f:s<=133)(c:k∈ptK s):(∃b,xJ [s] (J3 s)=X b/\b.all (J5 k)=Y)/\∀{t:Int}{lo:List Int}{n:Nat},1<=t->t<=78->fi 8 [s] t 0=X (lo,X Y,n)->Ft lo k=Y:=by
 have a:=List.all_eq_true.1 aqe (s-100).toNat U;rw[(O:(((s-100).toNat:Nat):Int)+100=s)]at a;have a:=List.all_eq_true.1 a k c;rw[cH]at a;refine⟨?_,λ{t lo n} g h d=>?_⟩
 .grind
 .have a:=List.all_eq_true.1 a.2 (t-1).toNat U;grind
theorem aa0:∀{st:List Int}{t:Int},Ft st 6=Y->1<=t->t<=78->(feedL st t).2=Y->Ft (feedL st t).1 6=Y
 |[],t,h,_,_,a=>by rfl
 |s::r,t,h,d,f,a=>by
  rw[Ft,cH,ga]at h;rw[feedL]at a⊢;by_cases g:s<100
  .grind
  have c:=h.1;rw[aa g]at a⊢ c;by_cases b:(xE s t).1=[]/\(xE s t).2=Y
  .rw[ab b]at a⊢;exact aa0 h.2 d f a
  rw[aa b]at a⊢;revert a;cases e:fi 8 [s] t 0 with
  |none=>simp
  |some i=>
   obtain⟨j,_|b',k⟩:=i
   .simp
   simp only;rintro rfl;rw[aeF,h.2,Bool.and_true];grind [aaL]
end
def Fu{k:Int}:∀{a:List Int}(st:List Int),a.all (J5 k)=Y->feedL (a++st) k=feedL st k
 |[],st,_=>rfl
 |c::a,st,h=>by
  rw[zC,cH]at h;unfold J5 at h;have g:=be h.1;rw[dt,feedL,aa O,ab g.2];exact Fu st h.2
theorem aa1:∀{ks a d:List Int}(b:List Int),xJ a ks=X d->xJ (a++b) ks=X (d++b)
 |[],a,d,b,h=>by
  grind [xJ,Option.some.injEq]
 |k::ks,a,d,b,h=>by
  rw[xJ]at h⊢;by_cases c:(feedL a k).2=Y
  .rw[ab c]at h;rw[Fp b c,ab rfl];exact aa1 b h
  grind
def Kw(x:Bz)(q:Nat):Nat:=if ae x q=32 then q+1 else q
def ksF(x:Bz):Nat->Nat->List Int
 |0,_=>[]
 |f+1,q=>if x.size<=q then [] else(rdI x (Kw x q)).k::ksF x f (rdI x (Kw x q)).a
def okX(x:Bz):Nat->Nat->Bool
 |0,_=>B2
 |f+1,q=>decide (x.size=q)||(decide (Kw x q<x.size/\¬ic (ae x (Kw x q))=Y/\ae x (Kw x q)≠45)&&((rdI x (Kw x q)).ok&&(decide (1<=(rdI x (Kw x q)).k/\(rdI x (Kw x q)).k≠7)&&okX x f (rdI x (Kw x q)).a)))
def aqg:((tmL++(B6 34).map λs:Nat=>(s:Int)+100).all λc=>okX (qc c) 9 0&&(ksF (qc c) 9 0==J3 c&&decide ((J3 c=[]↔(qc c).size=0)/\(qc c).size<=8)))=Y:=by decide+kernel
theorem aog(h:if c<100 then c∈tmL else c<=133):okX (qc c) 9 0=Y/\ksF (qc c) 9 0=J3 c/\(J3 c=[]↔(qc c).size=0)/\(qc c).size<=8:=by
 have a:=List.all_eq_true.1 aqg c (by
  rw[xg];split at h
  .grind
  .exact .inr (List.mem_map.2 ⟨(c-100).toNat,U,O⟩))
 grind
section
variable {T : Bz}
theorem Tq.trans{st' k:List Int}{q i j:Nat}{b a c:Bool}(t:Tq T st q b st' i a)(u:Tq T st' i a k j c):Tq T st q b k j c:=by
 induction t with
 |nil _=>exact u
 |line d e f g _ h=>exact .line d e f g (h u)
 |tok d e f g l m _ h=>grind [tok]
def xK(T:Bz)(st:List Int)(q:Nat)(b:Bool)(st':List Int):Prop:=∃a c,Tq T st q b st' a c/\blk T (T.size+1) a=T.size
theorem xK.blank{st st':List Int}{q:Nat}{b:Bool}(l:q<T.size)(k:ae T q=32)(t:xK T st (q+1) b st'):xK T st q b st':=by
 have m:=qj T q l (by rw[k];decide);obtain⟨f,a,t,c⟩:=t;cases t with
 |nil d=>exact⟨q,b,.nil O,O⟩
 |line d g h e t=>exact⟨f,a,.line O O U e U,c⟩
 |tok d g h e i j t=>exact⟨f,a,.tok O O U U i j U,c⟩
theorem asp{x:Bz}{c:Nat}(d:Ag T c x):∀(f q:Nat)(st:List Int)(b:Bool){st':List Int},okX x f q=Y->q<=x.size->xJ st (ksF x f q)=X st'->∃g,Tq T st (c+q) b st' (c+x.size) g
 |0,q,st,b,st',h,_,_=>by grind [okX]
 |f+1,q,st,b,st',h,C,e=>by
  have s:=d.le;rw[okX,xc,ga]at h;rcases h with rfl|h
  .rw[ksF,ab cJ,xJ]at e;cases e;exact⟨b,.nil s⟩
  simp only[cH,ga]at h;obtain⟨⟨i,z,A⟩,m,⟨o,B⟩,p⟩:=h;have t:q<x.size:=by grind [Kw]
  rw[ksF,aa O,xJ]at e;have E:=d.rdA i m;have y:=d.at_ _ i;have r:blk T (T.size+1) (c+q)=c+Kw x q:=by
   have w:blk T (T.size+1) (c+Kw x q)=c+Kw x q:=ux _ _ U O;have j:=w;unfold Kw at j⊢;split at j
   .rename_i l;rw[ab l,<-eH];rw[<-eH]at j;rw[qj T (c+q) O (by rw[d.at_ q t,l];decide)];omega
   grind
  have u:gD T (c+Kw x q)=(rdI x (Kw x q)).k:=by grind [gD]
  have v:=eD x _ i m;split at e
  .rename_i n;obtain⟨g,F⟩:=asp d f (rdI x (Kw x q)).a _ (aC (ae T (c+Kw x q))) p v.2.1 e;exact⟨g,.tok O O U (by rw[r,u];unfold sepK;omega) o n U⟩
  grind
def iF:List Int->Bz
 |[]=>⟨#[]⟩
 |c::r=>(if c=6 then⟨#[]⟩ else⟨#[32]⟩++qc c)++iF r
theorem asq(h:J3 c≠[])(k:Int):∃t,J4 (c::r) k=t/\(J3 c).head?=X t:=by
 rw[J4];grind
def Kx:List Int->Bool
 |[]=>B2
 |c::r=>if c=6 then r==[] else Kx r
theorem Fv:∀(st d:List Int)(q:Nat)(b:Bool),Ft st 6=Y->Kx st=Y->d.all (J5 (J4 st 6))=Y->q<=T.size->(∀i,ae T (q+i)=ae (iF st) i)->∃f,xK T (d++st) q b (f++[6])/\f.all (J5 6)=Y
 |[],d,q,b,_,h,_,_,_=>by cases h
 |c::r,d,q,b,n,e,p,an,ht=>by
  rw[Kx]at e;by_cases l:c=6
  .rw[ab l]at e;have ao:r=[]:=U;subst l ao;have a:=ht 0;rw[iF,ab rfl,iF]at a;have:q=T.size:=by
    rcases aH q T.size with g|g
    .have:=gI g;rw[du]at a;rw[a]at this;exact absurd this.1 Z
    .omega
   exact⟨d,⟨q,b,.nil an,by rw[oA _ _ O];omega⟩,p⟩
  rw[aa l]at e;rw[Ft,cH,ga]at n;obtain⟨j,n⟩:=n;have m:if c<100 then c∈tmL else c<=133:=by
   grind
  obtain⟨ap,ar,G,a5⟩:=aog m;have w:ae T q=32:=by
   have:=ht 0;rw[iF,aa l,du,dJ,fh,ab Z]at this;rw[this];rfl
  have F:=aF w;have z:∀i,ae T (q+1+i)=ae (qc c++iF r) i:=λi=>by
   have:=ht (1+i);rw[iF,aa l,dJ,fh,aa (by show ¬1+i<1;omega),<-eH]at this;rw[this]
   congr 1
   show 1+i-1=i;omega
  have s:∀i,ae T (q+1+(qc c).size+i)=ae (iF r) i:=λi=>by
   have:=z ((qc c).size+i);rw[fh,aa O,<-eH]at this;grind
  by_cases a:J3 c=[]
  .have A:=G.1 a;have g:¬c<100:=λg=>by
    have y:c∈tmL:=U;revert a;unfold tmL at y;simp only[gG,iC,iD]at y;rcases y with rfl|rfl|rfl|rfl|rfl|rfl|rfl|rfl<;>decide
   rw[aa g]at j;obtain⟨⟨d,o,B⟩,_⟩:=aaL O j.1 j.2;rw[a,xJ]at o;cases o;have ag:J4 (c::r) 6=J4 r 6:=by rw[J4,a]
   rw[ag]at p;rw[A]at s;obtain⟨f,t,x⟩:=Fv r (d++[c]) (q+1) b n e U O s;rw[eB,dt,dI]at t;exact⟨f,t.blank F w,x⟩
  .obtain⟨a0,ak,C⟩:=asq (r:=r) a 6;have a4:(qc c).size≠0:=λA=>a (G.2 A);have E:q+1+(qc c).size<=T.size:=by
    have:=z ((qc c).size-1);rw[fh,ab O]at this;have:=aF this (gI O).1;omega
   have H:Ag T (q+1) (qc c):=⟨λi am=>by rw[z i,fh,ab am],E,by
    have:=s 0;rw[du]at this;rw[this];obtain _|⟨ad,aL⟩:=r
    .exact bH
    rw[Kx]at e;rw[iF];by_cases v:ad=6
    .rw[ab v]at e;have:aL=[]:=U;subst this;rw[ab v,iF];exact bH
    .rw[aa v,dJ,fh,ab Z];decide⟩
   obtain⟨k,o,B⟩:∃k,xJ [c] (J3 c)=X k/\k.all (J5 (J4 r 6))=Y:=by
    by_cases g:c<100
    .rw[ab g]at m;refine⟨[],?_,rfl⟩;unfold tmL at m;simp only[gG,iC,iD]at m;rcases m with rfl|rfl|rfl|rfl|rfl|rfl|rfl|rfl<;>decide
    .rw[aa g]at j;exact(aaL O j.1 j.2).1
   have al:xJ (d++c::r) (J3 c)=X (k++r):=by
    rw[<-aa1 r o];obtain⟨u,af⟩:∃u,J3 c=u:=⟨_,rfl⟩;rw[af]at C⊢;obtain _|⟨a1,a6⟩:=u
    .cases C
    obtain rfl:a1=a0:=U;rw[ak]at p;rw[xJ,xJ,Fu _ p];rfl
   obtain⟨K,t⟩:=asp H 9 0 (d++c::r) b ap nH (by rw[ar];exact al);obtain⟨f,⟨av,L,a2,a3⟩,x⟩:=Fv r k (q+1+(qc c).size) K n e B E s;exact⟨f,xK.blank F w ⟨av,L,t.trans a2,a3⟩,x⟩
theorem aeG:∀(a:List Int){b:List Int},a.all (λc=>c !=6)=Y->Kx b=Y->Kx (a++b)=Y
 |[],b,_,h=>h
 |c::a,b,h,d=>by
  rw[zC,cH]at h;rw[dt,Kx,aa U];exact aeG a h.2 d
def xK.tokF{a:List Int}{q:Nat}{b:Bool}(t:Tq T [100,6] 0 B2 st q b)(u:xK T st q b (a++[6]))(h:a.all (J5 6)=Y):(tokF T).2= -1:=by
 obtain⟨g,f,e,d⟩:=u;have c:=Aj (t.trans e) (.end_ d);unfold Go.Proofs.YtiaechpcebhcdaaGreatDoor.tokF;rw[c];simp only;rw[aa O,Fu _ h,ab Z]
end
inductive Bkc (C:Cd) (T:Int) (d:Int):Nat->Cr->List Nd->List Int->Cr->List Nd->Prop
 |stop {n:Nat}{c:Cr}{L:List Nd}:n=0\/¬5<T-List.length L->Bkc C T d n c L [] c L
 |cons {n:Nat}{c c1 c2:Cr}{L L1 L2:List Nd}{z:Int}{l:List Int}:5<T-List.length L->Rb C T 107 [.int .i64 d] c L (.int .i64 z) c1 L1->Bkc C T d n c1 L1 l c2 L2->Bkc C T d (n+1) c L (z::l) c2 L2
section
variable {T : Int} {c0 c : Cr} {L0 L : List Nd} {y m : Int}
theorem bkc(p:Pd T c0 L0 m)(C:Cd){ms cs:Int}(hS:FB 107 d ms 6 cs 0)(E:1<=ms/\ms+1<=m)(B:0<=cs/\cs<=3900)(G:y<=500):∀(n:Nat)(c:Cr)(L:List Nd),Mv T c0 L0 c L y->∃(l:List Int) (e:Cr) (a:List Nd),Q l<=n/\Pl l/\((T-Q L<5->Q a=Q L)/\(5<=T-Q L->5-cs<=T-Q a))/\Mv T c0 L0 e a y/\Bkc C T d n c L l e a:=by
 intro n;have F:=p.m0
 induction n with
 |zero=>exact λc L b=>⟨[],c,L,cJ,pl0,O,b,.stop (.inl rfl)⟩
 |succ n t=>
  intro c L b;by_cases f:5<T-Q L
  .obtain⟨v,o,i,s,x,w,h⟩:=b.sub p C hS;have⟨l,q,j,A,r,z,k,g⟩:=t o i U;exact⟨v::l,q,j,U,λu hx=>by rcases List.mem_cons.1 hx with rfl|hx;exact s;exact r u hx,O,k,.cons f h g⟩
  .exact⟨[],c,L,nH,pl0,O,b,.stop (.inr f)⟩
end
theorem ajo{ms m cs:Int}(C:1<=ms/\ms+1<=m)(B:0<=cs/\cs<=3900)(hS:FB 107 d ms 6 cs 0):FB 176 d m 1 (cs+1) 100:=by
 intro g l ba L c;have a0:=c.lo;have a3:=c.m0;have⟨n,an,E,v,a6⟩:=c.mv.pick c g 4;obtain⟨n,rfl⟩:=eJ E.1;have⟨ks,ao,u,aL,z,ar,o,e⟩:=bkc c g hS C B Z n an L v;have A:=o.len c;refine⟨_,_,_,o.fin c (k:=1) (op:=0) (n:=0) (t:=⟨#[]⟩) (nm:=[]) (ks:=ks) (jp lC li z),λH ag af y=>?_⟩;have bj:n<=3:=O;have b:=y.at.nilI;have cs:=b.cs;clear v o ar c a0 a3 B C E z y aL hS;go_in;go_wp2_with fail;refine b.runC a6 λw1 al _=>?_;clear b cs;go_wp2;go_loopw [5,6] (λa8 s wr=>∃(a:Nat) (f r:List Int) (p:Cr) (j:List Nd),s= A6 A3 a/\Q f+a<=3/\At g l H ag wr p j (rI a8 f::af)/\Bkc g l d a p j r ao u/\f++r=ks) (λ_ s _=>(B5 s).toNat)
 case atStart=>grind
 case round=>
  clear al e;obtain⟨a,f,r,p,j,rfl,q,b,F,h⟩:=hrel;have cs:=b.cs;cases F with
  |@cons a _ ap _ _ ad _ a9 a7 bf K G=>
   have bg:(0:Int)<((a+1:Nat):Int):=O;have bk:IntKind.i64.wrap (((a+1:Nat):Int)-1)=(a:Int):=by rw[bJ];omega
   have i:=fD q h;have bh:a<=3:=O;clear q h;go_wp2_with fail;refine b.run K λbn w=>?_;have e:=aj w;clear b w cs;go_wp2_with (at_builtin;refine e.out.app rfl (by have:=i.1;omega) rfl _ _ rfl rfl rfl ?_;intro ak bc bo am);go_roundw
   case rel=>exact⟨a,f++[a9],a7,ap,ad,by go_num,by have:=i.1;grind,am,G,by rw[eB];exact i.2⟩
   case measure=>simp[B5]
  |stop a5=>
   rw[dD]at h;subst h;obtain⟨ak,bb,rfl⟩:=b.form;rw[dr]at b⊢;have e:=aj b.nilS;clear b;have a4:(0<(a:Int)/\¬5<l-Q u)\/¬0<(a:Int):=O;clear a5 q;rcases a4 with⟨q1,bl⟩|q1;all_goals
    go_wp2_with fail;refine e.out.add A.1.2 A.1.1 λbp x=>?_;go_wp2;go_ret;exact⟨rfl,x.bd,x.bel⟩
inductive Tbc (C:Cd) (T:Int) (d:Int):Nat->Cr->List Nd->List Int->Cr->List Nd->Prop
 |nil (c:Cr) (L:List Nd):Tbc C T d 0 c L [] c L
 |item {n:Nat}{c c1 c2 c3:Cr}{L L1 L3:List Nd}{z:Int}{l:List Int}:Rb C T 172 [.int .i64 d] c L (.int .i64 z) c1 L1->Rc C 29 [.int .i64 3] c1 (.int .i64 0) c2->List.length L1<=25000->Tbc C T d n c2 (L1++[dN 40 0 0 ⟨#[]⟩ [] [z]]) l c3 L3->Tbc C T d (n+1) c L ((List.length L1:Nat)::l) c3 L3
 |pair {n:Nat}{c c1 c2 c3 c4:Cr}{L L1 L2 L3:List Nd}{z y:Int}{l:List Int}:Rb C T 172 [.int .i64 d] c L (.int .i64 z) c1 L1->Rc C 29 [.int .i64 3] c1 (.int .i64 1) c2->Rb C T 172 [.int .i64 d] c2 L1 (.int .i64 y) c4 L2->List.length L2<=25000->Tbc C T d n c4 (L2++[dN 41 0 0 ⟨#[]⟩ [] [z,y]]) l c3 L3->Tbc C T d (n+1) c L ((List.length L2:Nat)::l) c3 L3
 |named {n:Nat}{c c1 c2 c3 c4:Cr}{L L1 L3:List Nd}{z o:Int}{t:Bz}{l:List Int}:Rb C T 172 [.int .i64 d] c L (.int .i64 z) c1 L1->Rc C 29 [.int .i64 3] c1 (.int .i64 o) c2->((o==0)=false/\(o==1)=false)->Rb C T 212 [] c2 L1 (.string t) c4 L1->List.length L1<=25000->Tbc C T d n c4 (L1++[dN 42 0 0 t [] [z]]) l c3 L3->Tbc C T d (n+1) c L ((List.length L1:Nat)::l) c3 L3
section
variable {T : Int} {c0 c : Cr} {L0 L : List Nd} {y m : Int}
theorem tbc(p:Pd T c0 L0 m)(C:Cd){me ce:Int}(af:FB 172 d me 1 ce 0)(a8:1<=me/\me+1<=m)(a6:0<=ce/\ce<=3900):∀(n:Nat)(c:Cr)(L:List Nd)(y:Int),Mv T c0 L0 c L y->y<=400->n<=3-> -20000+12*me+3*n<=T-Q L->∃(l:List Int) (K:Cr) (q:List Nd) (a:Int),a<=y/\Q l=n/\Pl l/\(Q L<=Q q/\Lf (3*n) (ce+3*n) (T-Q L) (T-Q q))/\Mv T c0 L0 K q a/\Tbc C T d n c L l K q:=by
 intro n;have a9:=p.m0
 induction n with
 |zero=>exact λc L y u _ _ _=>⟨[],c,L,y,Int.le_refl _,rfl,pl0,⟨cJ,O⟩,u,.nil c L⟩
 |succ n A=>
  intro c L y u bc ba a7;have⟨G,av,ap,z,aL,al,B⟩:=u.sub p C af;have⟨t,am,bb,r,E⟩:=al.pick p C 3;have s:∀{H:List Nd}{N:Nd},(Q (H++[N]):Int)=Q H+1:=I;rcases((O:t=0\/t=1\/(t≠0/\t≠1))) with rfl|rfl|⟨an,ao⟩
  .have o:=r.len p;have b:=r.on (N:=dN 40 0 0 ⟨#[]⟩ [] [G]) (jp lC li (pl1 z)) (iz 19) O;obtain⟨l,j,h,a,ad,x,k,e,i,g⟩:=A am _ _ b O O U;rw[s]at e;exact⟨_::l,j,h,a,O,U,λf hx=>by rcases List.mem_cons.1 hx with rfl|hx;exact⟨O,O⟩;exact k f hx,⟨U,O⟩,i,.item B E o.1.1 g⟩
  .obtain⟨f,w,ar,hx,a0,b,F⟩:=r.sub p C af;have o:=b.len p;have v:=b.on (N:=dN 41 0 0 ⟨#[]⟩ [] [G,f]) (jp lC li (pl2 z hx)) (iz 19) O;obtain⟨l,j,h,a,ad,x,k,e,i,g⟩:=A w _ _ v O O U;rw[s]at e;exact⟨_::l,j,h,a,O,U,λf hx=>by rcases List.mem_cons.1 hx with rfl|hx;exact⟨O,O⟩;exact k f hx,⟨by have:=e.1;simp at this;omega,O⟩,i,.pair B E F o.1.1 g⟩
  .obtain⟨ak,w,ag,b,F⟩:=r.short p C;have o:=b.len p;have v:=b.on (N:=dN 42 0 0 ak [] [G]) (jp (aix Z ag) li (pl1 z)) (by have:=ag.sz;show ak.size<=19;omega) O;obtain⟨l,j,h,a,ad,x,k,e,i,g⟩:=A w _ _ v O O (by rw[s];omega);rw[s]at e;exact⟨_::l,j,h,a,O,by simp[x],λf hx=>by rcases List.mem_cons.1 hx with rfl|hx;exact⟨O,O⟩;exact k f hx,⟨by have:=e.1;simp at this;omega,O⟩,i,.named B E ⟨by simpa using an,by simpa using ao⟩ F o.1.1 g⟩
end
def aqh{me m ce:Int}(a5:1<=me/\me+1<=m)(aL:0<=ce/\ce<=3900)(a0: -1000<=d/\d<=1000)(ar:FB 172 (d-1) me 1 ce 0):FB 214 d m 10 (ce+10) 100:=by
 intro x ad bD K j;have bs:=j.lo;have bt:=j.m0;have b9:=w1 a0;have⟨n,ak,a6,af,bw⟩:=j.mv.pick j x 4;obtain⟨n,rfl⟩:=eJ a6.1;obtain⟨ks,bn,bj,cc,bv,br,ap,bp,A,e⟩:=tbc j x ar a5 aL n ak K _ af Z O O;have E:=A.len j;have F:=E.1.2;refine⟨_,_,_,A.fin j (k:=35) (op:=0) (n:=0) (t:=⟨#[]⟩) (nm:=[]) (ks:=ks) (jp lC li ap),λbh bl bk ao=>?_⟩;have b7:n<=3:=O;have b:=ao.at.nilI;have l:=b.cs;clear af A bp j bs bt aL a5 a6 ap ao br ar a0 bv;go_in;go_wp2_with fail;refine b.runC bw λw1 ag _=>?_;clear b l;go_wp2;go_loopw [5,6] (λbx H wr=>∃(a:Nat) (o G:List Int) (C:Cr) (z:List Nd),H= A6 A3 a/\Q o+a<=3/\At x ad bh bl wr C z (rI bx o::bk)/\Tbc x ad (d-1) a C z G bn bj/\o++G=ks) (λ_ H _=>(B5 H).toNat)
 case atStart=>exact⟨n,[],ks,ak,K,rfl,byT,ag,e,rfl⟩
 case round=>
  clear ag e;obtain⟨a,o,G,C,z,rfl,a3,b,bg,u⟩:=hrel;have f:=fD a3 u;have b0:a<=3:=O;clear a3 u;cases bg with
  |nil=>
   have u:=f.2;rw[dD]at u;subst u;obtain⟨B,bE,rfl⟩:=b.form;rw[dr]at b⊢;have e:=aj b.nilS;clear b;go_wp2_with fail;refine e.out.add E.1.2 E.1.1 λbb i=>?_;go_wp2;go_ret;exact⟨rfl,i.bd,i.bel⟩
  |@item a _ al am _ _ L _ bf w q r v p=>
   have a4:(0:Int)<((a+1:Nat):Int):=O;have a7:IntKind.i64.wrap (((a+1:Nat):Int)-1)=(a:Int):=by rw[bJ];omega
   go_wp2_with fail;refine b.run q λa8 c=>?_;clear b;have l:=c.cs;go_wp2_with fail;refine c.runC r λa9 g _=>?_;clear c l;go_wp2_with fail;refine g.lit1.kids F v λba h=>?_;have e:=aj h;clear g h;go_wp2_with (at_builtin;refine e.out.app rfl (by have:=f.1;omega) rfl _ _ rfl rfl rfl ?_;intro B an bc s);go_roundw
   case rel=>exact⟨a,o++[_],w,_,_,by go_num,by have:=f.1;simp;omega,s,p,by rw[eB];exact f.2⟩
   case measure=>simp[B5]
  |@pair a _ al am _ bo _ L bA _ bf cb w q r y v p=>
   have a4:(0:Int)<((a+1:Nat):Int):=O;have a7:IntKind.i64.wrap (((a+1:Nat):Int)-1)=(a:Int):=by rw[bJ];omega
   go_wp2_with fail;refine b.run q λa8 c=>?_;clear b;have l:=c.cs;go_wp2_with fail;refine c.runC r λa9 g _=>?_;clear c l;go_wp2_with fail;refine g.run y λba h=>?_;clear g;go_wp2_with fail;refine h.lit2.kids F v λbb i=>?_;have e:=aj i;clear h i;go_wp2_with (at_builtin;refine e.out.app rfl (by have:=f.1;omega) rfl _ _ rfl rfl rfl ?_;intro B an bc s);go_roundw
   case rel=>exact⟨a,o++[_],w,_,_,by go_num,by have:=f.1;simp;omega,s,p,by rw[eB];exact f.2⟩
   case measure=>simp[B5]
  |@named a _ al am _ bo _ L _ bf ca t w q r b8 y v p=>
   have a4:(0:Int)<((a+1:Nat):Int):=O;have a7:IntKind.i64.wrap (((a+1:Nat):Int)-1)=(a:Int):=by rw[bJ];omega
   go_wp2_with fail;refine b.run q λa8 c=>?_;clear b;have l:=c.cs;go_wp2_with fail;refine c.runC r λa9 g _=>?_;clear c l;go_wp2_with fail;refine g.run y λba h=>?_;clear g;go_wp2_with fail;refine h.lit1.nilS.add F v λbb i=>?_;have e:=aj i;clear h i;go_wp2_with (at_builtin;refine e.out.app rfl (by have:=f.1;omega) rfl _ _ rfl rfl rfl ?_;intro B an bc s);go_roundw
   case rel=>exact⟨a,o++[_],w,_,_,by go_num,by have:=f.1;simp;omega,s,p,by rw[eB];exact f.2⟩
   case measure=>simp[B5]
def po(u:Nat):Bz:=⟨(D4 u).toArray⟩
def agw(u:Nat):(po u).size=Lib.nDigits u:=by
 unfold po;show(D4 u).toArray.size=_;rw[iB,Lib.decDigits_length]
def acG{u:Nat}(h:u<10):po u=⟨#[UInt8.ofNat (48+u)]⟩:=by unfold po;rw[D4,pG h]
def ajp{u:Nat}(h:¬u<10):po u=po (u / 10)++⟨#[UInt8.ofNat (48+u%10)]⟩:=by
 unfold po;rw[D4,dif_neg h];rfl
def aeH(u:Nat)(h:u<10):ae ⟨#[UInt8.ofNat (48+u)]⟩ 0=48+(u:Int):=by
 iterate 10 (obtain _|u:=u;· decide)
 omega
def aeI{s t:Bz}:∀n,(∀i,i<n->ae s (p+i)=ae t (p+i))->qu s p n=qu t p n
 |0,_=>rfl
 |n+1,h=>by rw[qu,qu,aeI n (λi a=>h i O),h n O]
theorem acH(u:Nat):0<(po u).size/\(∀i,i<(po u).size->aC (ae (po u) i)=Y)/\(u≠0->ae (po u) 0≠48)/\(u<10->(po u).size=1)/\(u<=9223372036854775807->qu (po u) 0 (po u).size=X u):=by
 induction u using Nat.strongRecOn with
 |_ u n=>
  by_cases c:u<10
  .have b:=acG c;have d:(po u).size=1:=by rw[b];rfl
   have e:ae (po u) 0=48+(u:Int):=by rw[b];exact aeH u c
   refine⟨O,λi h=>?_,λo=>O,λ_=>d,λ_=>?_⟩
   .obtain rfl:i=0:=O;rw[e];simp[aC];omega
   .rw[d,qu,qu];grind
  .have b:=ajp c;have⟨l,m,q,_,j⟩:=n (u / 10) O;obtain⟨a,f⟩:∃a,(po (u / 10)).size=a:=⟨_,rfl⟩;have d:(po u).size=a+1:=by rw[b,ax,f];rfl
   have e:∀i,ae (po u) i=if i<a then ae (po (u / 10)) i else ae ⟨#[UInt8.ofNat (48+u%10)]⟩ (i-a):=λi=>by rw[b,fh,f]
   have k:ae (po u) a=48+((u%10:Nat):Int):=by rw[e,aa O,fI];exact aeH _ O
   rw[f]at l m j;refine⟨O,λi h=>?_,λ_=>?_,λg=>absurd g c,λp=>?_⟩
   .rcases aH i a with g|g
    .grind
    .obtain rfl:i=a:=O;rw[k];simp[aC];omega
   .grind
   .rw[d,qu,aeI (t:=po (u / 10)) a (λi h=>U),j O];grind
theorem aeJ(u:Nat):∀r,ae (hxO u r) 0=48/\ae (hxO u r) 1=120/\∀j,j<r->ae (hxO u r) (2+j)=hxd u (15-j)
 |0=>⟨rfl,rfl,λj c=>O⟩
 |r+1=>by
  have⟨f,h,h3⟩:=aeJ u r;have d:=vJ u r;have b:∀a,ae (hxO u (r+1)) a=if a<r+2 then ae (hxO u r) a else ae (gL [hxd u (15-r)]) (a-(r+2)):=λa=>by show ae (hxO u r++_) a=_;rw[fh,d]
  refine⟨U,U,λj c=>?_⟩;rcases aH j r with g|g
  .grind
  .obtain rfl:j=r:=O;rw[b,aa O,(O:2+j-(j+2)=0),ahn _ (λi e=>by
    rw[List.mem_singleton.1 e];unfold hxd;have:=IF ((u / 16 ^ (15-j)%16:Nat):Int) O O;omega)]
   rfl
theorem J6(V:Array A0)(base:Int)(r:Bz):∀(f i:Nat)(a:Int×Nat),(xG V base r f i a).1=a.1\/(base+i<=(xG V base r f i a).1/\(xG V base r f i a).1<base+i+f)
 |0,i,a=> .inl rfl
 |f+1,i,a=>by
  rw[xG];rcases J6 V base r f (i+1) (if a.2<(bq V i).size/\Lib.hasPrefix r.data.toList (bq V i).data.toList=Y then(base+(i:Int),(bq V i).size) else a) with h|h;all_goals grind
def ajq(r:Bz)(j:0<r.size)(k:lH r≠0):(lH r=5\/lH r=7\/(40<=lH r/\lH r<=78))/\∀i,i<(fJ (lH r)).size->ae r i=ae (fJ (lH r)) i:=by
 by_cases e:ae r 0=59
 .have a:lH r=5:=by unfold lH;omega
  rw[a];exact⟨.inl rfl,λi b=>by
   have:i<1:=b;obtain rfl:i=0:=O;rw[e];decide⟩
 by_cases f:ae r 0=10
 .have a:lH r=7:=by unfold lH;omega
  rw[a];exact⟨.inr (.inl rfl),λi b=>by
   have:i<1:=b;obtain rfl:i=0:=O;rw[f];decide⟩
 have a:lH r=(xG lK 61 r 18 0 (xG je 40 r 11 0 (0,0))).1:=by unfold lH;omega
 have l:=J6 je 40 r 11 0 (0,0);have g:=J6 lK 61 r 18 0 (xG je 40 r 11 0 (0,0));have h:=uw je 40 r 11 O Jh 11 0 (0,0) O (.inl ⟨rfl,rfl⟩);have d:=uw lK 61 r 18 O Ji 18 0 _ O h;rw[<-a]at g d;refine⟨.inr (.inr ?_),?_⟩
 .omega
 .rcases d with⟨c,_⟩|⟨_,_,c,_⟩
  .omega
  .exact(Dq r _).1 c
inductive D (tk:Nat->Tk) (n:Nat):Nat->List Int->Nat->Nat->Prop where
 |nil {i:Nat}:D tk n 0 [] i i
 |tok {m:Nat}{s:Int}{r:List Int}{i j:Nat}:s<100->(tk i).k=s->i<n->D tk n m r (i+1) j->D tk n (m+1) (s::r) i j
 |exp {m:Nat}{s:Int}{r:List Int}{i j:Nat}:100<=s->i<n->(xE s (tk i).k).2=true->D tk n m ((xE s (tk i).k).1++r) i j->D tk n (m+1) (s::r) i j
section
variable {tk : Nat → Tk} {n : Nat}
theorem D.split(h:D tk n m st i j):∀(a b:List Int),st=a++b->∃c d k,D tk n c a i k/\D tk n d b k j/\c+d=m:=by
 induction h with
 |nil=>
  intro a b e;obtain⟨rfl,rfl⟩:a=[]/\b=[]:=byS;exact⟨0,0,_,.nil,.nil,rfl⟩
 |@tok m o s i j f g l u r=>
  intro a b e;cases a with
  |nil=>
   rw[dI]at e;exact⟨0,m+1,i,.nil,by grind [tok],O⟩
  |cons t a=>
   obtain⟨rfl,rfl⟩:o=t/\s=a++b:=U;obtain⟨c,d,k,p,q,v⟩:=r a b rfl;exact⟨c+1,d,k,.tok f g l p,q,O⟩
 |@exp m o s i j f g l u r=>
  intro a b e;cases a with
  |nil=>
   rw[dI]at e;exact⟨0,m+1,i,.nil,by rw[<-e];exact .exp f g l u,O⟩
  |cons t a=>
   obtain⟨rfl,rfl⟩:o=t/\s=a++b:=U;obtain⟨c,d,k,p,q,v⟩:=r ((xE o (tk i).k).1++a) b U;exact⟨c+1,d,k,.exp f g l p,q,O⟩
def D.cut(h:D tk n m (s::r) i j):∃a b k,D tk n a [s] i k/\D tk n b r k j/\a+b=m:=h.split [s] r rfl
def D.nils(h:D tk n m [] i j):i=j:=by cases h;rfl
theorem D.toks(h:D tk n m (s::r) i j)(f:s<100:=by omega):(tk i).k=s/\i<n/\∃a,D tk n a r (i+1) j/\a<m:=by
 cases h with
 |tok b c d e=>grind
 |exp b c d e=>omega
theorem D.exps(h:D tk n m (s::r) i j)(f:100<=s):i<n/\(xE s (tk i).k).2=Y/\∃a,D tk n a ((xE s (tk i).k).1++r) i j/\a<m:=by
 cases h with
 |tok b c d e=>omega
 |exp b c d e=>grind
theorem D.row(h:D tk n m [s] i j)(b:100<=s){x:List Int×Bool}(e:xE s (tk i).k=x):i<n/\x.2=Y/\∃a,D tk n a x.1 i j/\a<m:=by
 obtain⟨c,d,a,f,g⟩:=h.exps b;grind
structure Ex (tk:Nat->Tk) (n m:Nat):Prop where
 unit:∀{i j:Nat},D tk n m [120] i j->j<n->∃N ks,P tk n .unit i (one N ks) j
 expr:∀{i j:Nat},D tk n m [119] i j->j<n->∃N ks,P tk n (.expr 0) i (one N ks) j
 exprs:∀{i j:Nat},D tk n m [124] i j->j<n->∃R,P tk n .exprs i R j
 moreE:∀{i j:Nat},D tk n m [125] i j->j<n->∃R,P tk n .moreE i R j
 block:∀{i j:Nat},D tk n m [132] i j->j<n->∃N ks,P tk n .block i (one N ks) j
 stats:∀{i j:Nat},D tk n m [100] i j->j<n->(tk j).k=43\/(tk j).k=6->∃R,P tk n .stats i R j
 body:∀{i j:Nat}(s:Tk),D tk n m [133] i j->j<n->∃N ks,P tk n (.body s) i (one N ks) j
 entries:∀{i j:Nat},D tk n m [129] i j->j<n->(tk j).k=43->∃R,P tk n .entries i R j
 entry:∀{i j:Nat},D tk n m [131] i j->j<n->∃N ks,P tk n .entry i (one N ks) j
 els:∀{i j k k1:Nat}{x b:Fo},(tk i).k=20\/(tk i).k=15->i<n->P tk n (.expr 0) (i+1) x k->P tk n .block k b k1->D tk n m [105] k1 j->j<n->∃N ks,P tk n .branch i (one N ks) j
theorem amz(k:Int):1<=lpw k:=by
 grind [lpw]
def D.lt(h:D tk n m (s::r) i j):i<n:=by cases h<;>assumption
theorem tC{t:Int}(h:fC t=Y):t≠6/\t≠41/\t≠43/\t≠5/\t≠44/\t≠48/\t≠46:=by
 refine⟨?_,?_,?_,?_,?_,?_,?_⟩;all_goals
  rintro rfl;revert h;decide
theorem asr(B:∀i,(tk i).k<100):∀(m:Nat),(∀a,a<m->Ex tk n a)->∀{k j:Nat},D tk n m [121] k j->j<n->∀(p:Int)(s:Tk)(N:Nd)(ks:Fo),∃N' af k' a,P tk n (.more p s (one N ks)) k (one N' af) k'/\D tk n a [121] k' j/\a<=m/\(jm (tk k').k=Y->lpw (tk k').k<p):=by
 intro m
 induction m using Nat.strongRecOn with
 |_ m h=>
  intro d k j c g p s N ks;by_cases f:jm (tk k).k=Y/\p<=lpw (tk k).k
  .obtain⟨E,_,a4,r,ar⟩:=c.row O (x:=([(tk k).k,119],Y)) (by grind [xE,ald]);obtain⟨_,_,a5,u,av⟩:=r.toks (B k);obtain⟨v,C,a6,w,aL⟩:=u.row O (x:=([120,121],fC (tk (k+1)).k)) byR;obtain⟨am,an,a3,y,e,a0⟩:=w.cut;obtain⟨q,al,K⟩:=(d am O).unit y e.lt;obtain⟨l,ag,L,ao,F,z,a1,_⟩:=h an O (λa b=>d a O) e g (rpw (tk k).k) (tk (k+1)) q al;obtain⟨o,ak,ad,ap,G,A,a2,H⟩:=h ao O (λa b=>d a O) z g p s (AK (tk k).k s (tk (L-1)).t) ((one N ks).app (one l ag));exact⟨o,ak,ad,ap,.mgo E f.1 f.2 (.ex (tC C).1 v K F) G,A,O,H⟩
  .exact⟨N,ks,k,m,.mstop c.lt (λb=>U),c,cJ,λb=>U⟩
def amA(p:∀i,(tk i).k<100)(e:∀a,a<m->Ex tk n a)(r:D tk n m [119] i j)(u:j<n):∃N ks,P tk n (.expr 0) i (one N ks) j:=by
 obtain⟨t,q,F,g,C⟩:=r.row O (x:=([120,121],fC (tk i).k)) byR;obtain⟨A,B,k,h,d,E⟩:=g.cut;obtain⟨N,ks,y⟩:=(e A O).unit h d.lt;obtain⟨f,z,b,a,v,l,_,w⟩:=asr p B (λa c=>e a O) d u 0 (tk i) N ks;have s:jm (tk b).k=B2:=by
  cases c:jm (tk b).k with
  |false=>rfl
  |true=>have:=w c;have:=amz (tk b).k;omega
 obtain⟨_,_,G,o,_⟩:=l.row O (x:=([],Y)) (by simp[xE,ald,s]);obtain rfl:=o.nils;exact⟨f,z,.ex (tC q).1 t y v⟩
def fam(S:Int):Int:=if S<=112 then 1 else if S<=115 then 2 else if S<=118 then 3 else 4
def amB{S t:Int}(hS:S=110\/S=111\/S=112\/S=114\/S=115\/S=117\/S=118\/S=122)(h:ab6 t=Y):∃a c,xE S t=(ry t a c,Y)/\(a=110\/a=114\/a=117\/a=122)/\(c=111\/c=115\/c=118\/c=122)/\fam a=fam S/\fam c=fam S:=by
 have b:t=48\/t=44\/t=40:=be h;rcases hS with rfl|rfl|rfl|rfl|rfl|rfl|rfl|rfl
 .exact⟨110,111,by rcases b with rfl|rfl|rfl<;>decide,O,O,rfl,rfl⟩
 .exact⟨110,111,by rcases b with rfl|rfl|rfl<;>decide,O,O,rfl,rfl⟩
 .exact⟨110,111,by rcases b with rfl|rfl|rfl<;>decide,O,O,rfl,rfl⟩
 .exact⟨114,115,by rcases b with rfl|rfl|rfl<;>decide,O,O,rfl,rfl⟩
 .exact⟨114,115,by rcases b with rfl|rfl|rfl<;>decide,O,O,rfl,rfl⟩
 .exact⟨117,118,by rcases b with rfl|rfl|rfl<;>decide,O,O,rfl,rfl⟩
 .exact⟨117,118,by rcases b with rfl|rfl|rfl<;>decide,O,O,rfl,rfl⟩
 .exact⟨122,122,byR,O,O,rfl,rfl⟩
def ass:∀(m:Nat),(∀a,a<m->Ex tk n a)->∀{S:Int},(S=110\/S=111\/S=112\/S=114\/S=115\/S=117\/S=118\/S=122)->∀{k j:Nat},D tk n m [S] k j->j<n->∀(s:Tk)(N:Nd)(ks:Fo),∃N' a5 k' a b,P tk n (.post s (one N ks)) k (one N' a5) k'/\D tk n a [b] k' j/\a<=m/\ab6 (tk k').k=B2/\(b=110\/b=111\/b=112\/b=114\/b=115\/b=117\/b=118\/b=122)/\fam b=fam S:=by
 intro m
 induction m using Nat.strongRecOn with
 |_ m E=>
  intro q S hS k j ad C s N ks;cases hf:ab6 (tk k).k with
  |false=>exact⟨N,ks,k,m,S,.pstop ad.lt hf,ad,cJ,hf,hS,rfl⟩
  |true=>
   obtain⟨u,y,a4,ba,bb,a8,a9⟩:=amB hS hf;obtain⟨aL,_,bg,o,bc⟩:=ad.row O a4;have a3:=be hf;rcases a3 with e|e|e
   .rw[show(ry (tk k).k u y,Y).1=[48,1,u] by rw[e];rfl]at o;obtain⟨_,_,ao,v,al⟩:=o.toks;obtain⟨av,a0,F,p,am⟩:=v.toks;obtain⟨c,l,i,ak,d,p2,f,bd,g,h,H⟩:=E F O (λa K=>q a O) O p C s (nd 33 s (tk (k+1)).t 0 0 (tk (k+1)).x []) (one N ks);exact⟨c,l,i,ak,d,.pdot e av a0 p2,f,O,g,h,O⟩
   .rw[show(ry (tk k).k u y,Y).1=[44,119,45,u] by rw[e];rfl]at o;obtain⟨_,_,ao,v,al⟩:=o.toks;obtain⟨F,ak,ag,p,A,am⟩:=v.cut;obtain⟨ap,a6,af⟩:=(q F O).expr p A.lt;obtain⟨z,w,G,B,a2⟩:=A.toks;obtain⟨c,l,i,r,d,p2,f,an,g,h,H⟩:=E G O (λa K=>q a O) O B C s (lj 32 s (tk ag).t) ((one N ks).app (one ap a6));exact⟨c,l,i,r,d,.psq e aL af z w p2,f,O,g,h,O⟩
   .rw[show(ry (tk k).k u y,Y).1=[40,123,41,y] by rw[e];rfl]at o;obtain⟨_,_,ao,v,al⟩:=o.toks;obtain⟨F,ak,ag,p,A,am⟩:=v.cut;obtain⟨z,w,G,B,a2⟩:=A.toks;cases hb:fC (tk (k+1)).k with
    |false=>
     obtain⟨_,_,r,L,_⟩:=p.row O (x:=([],Y)) (by simp[xE,alf,hb]);obtain rfl:=L.nils;obtain⟨c,l,i,r,d,p2,f,an,g,h,H⟩:=E G O (λa K=>q a O) O B C s (lj 34 s (tk (k+1)).t) (one N ks);exact⟨c,l,i,r,d,.pcall0 e z w p2,f,O,g,h,O⟩
    |true=>
     obtain⟨a1,_,r,L,an⟩:=p.row O (x:=([124],Y)) (by simp[xE,alf,hb]);obtain⟨ar,af⟩:=(q r O).exprs L w;obtain⟨c,l,i,a7,d,p2,f,bf,g,h,H⟩:=E G O (λa K=>q a O) O B C s (lj 34 s (tk ag).t) ((one N ks).app ar);exact⟨c,l,i,a7,d,.pcall e a1 (tC hb).2.1 af z w p2,f,O,g,h,O⟩
theorem aeK{t a:Int}(h:ab6 t=B2):ry t a c=[]:=by
 have h:=jE h;grind [ry]
theorem D.join{l c:Nat}{a b:List Int}(h:D tk n l a i k)(q:D tk n c b k j):D tk n (l+c) (a++b) i j:=by
 induction h with
 |nil=>grind
 |@tok d p r i j e f g m o=>grind [tok]
 |@exp d p r i j e f g m o=>rw[(O:d+1+c=(d+c)+1)];exact .exp (r:=r++b) e f g U
def ajr(N:Nd)(ks:Fo)(s:Tk)(e:Int):∃N' a,oI N ks s e=one N' a:=by unfold oI;split<;>exact⟨_,_,rfl⟩
def aa2(p:∀b,b<m->Ex tk n b){S:Int}(hS:S=110\/S=111\/S=112\/S=114\/S=115\/S=117\/S=118\/S=122)(v:j<n)(hd:D tk n m [1,S] i j\/D tk n m [40,119,41,S] i j):∃N' ag k' b a,P tk n .base i (one N' ag) k'/\D tk n b [a] k' j/\b<m/\ab6 (tk k').k=B2/\(a=110\/a=111\/a=112\/a=114\/a=115\/a=117\/a=118\/a=122)/\fam a=fam S:=by
 rcases hd with hd|hd
 .obtain⟨f,q,y,o,H⟩:=hd.toks;obtain⟨c,s,r,u,d,p2,e,K,g,h,l⟩:=ass y (λb C=>p b O) hS o v (tk i) (nd 26 (tk i) (tk i).t 0 0 (tk i).x []) .nil;exact⟨c,s,r,u,d,.bname f q p2,e,O,g,h,l⟩
 .obtain⟨f,q,y,o,H⟩:=hd.toks;obtain⟨u,ap,ad,E,F,K⟩:=o.cut;obtain⟨A,w,al,G,an⟩:=F.toks;obtain⟨Nx,ak,L⟩:=(p u O).expr E w;obtain⟨z,af,B⟩:=ajr Nx ak (tk i) (tk ad).t;obtain⟨c,s,r,am,d,p2,e,ao,g,h,l⟩:=ass al (λb C=>p b O) hS G v (tk i) z af;rw[<-B]at p2;exact⟨c,s,r,am,d,.bopen f q L A w p2,e,O,g,h,l⟩
def D.names:∀(m:Nat){k j:Nat},D tk n m [104] k j->j<n->∃ns,Ku tk n k ns j/\(tk j).k≠46:=by
 intro m
 induction m using Nat.strongRecOn with
 |_ m q=>
  intro k j c d;by_cases a:(tk k).k=46
  .obtain⟨i,_,r,b,o⟩:=c.row O (x:=([46,1,104],Y)) (by simp[xE,ak8,a]);obtain⟨_,_,v,f,t⟩:=b.toks;obtain⟨e,l,s,g,u⟩:=f.toks;obtain⟨ns,p,h⟩:=q s O g d;exact⟨_,.go a l e p,h⟩
  .obtain⟨i,_,r,b,o⟩:=c.row O (x:=([],Y)) (by simp[xE,ak8,a]);obtain rfl:=b.nils;exact⟨[],.stop a d,a⟩
theorem params:∀(m:Nat){S:Int},S=126\/S=128->∀{k j:Nat},D tk n m [S,41] k j->j<n->∃ns r,Prm tk n k ns r j:=by
 intro m
 induction m using Nat.strongRecOn with
 |_ m B=>
  intro S hS k j v d;obtain⟨af,E,C,b,i,L⟩:=v.cut;obtain⟨e,K,ag,u,_⟩:=i.toks;obtain rfl:=u.nils;by_cases g:(tk k).k=1
  .obtain⟨p,_,s,a,q⟩:=b.row O (x:=([1,127],Y)) (by rcases hS with rfl|rfl<;>simp[xE,ahd,ahe,g]);obtain⟨_,_,F,c,y⟩:=a.toks;by_cases h:(tk (k+1)).k=46
   .obtain⟨w,_,G,f,z⟩:=c.row O (x:=([46,128],Y)) (by simp[xE,alh,h]);obtain⟨_,_,H,l,ad⟩:=f.toks;obtain⟨ns,r,A⟩:=B (H+E) O (.inr rfl) (k:=k+2) (j:=C+1) (D.join l i) d;exact⟨_,_,.go g h l.lt A⟩
   .obtain⟨w,_,G,f,z⟩:=c.row O (x:=([],Y)) (by simp[xE,alh,h]);obtain rfl:=f.nils;exact⟨_,_,.last g e d⟩
  .by_cases o:(tk k).k=49
   .obtain⟨p,_,s,a,q⟩:=b.row O (x:=([49],Y)) (by rcases hS with rfl|rfl<;>simp[xE,ahd,ahe,o]);obtain⟨_,_,F,c,y⟩:=a.toks;obtain rfl:=c.nils;exact⟨_,_,.rest o e d⟩
   .rcases hS with rfl|rfl
    .obtain⟨p,_,s,a,q⟩:=b.row O (x:=([],Y)) (by grind [xE,ahd]);obtain rfl:=a.nils;exact⟨_,_,.close e d⟩
    .obtain⟨_,t,_⟩:=b.row O (x:=([],B2)) (by grind [xE,ahe]);cases t
def ajs(e:∀h,h<m->Ex tk n h)(d:D tk n m [125] i j)(g:j<n):∃R,P tk n .moreE i R j:=by
 by_cases a:(tk i).k=46
 .obtain⟨f,_,r,b,p⟩:=d.row O (x:=([46,119,125],Y)) (by simp[xE,alg,a]);obtain⟨_,_,A,k,v⟩:=b.toks;obtain⟨s,t,y,l,c,w⟩:=k.cut;obtain⟨u,z,q⟩:=(e s O).expr l c.lt;obtain⟨R,o⟩:=(e t O).moreE c g;exact⟨_,.ego a f q o⟩
 .obtain⟨f,_,r,b,p⟩:=d.row O (x:=([],Y)) (by simp[xE,alg,a]);obtain rfl:=b.nils;exact⟨_,.estop a g⟩
def ajt(b:∀c,c<m->Ex tk n c)(g:D tk n m [124] i j)(h:j<n):∃R,P tk n .exprs i R j:=by
 obtain⟨q,_,v,d,r⟩:=g.row O (x:=([119,125],fC (tk i).k)) byR;obtain⟨l,o,t,e,a,s⟩:=d.cut;obtain⟨p,u,k⟩:=(b l O).expr e a.lt;obtain⟨R,f⟩:=(b o O).moreE a h;exact⟨_,.es k f⟩
def aa3(o:∀b,b<m->Ex tk n b)(l:D tk n m [132] i j)(q:j<n):∃N ks,P tk n .block i (one N ks) j:=by
 obtain⟨p,k,z,c,u⟩:=l.row O (x:=([42,100,43],decide ((tk i).k=42))) byR;obtain⟨_,_,A,d,v⟩:=c.toks;obtain⟨s,B,y,e,f,w⟩:=d.cut;obtain⟨a,r,C,g,_⟩:=f.toks;obtain rfl:=g.nils;obtain⟨t,h⟩:=(o s O).stats e r (.inl a);exact⟨_,_,.block (be k) p h a q⟩
def amC(k:∀b,b<m->Ex tk n b)(s:Tk)(h:D tk n m [133] i j)(o:j<n):∃N ks,P tk n (.body s) i (one N ks) j:=by
 obtain⟨l,g,y,c,t⟩:=h.row O (x:=([40,126,41,132],decide ((tk i).k=40))) byR;obtain⟨_,_,z,d,u⟩:=c.toks;obtain⟨q,r,w,e,a,v⟩:=d.split [126,41] [132] rfl;obtain⟨N,ks,f⟩:=(k r O).block a o;obtain⟨A,B,p⟩:=params q (.inl rfl) e a.lt;exact⟨_,_,.body (be g) l p f⟩
def amD(q:∀i,(tk i).k<100)(l:∀f,f<m->Ex tk n f)(H:D tk n m [120] i j)(b:j<n):∃N ks,P tk n .unit i (one N ks) j:=by
 obtain⟨o,c,z,a,ak⟩:=H.row O (x:=KH (tk i).k) byR;unfold KH at c a;split at a
 .rename_i h;obtain⟨_,_,e,d,p⟩:=a.toks (q i);obtain⟨N,ks,v⟩:=(l e O).unit d b;exact⟨_,_,.upre h o v⟩
 rename_i y;rw[aa y]at c;split at a
 .rename_i h;obtain⟨N,ks,k,e,S,p2,r,p,s,t,u⟩:=aa2 (m:=z) (S:=122) (λf h=>l f O) O b (.inl (by rw[h]at a;exact a));obtain rfl:S=122:=by rcases t with rfl|rfl|rfl|rfl|rfl|rfl|rfl|rfl<;>first|rfl|(revert u;decide)
  obtain⟨_,_,A,g,_⟩:=r.row O (x:=([],Y)) (by simp[xE,ale,aeK s]);obtain rfl:=g.nils;exact⟨N,ks,.ubas (.inl h) o p2⟩
 rename_i F;rw[aa F]at c;split at a
 .rename_i h;obtain⟨N,ks,k,e,S,p2,r,p,s,t,u⟩:=aa2 (m:=z) (S:=122) (λf h=>l f O) O b (.inr (by rw[h]at a;exact a));obtain rfl:S=122:=by rcases t with rfl|rfl|rfl|rfl|rfl|rfl|rfl|rfl<;>first|rfl|(revert u;decide)
  obtain⟨_,_,A,g,_⟩:=r.row O (x:=([],Y)) (by simp[xE,ale,aeK s]);obtain rfl:=g.nils;exact⟨N,ks,.ubas (.inr h) o p2⟩
 rename_i G;rw[aa G]at c;split at a
 .rename_i h;obtain⟨_,_,e,d,p⟩:=a.toks (q i);obtain⟨af,am,k,B,C,al⟩:=d.cut;obtain⟨w,ad,A,g,_⟩:=C.toks;obtain rfl:=g.nils;obtain⟨ag,E⟩:=(l af O).entries B ad w;exact⟨_,_,.utab h o E w b⟩
 rename_i K;rw[aa K]at c;split at a
 .rename_i h;obtain⟨_,_,e,d,p⟩:=a.toks (q i);obtain⟨N,ks,v⟩:=(l e O).body (tk i) d b;exact⟨N,ks,.ufn h o v⟩
 rename_i L;rw[aa L]at c;obtain⟨_,_,e,d,p⟩:=a.toks (q i);obtain rfl:=d.nils;simp only[fC,y,If,decide_eq_true_eq]at c;rcases c with h|h|h|h|h|h|h|h|h|h|h
 .omega
 .exact⟨_,_,.uint h b⟩
 .exact⟨_,_,.uflt h b⟩
 .exact⟨_,_,.ustr h b⟩
 .exact⟨_,_,.unil h b⟩
 .exact⟨_,_,.utru h b⟩
 .exact⟨_,_,.ufls h b⟩
 .exact⟨_,_,.urst h b⟩
 all_goals omega
theorem aju(d:∀r,r<m->Ex tk n r)(l:D tk n m [131] i j)(o:j<n):∃N ks,P tk n .entry i (one N ks) j:=by
 by_cases h:(tk i).k=48
 .obtain⟨e,_,p,a,q⟩:=l.row O (x:=([48,1,47,119],Y)) (by simp[xE,ahf,h]);obtain⟨_,_,K,f,F⟩:=a.toks;obtain⟨u,_,s,g,G⟩:=f.toks;obtain⟨v,C,t,c,af⟩:=g.toks;obtain⟨N,ks,b⟩:=(d t O).expr c o;exact⟨_,_,.named h u v C b⟩
 by_cases k:(tk i).k=44
 .obtain⟨e,_,p,a,q⟩:=l.row O (x:=([44,119,45,47,119],Y)) (by simp[xE,ahf,k]);obtain⟨_,_,K,f,F⟩:=a.toks;obtain⟨s,t,al,g,c,G⟩:=f.cut;obtain⟨N,ks,b⟩:=(d s O).expr g c.lt;obtain⟨w,_,an,z,ag⟩:=c.toks;obtain⟨y,E,L,A,ak⟩:=z.toks;obtain⟨ad,am,H⟩:=(d L O).expr A o;exact⟨_,_,.pair k e b w y E H⟩
 .obtain⟨e,B,p,a,q⟩:=l.row O (x:=([119],fC (tk i).k)) (by grind [xE,ahf]);obtain⟨N,ks,b⟩:=(d p O).expr a o;exact⟨_,_,.item h k (tC B).1 e b⟩
theorem acI(p:∀r,r<m->Ex tk n r)(o:D tk n m [129] i j)(g:j<n)(e:(tk j).k=43):∃R,P tk n .entries i R j:=by
 by_cases E:fC (tk i).k=Y\/(tk i).k=48\/(tk i).k=44
 .obtain⟨f,_,y,a,v⟩:=o.row O (x:=([131,130],Y)) (by grind [xE,ali]);have l:(tk i).k≠43:=by grind [tC]
  obtain⟨z,K,k,s,c,F⟩:=a.cut;obtain⟨C,H,q⟩:=(p z O).entry s c.lt;by_cases b:(tk k).k=46
  .obtain⟨h,_,A,d,w⟩:=c.row O (x:=([46,129],Y)) (by simp[xE,alj,b]);obtain⟨_,_,B,t,G⟩:=d.toks;obtain⟨R,u⟩:=(p B O).entries t g e;exact⟨_,.ncom l f q b h u⟩
  .obtain⟨h,_,A,d,w⟩:=c.row O (x:=([],Y)) (by simp[xE,alj,b]);obtain rfl:=d.nils;exact⟨_,.nlast l f q b h (.nstop e g)⟩
 .have a:fC (tk i).k=B2:=U;obtain⟨f,_,y,a,v⟩:=o.row O (x:=([],Y)) (by grind [xE,ali]);obtain rfl:=a.nils;exact⟨_,.nstop e g⟩
theorem aqi(e:∀y,y<m->Ex tk n y){f:Nat}{x b:Fo}(h:(tk i).k=20\/(tk i).k=15)(r:i<n)(s:P tk n (.expr 0) (i+1) x k)(l:P tk n .block k b f)(q:D tk n m [105] f j)(v:j<n):∃N ks,P tk n .branch i (one N ks) j:=by
 by_cases d:(tk f).k=15
 .obtain⟨a,_,z,c,w⟩:=q.row O (x:=([15,119,132,105],Y)) (by simp[xE,ag8,d]);obtain⟨_,_,A,g,F⟩:=c.toks;obtain⟨L,ap,am,C,t,ak⟩:=g.cut;obtain⟨N,ks,G⟩:=(e L O).expr C t.lt;obtain⟨ad,af,an,E,u,al⟩:=t.cut;obtain⟨B,K,o⟩:=(e ad O).block E u.lt;obtain⟨ag,ao,H⟩:=(e af O).els (.inr d) a G o u v;exact⟨_,_,.belif h r s l d a H⟩
 by_cases p:(tk f).k=16
 .obtain⟨a,_,z,c,w⟩:=q.row O (x:=([16,132],Y)) (by simp[xE,ag8,p]);obtain⟨_,_,A,g,F⟩:=c.toks;obtain⟨B,K,o⟩:=(e A O).block g v;exact⟨_,_,.belse h r s l p a o⟩
 .obtain⟨a,_,z,c,w⟩:=q.row O (x:=([],Y)) (by grind [xE,ag8]);obtain rfl:=c.nils;exact⟨_,_,.bno h r s l d p a⟩
theorem amE:∀(m:Nat),(∀a,a<m->Ex tk n a)->∀{i j:Nat},D tk n m [113] i j->j<n->∃N ks R k h a,P tk n .base i (one N ks) k/\P tk n .moreB k R h/\(tk h).k=47/\h<n/\D tk n a [124] (h+1) j/\a<m:=by
 intro m
 induction m using Nat.strongRecOn with
 |_ m al=>
  intro v i j c w;have ad:∃d,d<m/\∃S:Int,(S=114\/S=115)/\(D tk n d [1,S] i j\/D tk n d [40,119,41,S] i j):=by
   by_cases t:(tk i).k=1
   .obtain⟨af,_,d,l,y⟩:=c.row O (x:=([1,114],Y)) (by simp[xE,aha,t]);grind
   .by_cases u:(tk i).k=40
    .obtain⟨af,_,d,l,y⟩:=c.row O (x:=([40,119,41,115],Y)) (by simp[xE,aha,u]);grind
    .obtain⟨_,b,_⟩:=c.row O (x:=([],B2)) (by simp[xE,aha,t,u]);cases b
  obtain⟨d,y,r,L,l⟩:=ad;obtain⟨N,ks,k,a2,S,p2,e,aL,G,H,s⟩:=aa2 (m:=d) (S:=r) (λa b=>v a O) O w l;have K:fam r=2:=by rcases L with rfl|rfl<;>rfl
  rw[K]at s;have z:(tk k).k≠48/\(tk k).k≠44/\(tk k).k≠40:=by have:=jE G;omega
  have hS:S=114\/S=115:=by rcases H with rfl|rfl|rfl|rfl|rfl|rfl|rfl|rfl<;>first|omega|(revert s;decide)
  rcases hS with rfl|rfl
  .by_cases f:(tk k).k=46
   .obtain⟨g,_,an,o,ag⟩:=e.row O (x:=([46,113],Y)) (by simp[xE,ahb,f]);obtain⟨_,_,q,p,ak⟩:=o.toks;obtain⟨ap,a1,ar,a0,am,ao,A,B,C,E,F,av⟩:=al q O (λa b=>v a O) p w;exact⟨N,ks,_,k,am,ao,p2,.bgo f g A B,C,E,F,O⟩
   .by_cases c:(tk k).k=47
    .obtain⟨g,_,an,o,ag⟩:=e.row O (x:=([47,124],Y)) (by simp[xE,ahb,c]);obtain⟨_,_,q,p,ak⟩:=o.toks;exact⟨N,ks,.nil,k,k,q,p2,.bstop f g,c,g,p,O⟩
    .obtain⟨_,b,_⟩:=e.row O (x:=([],B2)) (by simp[xE,ahb,z,f,c]);cases b
  .obtain⟨_,b,_⟩:=e.row O (x:=([],B2)) (by simp[xE,aow,z]);cases b
theorem D.blk(h:D tk n m (132::r) i j):(tk i).k=42/\i<n:=by
 obtain⟨f,g,k,a,b,e⟩:=h.cut;obtain⟨d,c,_⟩:=a.row O (x:=([42,100,43],decide ((tk i).k=42))) byR;grind
def aqj(a:∀ad,ad<m->Ex tk n ad)(p:(tk i).k=19)(ao:D tk n m [19,1,106] i j)(E:j<n):∃N ks,P tk n .stat i (one N ks) j:=by
 obtain⟨_,_,bp,am,bc⟩:=ao.toks;obtain⟨l,bb,bs,B,bg⟩:=am.toks;by_cases e:(tk (i+2)).k=47
 .obtain⟨t,_,a7,q,ar⟩:=B.row O (x:=([47,119,46,119,107,132],Y)) (by simp[xE,ak9,e]);obtain⟨_,_,af,r,av⟩:=q.toks;obtain⟨ag,a8,k,b,c,bh⟩:=r.cut;obtain⟨Nx,a3,h⟩:=(a ag O).expr b c.lt;obtain⟨y,H,ak,s,aL⟩:=c.toks;obtain⟨v,bt,L,d,C,bk⟩:=s.cut;obtain⟨a9,bn,K⟩:=(a v O).expr d C.lt;obtain⟨br,a4,bl,z,A,bd⟩:=C.cut;obtain⟨w,G⟩:=A.blk;obtain⟨Nb,a2,f⟩:=(a a4 O).block A E;by_cases g:(tk L).k=46
  .obtain⟨u,_,a5,o,ap⟩:=z.row O (x:=([46,119],Y)) (by simp[xE,ala,g]);obtain⟨_,_,a6,an,bf⟩:=o.toks;obtain⟨ba,bo,a1⟩:=(a a6 O).expr an G;exact⟨_,_,.tfor p O l (.stop O t) e (.es h (.ego y H K (.ego g u a1 (.estop O G)))) f⟩
  .obtain⟨u,_,a5,o,ap⟩:=z.row O (x:=([],Y)) (by simp[xE,ala,g]);obtain rfl:=o.nils;exact⟨_,_,.tfor p O l (.stop O t) e (.es h (.ego y H K (.estop g u))) f⟩
 .obtain⟨t,_,a7,q,ar⟩:=B.row O (x:=([104,21,119,132],decide ((tk (i+2)).k=46\/(tk (i+2)).k=21))) (by simp[xE,ak9,e]);obtain⟨af,ag,k,r,b,av⟩:=q.cut;obtain⟨bv,a0,_⟩:=D.names af r b.lt;obtain⟨al,_,a8,c,bj⟩:=b.toks;obtain⟨ak,v,L,s,d,aL⟩:=c.cut;obtain⟨w,F⟩:=d.blk;obtain⟨Nx,a3,h⟩:=(a ak O).expr s F;obtain⟨Nb,a2,f⟩:=(a v O).block d E;exact⟨_,_,.teach p O l a0 al h w F f⟩
def aeL(l:∀o,o<m->Ex tk n o){a:Int}(K:a=110\/a=112)(p:(tk i).k=1\/(tk i).k=40)(s:i<n)(d:D tk n m [1,a] i j\/D tk n m [40,119,41,a] i j)(e:j<n)(al:(tk j).k=5\/(tk j).k=6\/(tk j).k=43):∃N ks,P tk n .stat i (one N ks) j:=by
 obtain⟨N,ks,k,ar,S,p2,b,am,G,H,v⟩:=aa2 (m:=m) (S:=a) l O e d;rw[show fam a=1 by rcases K with rfl|rfl<;>rfl]at v;have t:(tk k).k≠48/\(tk k).k≠44/\(tk k).k≠40:=by have:=jE G;omega
 have hS:S=110\/S=111\/S=112:=by rcases H with rfl|rfl|rfl|rfl|rfl|rfl|rfl|rfl<;>first|omega|(revert v;decide)
 rcases hS with rfl|rfl|rfl
 .by_cases h:(tk k).k=46
  .obtain⟨f,_,y,c,w⟩:=b.row O (x:=([46,113],Y)) (by simp[xE,ag9,h]);obtain⟨_,_,u,q,L⟩:=c.toks;obtain⟨af,ap,ag,an,ao,ad,A,B,C,E,F,ak⟩:=amE u (λo g=>l o O) q e;obtain⟨z,r⟩:=(l ad O).exprs F e;exact⟨_,_,.tset p s p2 (.bgo h f A B) C E r⟩
  .by_cases d:(tk k).k=47
   .obtain⟨f,_,y,c,w⟩:=b.row O (x:=([47,124],Y)) (by simp[xE,ag9,d]);obtain⟨_,_,u,q,L⟩:=c.toks;obtain⟨z,r⟩:=(l u O).exprs q e;exact⟨_,_,.tset p s p2 (.bstop h f) d f r⟩
   .obtain⟨_,g,_⟩:=b.row O (x:=([],B2)) (by simp[xE,ag9,t,h,d]);cases g
 .obtain⟨f,_,y,c,w⟩:=b.row O (x:=([],Y)) (by simp[xE,aou,t]);obtain rfl:=c.nils;exact⟨_,_,.tdo p s p2 O O e⟩
 .obtain⟨_,g,_⟩:=b.row O (x:=([],B2)) (by simp[xE,aov,t]);cases g
theorem ae0(f:∀G,G<m->Ex tk n G)(r:i<n)(E:(jv (tk i).k).2=Y)(a:D tk n m (jv (tk i).k).1 i j)(g:j<n)(af:(tk j).k=5\/(tk j).k=6\/(tk j).k=43):(∃N ks,P tk n .stat i (one N ks) j)/\(tk i).k≠5/\(tk i).k≠6/\(tk i).k≠43:=by
 have ag:(tk i).k=22\/(tk i).k=13\/(tk i).k=18\/(tk i).k=20\/(tk i).k=31\/(tk i).k=19\/(tk i).k=11\/(tk i).k=23\/(tk i).k=27\/(tk i).k=30\/(tk i).k=28\/(tk i).k=14\/(tk i).k=42\/(tk i).k=1\/(tk i).k=40:=by
  refine Decidable.byContradiction λa2=>?_;simp only[not_or]at a2;simp[jv,a2]at E
 refine⟨?_,O,O,O⟩;rcases ag with e|e|e|e|e|e|e|e|e|e|e|e|e|e|e
 .rw[show(jv (tk i).k).1=[22,1,104,103] by rw[e];rfl]at a;obtain⟨_,_,o,b,p⟩:=a.toks;obtain⟨z,br,d,c,s⟩:=b.toks;obtain⟨w,H,k,l,t,aL⟩:=c.cut;obtain⟨bA,B,_⟩:=D.names w l t.lt;by_cases y:(tk k).k=47
  .obtain⟨v,_,K,u,a1⟩:=t.row O (x:=([47,124],Y)) (by simp[xE,ak7,y]);obtain⟨_,_,a4,C,bg⟩:=u.toks;obtain⟨a5,ad⟩:=(f a4 O).exprs C g;exact⟨_,_,.tlet e O z B y ad⟩
  .obtain⟨v,_,K,u,a1⟩:=t.row O (x:=([],Y)) (by simp[xE,ak7,y]);obtain rfl:=u.nils;exact⟨_,_,.tlet0 e O z B y⟩
 .rw[show(jv (tk i).k).1=[13,1,47,119] by rw[e];rfl]at a;obtain⟨_,_,o,b,p⟩:=a.toks;obtain⟨z,_,d,c,s⟩:=b.toks;obtain⟨a7,ak,w,l,aL⟩:=c.toks;obtain⟨N,ks,h⟩:=(f w O).expr l g;exact⟨_,_,.tcon e z a7 ak h⟩
 .rw[show(jv (tk i).k).1=[18,1,133] by rw[e];rfl]at a;obtain⟨_,_,o,b,p⟩:=a.toks;obtain⟨z,_,d,c,s⟩:=b.toks;obtain⟨ak,bd,_⟩:=c.row O (x:=([40,126,41,132],decide ((tk (i+2)).k=40))) byR;obtain⟨N,ks,h⟩:=(f d O).body (tk (i+2)) c g;exact⟨_,_,.tfn e z (be bd) ak h⟩
 .rw[show(jv (tk i).k).1=[20,119,132,105] by rw[e];rfl]at a;obtain⟨_,_,o,b,p⟩:=a.toks;obtain⟨d,w,k,c,l,s⟩:=b.cut;obtain⟨N,ks,h⟩:=(f d O).expr c l.lt;obtain⟨H,K,bk,t,u,a0⟩:=l.cut;obtain⟨al,a3,q⟩:=(f H O).block t u.lt;obtain⟨bo,bv,bj⟩:=(f K O).els (.inl e) r h q u g;exact⟨_,_,.tif e r bj⟩
 .rw[show(jv (tk i).k).1=[31,119,132] by rw[e];rfl]at a;obtain⟨_,_,o,b,p⟩:=a.toks;obtain⟨d,w,k,c,l,s⟩:=b.cut;obtain⟨N,ks,h⟩:=(f d O).expr c l.lt;obtain⟨al,a3,q⟩:=(f w O).block l g;exact⟨_,_,.twhile e r h q⟩
 .rw[show(jv (tk i).k).1=[19,1,106] by rw[e];rfl]at a;exact aqj f e a g
 .rw[show(jv (tk i).k).1=[11] by rw[e];rfl]at a;obtain⟨_,_,o,b,p⟩:=a.toks;obtain rfl:=b.nils;exact⟨_,_,.tbreak e g⟩
 .rw[show(jv (tk i).k).1=[23] by rw[e];rfl]at a;obtain⟨_,_,o,b,p⟩:=a.toks;obtain rfl:=b.nils;exact⟨_,_,.tnext e g⟩
 .rw[show(jv (tk i).k).1=[27,108] by rw[e];rfl]at a;obtain⟨_,_,o,b,p⟩:=a.toks;cases q:fC (tk (i+1)).k with
  |true=>
   obtain⟨v,_,d,c,s⟩:=b.row O (x:=([124],Y)) (by simp[xE,alb,q]);obtain⟨a5,ad⟩:=(f d O).exprs c g;exact⟨_,_,.tret e v q ad⟩
  |false=>
   obtain⟨v,_,d,c,s⟩:=b.row O (x:=([],Y)) (by simp[xE,alb,q]);obtain rfl:=c.nils;exact⟨_,_,.tret0 e v af⟩
 .rw[show(jv (tk i).k).1=[30,132,12,1,109,132] by rw[e];rfl]at a;obtain⟨_,_,o,b,p⟩:=a.toks;obtain⟨d,w,k,c,l,s⟩:=b.cut;obtain⟨N,ks,h⟩:=(f d O).block c l.lt;obtain⟨an,_,H,t,a0⟩:=l.toks;obtain⟨ao,av,K,u,a1⟩:=t.toks;obtain⟨a4,bl,bk,C,ap,bg⟩:=u.cut;obtain⟨bp,ar⟩:=ap.blk;obtain⟨al,a3,q⟩:=(f bl O).block ap g;by_cases F:(tk (k+2)).k=46
  .obtain⟨v,_,bn,L,bh⟩:=C.row O (x:=([46,1],Y)) (by simp[xE,alc,F]);obtain⟨_,_,bx,bc,bt⟩:=L.toks;obtain⟨a6,bf,bw,bb,bs⟩:=bc.toks;obtain rfl:=bb.nils;exact⟨_,_,.ttry e r h an av ao (.go F bf a6 (.stop (λA=>U) ar)) q⟩
  .obtain⟨v,_,bn,L,bh⟩:=C.row O (x:=([],Y)) (by simp[xE,alc,F]);obtain rfl:=L.nils;exact⟨_,_,.ttry e r h an av ao (.stop F ar) q⟩
 .rw[show(jv (tk i).k).1=[28,119] by rw[e];rfl]at a;obtain⟨_,_,o,b,p⟩:=a.toks;obtain⟨N,ks,h⟩:=(f o O).expr b g;exact⟨_,_,.tthrow e r h⟩
 .rw[show(jv (tk i).k).1=[14,116] by rw[e];rfl]at a;obtain⟨_,_,o,b,p⟩:=a.toks;have ag:∃d,d<m/\(D tk n d [1,117] (i+1) j\/D tk n d [40,119,41,117] (i+1) j):=by
   by_cases y:(tk (i+1)).k=1
   .obtain⟨_,_,d,c,s⟩:=b.row O (x:=([1,117],Y)) (by simp[xE,ahc,y]);grind
   .by_cases E:(tk (i+1)).k=40
    .obtain⟨_,_,d,c,s⟩:=b.row O (x:=([40,119,41,117],Y)) (by simp[xE,ahc,E]);grind
    .obtain⟨_,A,_⟩:=b.row O (x:=([],B2)) (by simp[xE,ahc,y,E]);cases A
  obtain⟨d,s,c⟩:=ag;obtain⟨N,ks,k,w,S,p2,am,aL,a8,a9,ba⟩:=aa2 (m:=d) (S:=117) (λG A=>f G O) O g c;have B:(tk k).k≠48/\(tk k).k≠44/\(tk k).k≠40:=by have:=jE a8;omega
  have hS:S=117\/S=118:=by rcases a9 with rfl|rfl|rfl|rfl|rfl|rfl|rfl|rfl<;>first|omega|(revert ba;decide)
  rcases hS with rfl|rfl
  .obtain⟨_,A,_⟩:=am.row O (x:=([],B2)) (by simp[xE,aox,B]);cases A
  .obtain⟨v,_,H,t,a0⟩:=am.row O (x:=([],Y)) (by simp[xE,aoy,B]);obtain rfl:=t.nils;exact⟨_,_,.tdefer e r p2⟩
 .rw[show(jv (tk i).k).1=[132] by rw[e];rfl]at a;obtain⟨_,_,o,b,p⟩:=a.row O (x:=([42,100,43],decide ((tk i).k=42))) byR;obtain⟨N,ks,h⟩:=aa3 f a g;exact⟨N,ks,.tblock e r h⟩
 .rw[show(jv (tk i).k).1=[1,110] by rw[e];rfl]at a;exact aeL f (.inl rfl) (.inl e) r (.inl a) g af
 .rw[show(jv (tk i).k).1=[40,119,41,112] by rw[e];rfl]at a;exact aeL f (.inr rfl) (.inr e) r (.inr a) g af
def ajv(g:∀b,b<m->Ex tk n b)(r:D tk n m [100] i j)(l:j<n)(h:(tk j).k=43\/(tk j).k=6):∃R,P tk n .stats i R j:=by
 by_cases e:(tk i).k=5
 .obtain⟨a,_,z,c,y⟩:=r.row O (x:=([5,100],Y)) (by simp[xE,afr,e]);obtain⟨_,_,A,d,F⟩:=c.toks;obtain⟨R,q⟩:=(g A O).stats d l h;exact⟨R,.ssep e a q⟩
 cases hb:(jv (tk i).k).2 with
 |false=>
  obtain⟨a,_,z,c,y⟩:=r.row O (x:=([],Y)) (by simp[xE,afr,e,hb]);obtain rfl:=c.nils;exact⟨_,.sstop h l⟩
 |true=>
  obtain⟨a,_,z,c,y⟩:=r.row O (x:=((jv (tk i).k).1++[101],Y)) (by simp[xE,afr,e,hb]);obtain⟨A,af,k,d,w,F⟩:=c.split _ _ rfl;by_cases f:(tk k).k=5
  .obtain⟨o,_,K,p,G⟩:=w.row O (x:=([5,100],Y)) (by simp[xE,ak6,f]);obtain⟨_,_,L,E,ad⟩:=p.toks;obtain⟨R,q⟩:=(g L O).stats E l h;obtain⟨⟨B,H,s⟩,t,u,v⟩:=ae0 (λb C=>g b O) a hb d o (.inl f);exact⟨_,.sgo t u v a s (.ssep f o q)⟩
  .obtain⟨o,_,K,p,G⟩:=w.row O (x:=([],Y)) (by simp[xE,ak6,f]);obtain rfl:=p.nils;obtain⟨⟨B,H,s⟩,t,u,v⟩:=ae0 (λb C=>g b O) a hb d o O;exact⟨_,.sgo t u v a s (.sstop h l)⟩
def amF(b:∀i,(tk i).k<100)(m:Nat):Ex tk n m:=by
 induction m using Nat.strongRecOn with
 |_ m a=>exact⟨amD b a,amA b a,ajt a,ajs a,aa3 a,ajv a,λc=>amC a c,acI a,aju a,aqi a⟩
end
abbrev CxP(E:Pe)(i:Nat)(x:Fo)(j:Nat):Prop:=CN E 134 #[pV E] i x j
abbrev ClP(E:Pe)(i:Nat)(x:Fo)(j:Nat):Prop:=CR E 192 #[pV E,.func (.func 134) #[pV E] #[]] i x j
def PI(E:Pe):Ay->Nat->Fo->Nat->Prop
 | .unit,i,R,j=>CN E 229 #[pV E] i R j
 | .expr p,i,R,j=>CXi E p i R j
 | .more p s x,i,R,j=>∃m,Ms E (CXi E) p s m x i R j
 | .base,i,R,j=>CN E 135 #[pV E] i R j
 | .post s x,i,R,j=>∃m,Pss E (CxP E) (ClP E) s m x i R j
 | .exprs,i,R,j=>ClP E i R j
 | .moreE,i,R,j=>∃m,Ls E (CN E 134 #[pV E]) m i R j
 | .moreB,i,R,j=>∃m,Ls E (CN E 135 #[pV E]) m i R j
 | .stat,i,R,j=>CN E 87 #[pV E] i R j
 | .stats,i,R,j=>∃m,Ss E (CN E 87 #[pV E]) m i R j
 | .block,i,R,j=>CN E 136 #[pV E] i R j
 | .body s,i,R,j=>CN E 194 #[pV E,Ed (qi s.k s)] i R j
 | .entry,i,R,j=>CN E 270 #[pV E] i R j
 | .entries,i,R,j=>∃m,Es E (CN E 270 #[pV E]) m i R j
 | .branch,i,R,j=>CN E 127 #[pV E] i R j
def amG{k:Int}(h:nD k=Y):k=25\/k=50\/k=62\/k=69:=by
 have:=be h;omega
def Fw{f:FuncId}{x:Fo}(b:∀(args:Array A0) (w:Br),(callFunc f args).run B0 w= .ok (.enter f args) w)(d:CN E f #[pV E] i x k)(h:(E.tk k).k≠46)(c:k<E.n):CR E 192 #[pV E,.func (.func f) #[pV E] #[]] i x k:=by
 have a:=aeb b d (Ls.stop h c);rw[Fo.app_nil]at a;exact a
def ajw(y:∀q,(E.tk q).k<=78){t:Ay}{R:Fo}(h:P E.tk E.n t i R j):PI E t i R j:=by
 induction h with
 |upre a b d c=>
  have:=d.pos;simp only[gC]at this;rcases amG a with h|h|h|h
  .rw[h];exact xH (by constructor) h b (iE (.pre Z h b c O O))
  .rw[h];exact xH (by constructor) h b (iE (.pre Z h b c O O))
  .rw[h];exact xH (by constructor) h b (iE (.pre Z h b c O O))
  .rw[h];exact xH (by constructor) h b (iE (.pre Z h b c O O))
 |uint a b=>exact atz b a
 |uflt a b=>exact xH (by constructor) a O (aje b Z Z a)
 |ustr a b=>exact xH (by constructor) a O (aje b Z Z a)
 |unil a b=>exact xH (by constructor) a O (iE (.leaf Z Z a b))
 |utru a b=>exact xH (by constructor) a O (iE (.leaf Z Z a b))
 |ufls a b=>exact xH (by constructor) a O (iE (.leaf Z Z a b))
 |urst a b=>exact xH (by constructor) a O (iE (.leaf Z Z a b))
 |@ufn i j R a b d c=>exact iE (.ufn a b (by have q:CN E 194 #[pV E,Ed (qi (E.tk i).k (E.tk i))] (i+1) R j:=c;rw[a]at q;exact q))
 |utab a b d f g c=>obtain⟨o,c⟩:=c;exact xH (by constructor) a b (atA a b c f g)
 |ubas a b d c=>
  rcases a with h|h
  .exact xH (by constructor) h b c
  .exact xH (by constructor) h b c
 |ex a b d f m p=>obtain⟨o,c⟩:=p;exact ap5 a b y m c
 |mstop a b=>exact⟨0,.stop a b⟩
 |mgo a b d f g p w=>obtain⟨o,c⟩:=w;have:=f.pos;simp only[gC]at this;exact⟨o+1,.go a b d p O O c⟩
 |bname a b d c=>obtain⟨o,c⟩:=c;have:=d.pos;simp only[gC]at this;exact aod a b (.inl ⟨rfl,aje O Z Z a⟩) c
 |bopen a b d f g l m s=>obtain⟨o,c⟩:=s;have:=d.pos;have:=l.pos;simp only[gC]at *;exact aod a b (.inr ⟨rfl,asi a b (iE (.expr m)) f O O⟩) c
 |pstop a b=>exact⟨0,.stop a b⟩
 |pdot a b d f c=>obtain⟨o,c⟩:=c;have:=f.pos;exact⟨o+1,.dot a b O c⟩
 |psq a b d f g l m s=>obtain⟨o,c⟩:=s;have:=l.pos;exact⟨o+1,.sq a b (iE (.expr m)) f O c⟩
 |pcall0 a b d f c=>obtain⟨o,c⟩:=c;have:=f.pos;exact⟨o+1,.call0 a b O c⟩
 |pcall a b d f g l r p u=>obtain⟨o,c⟩:=u;have:=r.pos;exact⟨o+1,.call a b d p g O c⟩
 |es a b A B=>obtain⟨o,c⟩:=B;exact aeb cfE (iE (.expr A)) c
 |estop a b=>exact⟨0,.stop a b⟩
 |ego a b d f m p=>obtain⟨o,c⟩:=p;exact⟨o+1,.go a b (iE (.expr m)) c⟩
 |bstop a b=>exact⟨0,.stop a b⟩
 |bgo a b d f m p=>obtain⟨o,c⟩:=p;exact⟨o+1,.go a b m c⟩
 |body a b d f c=>have:=d.pos;have:=f.pos;simp only[gC]at *;exact ask rfl a O d c O O
 |block a b d f g c=>obtain⟨o,c⟩:=c;exact iE (.blk a b (ain (.inl f) c) f g)
 |sstop a b=>exact⟨0,.stop b⟩
 |ssep a b d c=>obtain⟨o,c⟩:=c;exact⟨o+1,.sep a b c⟩
 |sgo a b d f g l w s=>obtain⟨o,c⟩:=s;exact⟨o+1,.go a b d f w c⟩
 |nstop a b=>exact⟨0,.stop a b⟩
 |ncom a b d f g l m s=>obtain⟨o,c⟩:=s;exact⟨o+1,.com a b m f g c⟩
 |nlast a b d f g l m s=>obtain⟨o,c⟩:=s;exact⟨o+1,.last a b m f g c⟩
 |item a b d f g c=>have:=g.pos;simp only[gC]at this;exact iE (.item a b d rfl f (iE (.expr c)) O O)
 |pair a b d f g l r m u=>have:=d.pos;have:=r.pos;simp only[gC]at *;exact iE (.pair a b (iE (.expr m)) f g l (iE (.expr u)) O O)
 |named a b d f g c=>have:=g.pos;simp only[gC]at this;exact iE (.named a b d f (iE (.expr c)) O O)
 |belif a b d f g l r m p u=>have:=d.pos;have:=f.pos;have:=r.pos;simp only[gC]at *;exact iE (.if1 a rfl b (iE (.expr m)) p l g u O O)
 |belse a b d f g l r m p u=>have:=d.pos;have:=f.pos;have:=r.pos;simp only[gC]at *;exact iE (.if2 a rfl b (iE (.expr m)) p l g u O O)
 |bno a b d f g l r m p=>have:=d.pos;have:=f.pos;simp only[gC]at *;exact iE (.if0 a rfl b (iE (.expr m)) p O r g l)
 |tlet0 a b d f g=>have:=f.pos;exact xH (by constructor) a O (iE (.let0 a O (yC d b f) O O g))
 |tlet a b d f g l c=>have:=f.pos;have:=l.pos;simp only[gC]at *;exact xH (by constructor) a O (iE (.let1 a O (yC d b f) O g c O O))
 |tcon a b d f g c=>have:=g.pos;simp only[gC]at *;exact xH (by constructor) a O (iE (.con a O (yC b O (.stop (by rw[d];decide) O)) O d (iE (.expr c)) O O))
 |@tfn i j x a b d f g c=>have:=g.pos;simp only[gC]at *;exact xH (by constructor) a O (iE (.fn a O (yC b O (.stop (by rw[d];decide) O)) O d (by have q:CN E 194 #[pV E,Ed (qi (E.tk (i+2)).k (E.tk (i+2)))] (i+2) x j:=c;rw[d]at q;exact q) O O))
 |tif a b d c=>exact xH (by constructor) a b c
 |twhile a b d f m p=>have:=d.pos;have:=f.pos;simp only[gC]at *;exact xH (by constructor) a b (iE (.whl a b (iE (.expr m)) p O O))
 |tfor a b d f g l r s u=>have:=f.pos;have:=l.pos;have:=r.pos;simp only[gC]at *;exact xH (by constructor) a O (iE (.for_ Z a O (yC d b f) O g s u O O))
 |teach a b d f g l r v z s F=>have:=f.pos;have:=l.pos;have:=z.pos;simp only[gC]at *;exact xH (by constructor) a O (iE (.for_ Z a O (yC d b f) O g (Fw cfE (iE (.expr s)) (by rw[r];decide) v) F O O))
 |tbreak a b=>exact xH (by constructor) a O (iE (.leaf Z Z a b))
 |tnext a b=>exact xH (by constructor) a O (iE (.leaf Z Z a b))
 |tret0 a b d=>exact xH (by constructor) a O (iE (.ret0 a b (dB d)))
 |tret a b d f c=>have:=f.pos;simp only[gC]at *;exact xH (by constructor) a O (iE (.ret1 a b (aG λe=>by rcases e with e|e|e<;>(rw[e]at d;revert d;decide)) c O O))
 |ttry a b d f g l r v m C=>have:=d.pos;have:=r.pos;have:=v.pos;simp only[gC]at *;exact xH (by constructor) a b (iE (.try_ a b m f O (yC l g r) C O O))
 |tthrow a b d c=>have:=d.pos;simp only[gC]at *;exact xH (by constructor) a b (iE (.wthE a b (iE (.expr c)) O O))
 |tdefer a b d c=>have:=d.pos;simp only[gC]at *;exact xH (by constructor) a b (iE (.wthB a b c O O))
 |tblock a b d c=>exact xH (by constructor) a b c
 |tdo a b d f g l c=>
  have:=d.pos;simp only[gC]at *;rcases a with h|h
  .exact xH (by constructor) h b (iE (.do_ (.inl rfl) h b (Fw cfB c f l) g l O))
  .exact xH (by constructor) h b (iE (.do_ (.inr rfl) h b (Fw cfB c f l) g l O))
 |tset a b d f g l r m p u=>
  obtain⟨o,p⟩:=p;have:=d.pos;have:=f.pos;have:=r.pos;simp only[gC]at *;rcases a with h|h
  .exact xH (by constructor) h b (setP (.inl rfl) h b (aeb cfB m p) g l u O O)
  .exact xH (by constructor) h b (setP (.inr rfl) h b (aeb cfB m p) g l u O O)
def atC(b c a d e f:A0)(w:Br):(Instr.field 48 (Ed #[b,c,a,d,e,f]) 2).run B0 w= .ok a w:=J
def ast{R:Fo}(hS:CR E 40 #[pV E] i R j)(g:j<E.n):CN E 16 #[pV E] i (one ⟨1,0,(E.tk j).t,1,0,0,z0,[],[]⟩ R) j:=by
 intro s f h;have b:=Sw.start f;have m:=atC;simp only[dj]at h;go_in;go_wp21
 refine(ad9 b hS).mono ?_;rintro e u ⟨k,q,l,r,rfl,a,o⟩;go_wp21
 refine(ail a.pp g).mono ?_;rintro e v ⟨⟨p,_,rfl⟩,d⟩;have c:=sB a d;go_wp21
 go_ret;exact⟨_,rfl,aaj c ⟨1,0,(E.tk j).t,1,0,0,z0,[],[]⟩ rfl rfl rfl rfl⟩
structure Fm (lo:Nat) (lb:Option Nat) (w w':Br):Prop where
 bl:B1 lo w w'
 at_:∀k cs t fr,w.heap[k]?=X (.cells cs t fr)->lb≠X k->w'.heap[k]?=X (.cells cs t fr)\/∃c u,t=yv c/\w'.heap[k]?=X (.cells (cs.setIfInBounds 4 (.int .i64 u)) t fr)
def Fm.refl(lo:Nat)(lb:Option Nat)(w:Br):Fm lo lb w w:=⟨ai _ _,λd b e c a _=> .inl a⟩
def atD(cs:Array A0)(u v:A0):(cs.setIfInBounds 4 u).setIfInBounds 4 v=cs.setIfInBounds 4 v:=I
theorem Fm.trans{lo:Nat}{lb b:Option Nat}{x e z:Br}(h:Fm lo lb x e)(k:Fm lo b e z)(s:∀g,b=X g->lb=X g\/x.heap.size<=g):Fm lo lb x z:=by
 refine⟨h.bl.trans k.bl,λa f m i j l=>?_⟩;have d:b≠X a:=λp=>by
  grind
 rcases h.at_ a f m i j l with g|⟨n,t,q,g⟩
 .exact k.at_ a _ _ _ g d
 .rcases k.at_ a _ _ _ g d with c|⟨o,u,r,c⟩
  .grind
  .rw[atD]at c;grind
def Fm.of_below{lo:Nat}{c:Br}(b:B1 w.heap.size w c)(d:lo<=w.heap.size)(lb:Option Nat):Fm lo lb w c:=⟨b.mono d,λg e h f a _=> .inl ((b.block _ (ah a)).trans a)⟩
def ik{c:Nat}:yv c≠9/\yv c≠54/\yv c≠3/\yv c≠100:=by
 match c with
 |0=>decide
 |1=>decide
 |2=>decide
 |3=>decide
 |4=>decide
 |5=>decide
 |n+6=>exact⟨(Z:110≠9),(Z:110≠54),(Z:110≠3),(Z:110≠100)⟩
section
variable {lo : Nat} {lb : Option Nat} {w w' : World}
theorem Fm.blk(h:Fm lo lb w w'){cs:Array A0}{fr:Nat×Nat}(a:w.heap[k]?=X (A9 cs t fr))(hn:lb≠X k)(ht:∀c,t≠yv c):w'.heap[k]?=X (A9 cs t fr):=by
 rcases h.at_ k cs t fr a hn with b|⟨c,e,d,_⟩;all_goals grind
theorem Fm.row(h:Fm lo lb w w'){b e size:Nat}(o:w.ownsRow b e size v n xs)(hn:∀g,v.ownBlock=X g->lb≠X g)(ht:∀c,e≠yv c):w'.ownsRow b e size v n xs:=by
 obtain⟨i,a⟩:=o;refine⟨i,?_⟩;rcases a with a|⟨g,d,f,rfl,k,j,l⟩
 .grind
 .exact .inr ⟨g,d,f,rfl,k,h.blk j (hn g rfl) ht,l⟩
def Fm.box(h:Fm lo lb w w'){vn vk:A0}{d:Int}(c:ie w b N vn d vk)(hn:lb≠X b):∃e,ie w' b N vn e vk:=by
 unfold ie at c;rcases h.at_ b _ _ _ c hn with a|⟨g,f,_,a⟩
 .exact⟨d,a⟩
 .exact⟨f,a⟩
theorem Fm.nodes(h:Fm lo lb w w')(m:∀g,lb=X g->∃cs t fr,w.heap[g]?=X (A9 cs t fr)/\t≠9/\t≠54/\∀c,t≠yv c):∀(R:Fo)(vs:List A0)(f:List Nat){d:Nat}{a:Option Nat},uy w d a R vs f->uy w' d a R vs f
 | .nil,vs,f,d,a,q=>q
 | .cons N k r,vs,f,d,a,⟨b,ad,vn,vk,kv,vs',bk,br,e,⟨s,u,l,v⟩,C,B,F,G⟩=>by
  have nb:∀{g:Nat}{cs:Array A0}{t:B7}{fr:Nat×Nat},w.heap[g]?=X (A9 cs t fr)->(t=9\/t=54\/∃c,t=yv c)->lb≠X g:=λ{g cs t fr} i A e=>by
   grind
  have n:∀{t:B7}{o:A0}{p:List A0},Rv w d a t o p->(t=9\/t=54)->(∀c,t≠yv c)->Rv w' d a t o p:=λj A z=>⟨h.row j.1 (λg i=>by
   rcases j.1.2 with⟨rfl,_⟩|⟨y,H,K,rfl,_,L,_⟩
   .simp[A5]at i
   .obtain rfl:y=g:=by simpa [A5] using i
    grind) z,j.2⟩
  obtain⟨E,x⟩:=h.box l (nb l (.inr (.inr ⟨_,rfl⟩)));exact⟨b,E,vn,vk,kv,vs',bk,br,e,⟨s,u,x,v⟩,n C (.inl rfl) (λc=>ik.1.symm),n B (.inr rfl) (λc=>ik.2.1.symm),Fm.nodes h m k kv bk F,Fm.nodes h m r vs' br G⟩
theorem Fm.num{vn vk:A0}{c:Int}(a:ie w b N vn c vk)(h:lo<=b)(u:Int)(lb:Option Nat):Fm lo lb w (w.setCell ⟨b,4,Ax⟩ (A6 A3 u))/\ie (w.setCell ⟨b,4,Ax⟩ (A6 A3 u)) b N vn u vk:=by
 unfold ie at a⊢;have d:(w.setCell ⟨b,4,Ax⟩ (A6 A3 u)).heap[b]?=X (A9 (([A6 A3 N.k,A6 A3 N.f,A6 A3 N.t,A6 A3 N.l,A6 A3 c,vk]++exT N vn (fH N.k)).toArray.setIfInBounds 4 (A6 A3 u)) (yv (fH N.k)) (0,0)):=aI _ b 4 _ _ _ a;refine⟨⟨(ai _ w).setCell h _,λi j m k e _=>?_⟩,d⟩;by_cases g:i=b
 .grind
 .exact .inl ((az _ _ _ _ g).trans e)
end
def Fr(s:Nat)(v:A0):Prop:=∀g,v.ownBlock=X g->s<=g
def Fr.nil(s n c:Nat):Fr s (A2 Ax n c):=λb a=>by simp[A5]at a
def Fr.new{s c:Nat}(h:s<=b):Fr s (A2 (X ⟨b,0,Ax⟩) n c):=λa d=>by
 obtain rfl:b=a:=by simpa [A5] using d
 exact h
def Fr.le{s t:Nat}(h:Fr s v)(ht:t<=s):Fr t v:=λa b=>aK ht (h a b)
def LP(lo:Nat)(N:Nd)(ks:Fo)(w:Br)(v:A0)(h:List Nat)(L:List Mb)(f:A0)(e:Ending)(d:Br):Prop:=∃c M,e= B3 c/\Lw d lo c (L++M)/\M.map Mb.N=(one N ks).flat (Q L)/\(∀y,(M.flatMap λa=>a.vn.ownBlock.toList).count y<=h.count y)/\((∀a∈M,Fr w.heap.size a.vk)/\(M.flatMap λa=>a.vk.ownBlock.toList).Nodup)/\Fm lo f.ownBlock w d/\(∀g,c.ownBlock=X g->f.ownBlock=X g\/w.heap.size<=g)/\∃b t,v= Fs t (Ce (X ⟨b,0,Ax⟩))/\d.cell? ⟨b,4,Ax⟩=X (A6 A3 ((Q L+ks.sz:Nat):Int))
def LC(lo:Nat)(N:Nd)(ks:Fo):Prop:=∀(w:Br)(v:A0)(a:List Nat)(L:List Mb)(lv:A0),uy w lo Ax (one N ks) [v] a->Lw w lo lv L->lo<=w.heap.size->Q L+(one N ks).sz<=50000000->
 C2 B0 15 #[v,lv] w (LP lo N ks w v a L lv)
def LCs(lo:Nat):Fo->Prop
 | .nil=>True
 | .cons N k r=>LC lo N k/\LCs lo r
def kB(a:List Mb):List Nat:=a.flatMap λb=>b.vk.ownBlock.toList
def nB'(a:List Mb):List Nat:=a.flatMap λb=>b.vn.ownBlock.toList
structure Lj (lo:Nat) (w wr:Br) (N:Nd) (b rb:Nat) (vn vk lv lv1:A0) (L M:List Mb) (ks D R':Fo) (kv us vs':List A0) (bk bd br:List Nat) (tp:List Int) (ac:Option Addr) (nc cc:Nat):Prop where
 e1:D.app R'=ks
 e2:us++vs'=kv
 ln:Q us=D.len
 lc:LCs lo R'
 nr:uy wr lo Ax R' vs' br
 pb:(bd++br).Perm bk
 lw:Lw wr lo lv1 (L++M)
 mf:M.map Mb.N=D.flat (Q L)
 mp:∀y,(nB' M).count y<=bd.count y
 mr:∀x∈M,Fr w.heap.size x.vk
 fm:Fm lo lv.ownBlock w wr
 lb:∀g,lv1.ownBlock=X g->lv.ownBlock=X g\/w.heap.size<=g
 rb:w.heap.size<=rb/\lv1.ownBlock≠X rb/\wr.heap[rb]?=X (.cells (xF N (uL vn (fH N.k)) (.slice ac nc cc)) 100 (0,0))
 kr:wr.ownsRow w.heap.size 3 1 (.slice ac nc cc) nc (tp.map (D3 .i64))
 kd:(kB M++(B4 ac nc cc).ownBlock.toList).Nodup
 bx:∃num,ie wr b N vn num vk
 vr:wr.ownsRow lo 54 1 vk (Q kv) kv
 lq:∀x∈L,∀g,x.vk.ownBlock=X g->g<w.heap.size
 nw:wr.ownsRow lo 9 1 vn (Q (N.nm.map Ck)) (N.nm.map Ck)
section
variable {lo : Nat} {w wr w4 : World} {N N' : Nd} {b rb : Nat} {vn vk lv lv1 lv2 v : Value} {L M M2 : List Mb} {ks D k' r : Fo} {kv us vs' : List Value} {bk bd br : List Nat} {tp : List Int} {ac : Option Addr} {nc cc : Nat}
def aqk(a b:List Mb):kB (a++b)=kB a++kB b:=zr
def aql(a b:List Mb):nB' (a++b)=nB' a++nB' b:=zr
def qd{w:Br}{base e size:Nat}{v:A0}(o:w.ownsRow base e size v n xs)(a:v.ownBlock=X g):∃cs fr,w.heap[g]?=X (A9 cs e fr):=by
 rcases o.2 with⟨rfl,_⟩|⟨b,d,f,rfl,_,c,_⟩
 .simp[A5]at a
 .obtain rfl:b=g:=by simpa [A5] using a
  exact⟨_,_,c⟩
def Lj.kid(h:Lj lo w wr N b rb vn vk lv lv1 L M ks D (.cons N' k' r) kv us (v::vs') bk bd br tp ac nc cc)(k:Fm lo lv1.ownBlock wr w4)(ak:Lw w4 lo lv2 ((L++M)++M2))(al:M2.map Mb.N=(one N' k').flat (Q (L++M))){l:List Nat}(ad:∃d,br=l++d/\uy wr lo Ax r vs' d)(an:∀y,(nB' M2).count y<=l.count y)(q:∀x∈M2,Fr wr.heap.size x.vk)(F:(kB M2).Nodup)(p:∀g,lv2.ownBlock=X g->lv1.ownBlock=X g\/wr.heap.size<=g):∃d,Lj lo w w4 N b rb vn vk lv lv2 L (M++M2) ks (D.app (one N' k')) r kv (us++[v]) vs' bk (bd++l) d tp ac nc cc:=by
 obtain⟨d,rfl,am⟩:=ad;have ag:=h.fm.bl.size;have t:∀g,lv1.ownBlock=X g->∃i j,wr.heap[g]?=X (A9 i 100 j):=λg a=>qd h.lw.row a;have z:∀{g:Nat}{i:Array A0}{B:B7}{j:Nat×Nat},wr.heap[g]?=X (A9 i B j)->B≠100->lv1.ownBlock≠X g:=λa af e=>by
  obtain⟨ao,ap,c⟩:=t _ e;rw[a]at c;simp only[iL,tH]at c;exact af c.2.1
 have o:∀{u e size n:Nat}{C:A0}{E:List A0},wr.ownsRow u e size C n E->e≠100->(∀f,e≠yv f)->w4.ownsRow u e size C n E:=λA G H=>k.row A (λg a=>by obtain⟨i,j,c⟩:=qd A a;exact z c G) H;have K:Q (L++M)=Q L+D.sz:=by
  have e:=congrArg Q h.mf;rw[dr,Fo.flat_len]at e;rw[aB,e]
 have⟨av,s⟩:=h.bx;have ar:=ah h.rb.2.2;refine⟨d,?_,?_,?_,h.lc.2,k.nodes (λg a=>by obtain⟨i,j,c⟩:=t g a;exact⟨i,_,j,c,Z,Z,λf=>ik.2.2.2.symm⟩) _ _ _ am,?_,by rw[<-eB];exact ak,?_,?_,?_,h.fm.trans k h.lb,?_,⟨h.rb.1,?_,k.blk h.rb.2.2 h.rb.2.1 (λf=>ik.2.2.2.symm)⟩,o h.kr Z (λf=>ik.2.2.1.symm),?_,k.box s (z s ik.2.2.2),o h.vr Z (λf=>ik.2.1.symm),h.lq,o h.nw Z (λf=>ik.1.symm)⟩
 .rw[Fo.app_app];exact h.e1
 .rw[eB];exact h.e2
 .rw[aB,Fo.len_app,h.ln];rfl
 .rw[eB];exact h.pb
 .rw[fy,h.mf,al,Fo.flat_app,K]
 .intro y;have aL:=h.mp y;have a0:=an y;rw[aql,Ie,Ie];omega
 .intro x hx;rcases List.mem_append.1 hx with hx|hx
  .exact h.mr x hx
  .exact(q x hx).le ag
 .intro g a;rcases p g a with e|e
  .exact h.lb g e
  .exact .inr O
 .intro e;rcases p rb e with e|e
  .exact h.rb.2.1 e
  .omega
 .rw[aqk];refine nd3 (n:=wr.heap.size) h.kd F (λx hx=>?_) (λx hx=>?_)
  .rcases List.mem_append.1 hx with hx|hx
   .obtain⟨y,m,hx⟩:=List.mem_flatMap.1 hx;exact((h.lw.each y (Ii _ m)).2.lt x (by simpa using hx)).2
   .exact(h.kr.lt x (by simpa using hx)).2
  .obtain⟨y,m,hx⟩:=List.mem_flatMap.1 hx;exact q y m x (by simpa using hx)
def Lj.put{af:Fo}{z:Int}{o:Obj}{g cap:Nat}{m:Br}(h:Lj lo w wr N b rb vn vk lv lv1 L M ks D af kv us vs' bk bd br tp ac nc cc)(am:m.ownsRow w.heap.size 3 1 (A2 (X ⟨g,0,Ax⟩) (nc+1) cap) (nc+1) ((tp++[z]).map (D3 A3)))(n:(wr.alloc o).grownBy m (B4 ac nc cc).ownBlock)(ao:(B4 ac nc cc).ownBlock=X g\/g=(wr.alloc o).heap.size)(B:lo<=w.heap.size):Lj lo w (m.setCell ⟨rb,8,Ax⟩ (A2 (X ⟨g,0,Ax⟩) (nc+1) cap)) N b rb vn vk lv lv1 L M ks D af kv us vs' bk bd br (tp++[z]) (X ⟨g,0,Ax⟩) (nc+1) cap:=by
 have al:=h.fm.bl.size;have ar:=(de wr o).size;have G:∀c,(B4 ac nc cc).ownBlock=X c->w.heap.size<=c:=λc a=>(h.kr.lt c a).1;have v:Fm lo (B4 ac nc cc).ownBlock wr m:=⟨((de wr o).mono (aK B al)).trans ((ai lo (wr.alloc o)).grown n (aK B (aK al ar)) (λc a=>aK B (G c a))),λc j s k a E=> .inl ((n.block c (by have:=ah a;omega) (λe=>E e.symm)).trans (((de wr o).block c (ah a)).trans a))⟩;have C:∀{c:Nat}{j:Array A0}{s:B7}{k:Nat×Nat},wr.heap[c]?=X (A9 j s k)->s≠3->(B4 ac nc cc).ownBlock≠X c:=λa F e=>gy h.kr a F e;have H:=v.blk h.rb.2.2 (C h.rb.2.2 Z) (λi=>ik.2.2.2.symm);have x:Fm lo (X rb) m (m.setCell ⟨rb,8,Ax⟩ (A2 (X ⟨g,0,Ax⟩) (nc+1) cap)):=⟨(ai lo m).setCell (show lo<=(⟨rb,8,Ax⟩:Addr).block from aK B h.rb.1) _,λc j s k a E=> .inl ((az _ _ _ _ (λe=>E (by rw[e]))).trans a)⟩;have an:∀{c:Nat}{j:Array A0}{s:B7}{k:Nat×Nat},m.heap[c]?=X (A9 j s k)->s≠100->X rb≠X c:=λa F e=>by
  cases e;rw[H]at a;simp only[iL,tH]at a;exact F a.2.1.symm
 have K:∀{p e size q:Nat}{l:A0}{r:List A0},wr.ownsRow p e size l q r->(∀g,l.ownBlock=X g->(B4 ac nc cc).ownBlock≠X g)->(∀g,l.ownBlock=X g->g≠rb)->(∀i,e≠yv i)->(m.setCell ⟨rb,8,Ax⟩ (A2 (X ⟨g,0,Ax⟩) (nc+1) cap)).ownsRow p e size l q r:=λf t y A=>x.row (v.row f t A) (λg n e=>y g n (by cases e;rfl)) A;have ad:∀{p e size q:Nat}{l:A0}{r:List A0},wr.ownsRow p e size l q r->e≠3->e≠100->(∀i,e≠yv i)->(m.setCell ⟨rb,8,Ax⟩ (A2 (X ⟨g,0,Ax⟩) (nc+1) cap)).ownsRow p e size l q r:=λf t y A=>K f (λg n=>by obtain⟨j,k,d⟩:=qd f n;exact C d t) (λg n e=>by obtain⟨j,k,d⟩:=qd f n;rw[e,h.rb.2.2]at d;simp only[iL,tH]at d;exact y d.2.1.symm) A;have aL:∀{p q:Nat}{l:A0}{r:List A0},wr.ownsRow p 3 1 l q r->(∀g,l.ownBlock=X g->(B4 ac nc cc).ownBlock≠X g)->(m.setCell ⟨rb,8,Ax⟩ (A2 (X ⟨g,0,Ax⟩) (nc+1) cap)).ownsRow p 3 1 l q r:=λf t=>K f t (λg n e=>by obtain⟨j,k,d⟩:=qd f n;rw[e,h.rb.2.2]at d;simp only[iL,tH]at d;exact absurd d.2.1 Z) (λi=>ik.2.2.1.symm);have⟨a2,ag⟩:=h.bx;have⟨a3,ak⟩:=v.box ag (C ag ik.2.2.1);refine⟨h.e1,h.e2,h.ln,h.lc,x.nodes (λc a=>by cases a;exact⟨_,_,_,H,Z,Z,λi=>ik.2.2.2.symm⟩) _ _ _ (v.nodes (λc a=>by obtain⟨j,k,d⟩:=qd h.kr a;exact⟨_,_,_,d,Z,Z,λi=>ik.2.2.1.symm⟩) _ _ _ h.nr),h.pb,⟨K h.lw.row (λc a=>by obtain⟨j,k,d⟩:=qd h.lw.row a;exact C d Z) (λc a e=>h.rb.2.1 (by rw[<-e];exact a)) (λi=>ik.2.2.2.symm),λu hx=>⟨ad (h.lw.each u hx).1 Z Z (λi=>ik.1.symm),aL (h.lw.each u hx).2 (λc a e=>?_)⟩⟩,h.mf,h.mp,h.mr,(h.fm.trans v (λc a=> .inr (G c a))).trans x (λc a=> .inr (by cases a;exact h.rb.1)),h.lb,⟨h.rb.1,h.rb.2.1,aI _ rb 8 _ _ _ H⟩,?_,?_,x.box ak (an ak ik.2.2.2),ad h.vr Z Z (λi=>ik.2.1.symm),h.lq,ad h.nw Z Z (λi=>ik.1.symm)⟩
 .rcases List.mem_append.1 hx with hx|hx
  .have:=h.lq u hx c a;have:=G c e;omega
  .have f:=List.nodup_append.1 h.kd;exact f.2.2 c (List.mem_flatMap.2 ⟨u,hx,by simp[a]⟩) c (by simp[e]) rfl
 .exact x.row am (λc a=>by obtain⟨j,k,d⟩:=qd am a;exact an d Z) (λi=>ik.2.2.1.symm)
 .rcases ao with e|e
  .have f:=h.kd;rw[e]at f;exact f
  .have f:=(List.nodup_append.1 h.kd).1;rw[rl];refine⟨f,Jl _,λu hx a1 av=>?_⟩;have⟨a0,ap,hx⟩:=List.mem_flatMap.1 hx;have t:=((h.lw.each a0 (Ii _ ap)).2.lt u (by simpa using hx)).2;have y:a1=g:=by simpa [A5] using av
   omega
def atF:∀(c:Nat),pi N c=N->w.ownsRow lo 9 1 vn (Q (N.nm.map Ck)) (N.nm.map Ck)->w.ownsRow lo 9 1 (uL vn c) (Q N.nm) (N.nm.map Ck)/\∀y,(uL vn c).ownBlock.toList.count y<=vn.ownBlock.toList.count y
 |0,_,o=>⟨by rw[dr]at o;exact o,λy=>ix _⟩
 |5,_,o=>⟨by rw[dr]at o;exact o,λy=>ix _⟩
 |1,e,_|2,e,_|3,e,_|4,e,_|n+6,e,_=>by
  have h:[]=N.nm:=congrArg Nd.nm e;rw[<-h];exact⟨dA _ _ _ _,λy=>by simp[uL,A5]⟩
def Lj.fin{u:Int}{o:Obj}{cap:Nat}{f:Br}(h:Lj lo w wr N b rb vn vk lv lv1 L M ks ks .nil kv us [] bk bd [] (ks.tops (Q L)) ac nc cc)(ag:lo<=b)(af:pi N (fH N.k)=N)(am:lo<=w.heap.size)(ao:nc=ks.len)(ar:u=((Q L+ks.sz:Nat):Int))(av:f.ownsRow lo 100 9 (A2 (X ⟨g,0,Ax⟩) (Q (L++M)+1) cap) (Q (L++M)+1) (oa ((L++M)++[⟨{N with ks:=ks.tops (Q L)},uL vn (fH N.k),A2 ac nc cc⟩])))(d:((wr.setCell ⟨b,4,Ax⟩ (A6 A3 u)).alloc o).grownBy f lv1.ownBlock)(A:lv1.ownBlock=X g\/g=((wr.setCell ⟨b,4,Ax⟩ (A6 A3 u)).alloc o).heap.size)(t:B7):
  ∃M',Lw f lo (A2 (X ⟨g,0,Ax⟩) (Q (L++M)+1) cap) (L++M')/\M'.map Mb.N=(one N ks).flat (Q L)/\(∀y,(M'.flatMap λx=>x.vn.ownBlock.toList).count y<=(vn.ownBlock.toList++(bk++[])).count y)/\((∀x∈M',Fr w.heap.size x.vk)/\(M'.flatMap λx=>x.vk.ownBlock.toList).Nodup)/\Fm lo lv.ownBlock w f/\(∀k,(B4 (X ⟨g,0,Ax⟩) (Q (L++M)+1) cap).ownBlock=X k->lv.ownBlock=X k\/w.heap.size<=k)/\∃v a3,Value.iface t (Ce (X ⟨b,0,Ax⟩))= Fs a3 (Ce (X ⟨v,0,Ax⟩))/\f.cell? ⟨v,4,Ax⟩=X (A6 A3 ((Q L+ks.sz:Nat):Int)):=by
 have a6:=h.fm.bl.size;have⟨a8,ak⟩:=h.bx;obtain⟨j,l⟩:=Fm.num (lo:=lo) ak ag u Ax;generalize a7:wr.setCell ⟨b,4,Ax⟩ (A6 A3 u)=e at j l d A;have a4:=(de e o).size;have a5:=j.bl.size;have H:=j.row h.lw.row (λ_ _=>I) (λi=>ik.2.2.2.symm);have E:∀{k:Nat}{n:Array A0}{t:B7}{p:Nat×Nat},e.heap[k]?=X (A9 n t p)->t≠100->lv1.ownBlock≠X k:=λc ap a=>gy H c ap a;have al:∀k,lv1.ownBlock=X k->lo<=k:=λk c=>(h.lw.row.lt k c).1;have s:Fm lo lv1.ownBlock e f:=⟨((de e o).mono O).trans ((ai lo (e.alloc o)).grown d O al),λk n t p c an=> .inl ((d.block k (by have:=ah c;omega) (λa=>an a.symm)).trans (((de e o).block k (ah c)).trans c))⟩;have m:∀{B a size C:Nat}{u:A0}{G:List A0},wr.ownsRow B a size u C G->a≠100->(∀i,a≠yv i)->f.ownsRow B a size u C G:=λq ad z=>by
  have F:=j.row q (λ_ _=>I) z;exact s.row F (λg d=>by obtain⟨n,p,aL⟩:=qd F d;exact E aL ad) z
 have K:=(d.block b (by have:=ah l;omega) (λa=>E l ik.2.2.2 a.symm)).trans (((de e o).block b (ah l)).trans l);have⟨a1,a2⟩:=atF (fH N.k) af (m h.nw Z (λi=>ik.1.symm));refine⟨M++[⟨{N with ks:=ks.tops (Q L)},uL vn (fH N.k),A2 ac nc cc⟩],⟨?_,λx hx=>?_⟩,?_,λy=>?_,⟨λx hx=>?_,?_⟩,(h.fm.trans (j:Fm lo Ax wr e) (λk c=>by cases c)).trans s h.lb,λk c=>?_,b,t,rfl,?_⟩
 .rw[<-eB];have a:∀(r:List Mb)(x:Mb),Q (r++[x])=Q r+1:=λr x=>I;rw[a (L++M)];exact av
 .rw[<-eB]at hx;rcases List.mem_append.1 hx with hx|hx
  .exact⟨m (h.lw.each x hx).1 Z (λi=>ik.1.symm),m (h.lw.each x hx).2 Z (λi=>ik.2.2.1.symm)⟩
  .obtain rfl:=List.mem_singleton.1 hx;refine⟨a1,?_⟩;have q:=nK (m h.kr Z (λi=>ik.2.2.1.symm)) am;show f.ownsRow lo 3 1 _ (Q (ks.tops (Q L))) _;rw[Fo.tops_len,<-ao];exact q
 .rw[fy,h.mf,D9];rfl
 .have a9:=h.mp y;have a0:=h.pb.count_eq y;have ba:=a2 y;have a:(List.flatMap (λx=>x.vn.ownBlock.toList) (M++[(⟨{N with ks:=ks.tops (Q L)},uL vn (fH N.k),A2 ac nc cc⟩:Mb)]))=nB' M++((uL vn (fH N.k)).ownBlock.toList++[]):=zr;rw[a];simp only[dD,Ie]at a0⊢;omega
 .rcases List.mem_append.1 hx with hx|hx
  .exact h.mr x hx
  .obtain rfl:=List.mem_singleton.1 hx;exact λg d=>(h.kr.lt g d).1
 .have q:=h.kd;have a:(List.flatMap (λx=>x.vk.ownBlock.toList) (M++[(⟨{N with ks:=ks.tops (Q L)},uL vn (fH N.k),A2 ac nc cc⟩:Mb)]))=kB M++((B4 ac nc cc).ownBlock.toList++[]):=zr;rw[a,dD];exact q
 .obtain rfl:g=k:=by simpa [A5] using c
  rcases A with q|q
  .exact h.lb g q
  .exact .inr O
 .rw[au _ _ _ _ _ _ K,ar];rfl
end
def ffB(N:Nd)(L:Nat):Nat->Bool
 |0=>decide (1<=(Q N.nm:Int)/\(Q N.nm:Int)<=EA N.k)&&wh N.nm (Q N.nm) 0
 |1=>decide (1<=N.n/\N.n<(L:Int))
 |2=>Y
 |3=>txB N.k N.x
 |4=>if N.k=30 then(decide ((19:Int)<=N.op)&&decide (N.op<=22)) else(decide ((1:Int)<=N.op)&&decide (N.op<=18))
 |5=>wh N.nm (Q N.nm) 0
 |_=>Y
def Gt(w:Br)(lb mb:Nat)(g:A0)(h:Lk w lb mb g)(b:Nat)(N:Nd)(vn:A0)(c:Int)(j:Option Addr)(L ck:Nat)(r:L<=1048576)(hn:dv w vn N.nm)(m:Q N.nm<=1048576)(o:∀s∈N.nm,s.size<=1048576)(v:N.x.size<=1048576)(a:ie w b N vn c (A2 j L ck)):
  C2 B0 140 #[Ce (X ⟨lb,0,Ax⟩),ig N.k b] w λe w'=>e= B3 (E2 (ffB N L (fH N.k)))/\B1 w.heap.size w w':=by
 unfold ie at a;unfold ig;have d:∀{i:Bool},(C2 B0 140 #[Ce (X ⟨lb,0,Ax⟩),Fs (rL (fH N.k)) (Ce (X ⟨b,0,Ax⟩))] w λe w'=>e= B3 (E2 i)/\w'=w)->(C2 B0 140 #[Ce (X ⟨lb,0,Ax⟩),Fs (rL (fH N.k)) (Ce (X ⟨b,0,Ax⟩))] w λe w'=>e= B3 (E2 i)/\B1 w.heap.size w w'):=λu=>u.mono λe w' ⟨p,q⟩=>⟨p,q ▸ ai _ _⟩;rcases Ff N.k with hc|hc|hc|hc|hc|hc|hc
 .refine d ?_;rw[hc]at a⊢;exact ff0 w lb mb g h b N.k N.f N.t N.l c _ vn N.nm hn m o a
 .rw[hc]at a⊢;exact ff1 w lb b N.k N.f N.t N.l c N.n j L ck r a
 .refine d ?_;rw[hc]at a⊢;exact ff2 w lb b
 .rw[hc]at a⊢;exact ff3 w lb mb g h b N.k N.f N.t N.l c _ N.x O a
 .refine d ?_;rw[hc]at a⊢;exact ff4 w lb b N.k N.f N.t N.l c N.op _ a
 .refine d ?_;rw[hc]at a⊢;exact ff5 w lb mb g h b N.k N.f N.t N.l c _ vn (decide (N.op=1)) N.nm hn m o a
 .refine d ?_;rw[hc]at a⊢;exact ff6 w lb b
def ie.cells{vn:A0}{a:Int}(h:ie W b N vn a kv):W.cell? ⟨b,0,Ax⟩=X (A6 A3 N.k)/\W.cell? ⟨b,1,Ax⟩=X (A6 A3 N.f)/\W.cell? ⟨b,2,Ax⟩=X (A6 A3 N.t)/\W.cell? ⟨b,4,Ax⟩=X (A6 A3 a)/\W.cell? ⟨b,5,Ax⟩=X kv/\∀j,W.frozen? ⟨b,j,Ax⟩=B2:=by
 unfold ie at h;refine⟨?_,?_,?_,?_,?_,λj=>cD _ _ _ _ _ h⟩
 .rw[au _ _ _ _ _ _ h];simp
 .rw[au _ _ _ _ _ _ h];simp
 .rw[au _ _ _ _ _ _ h];simp
 .rw[au _ _ _ _ _ _ h];simp
 .rw[au _ _ _ _ _ _ h];simp
def kfB(N:Nd)(ks:List Int):Bool:=if fH N.k=1 then gE (Gs N.n.toNat) ks else rkB N.k ks
def aa4(w:Br)(b:Nat)(N:Nd)(vn d:A0)(j:Int)(ks:List Int)(g:lE w d ks)(h:Q ks<=1048576)(i:∀W,B1 w.heap.size w W->Lib.TabIs B0 W "strings.asciiSpace" .u8 Lib.asciiSpaceTab)(c:ie w b N vn j d)(hn:fH N.k=1->0<=N.n/\N.n<=200):
  C2 B0 141 #[ig N.k b] w λe w'=>e= B3 (E2 (kfB N ks))/\B1 w.heap.size w w':=by
 unfold kfB;by_cases a:fH N.k=1
 .rw[ab a];have⟨p,q⟩:=hn a;unfold ie at c;unfold ig;rw[a]at c⊢;have e:N.n=((N.n.toNat:Nat):Int):=O;refine aaG w b N.k N.f N.t N.l j N.n.toNat O d ks g h i ?_;rw[<-e];exact c
 .rw[aa a];have⟨m,_,_,_,o,_⟩:=c.cells;exact aaH w b N.k a d ks g h (i w (ai _ _)) m o
structure Im where
 N:Nd
 b:Nat
 vn:A0
 kv:A0
def nV(x:Im):A0:=ig x.N.k x.b
def qH(L:List Im)(ks:List Int):List A0:=ks.map λa=>match L[a.toNat]? with|some y=>nV y|none=> .nilIface
structure mI (W:Br) (base:Nat) (vs:A0) (L:List Im):Prop where
 row:W.ownsRow base 54 1 vs (Q L) (L.map nV)
 box:∀(i:Nat) x,L[i]?=X x->ie W x.b x.N x.vn i x.kv
 kid:∀(i:Nat) x,L[i]?=X x->W.ownsRow base 54 1 x.kv (Q x.N.ks) (qH (L.take i) x.N.ks)
 far:∀x∈L,x.kv.ownBlock=Ax\/x.kv.ownBlock≠vs.ownBlock
 rng:∀(i:Nat) x z,L[i]?=X x->z∈x.N.ks->0<=z/\z<(i:Int)
def ie.below{vn:A0}{a:Int}(h:ie W b N vn a kv)(c:B1 W.heap.size W W'):ie W' b N vn a kv:=(c.block _ (ah h)).trans h
def mI.below{base:Nat}{L:List Im}(h:mI W base vs L)(a:B1 W.heap.size W W'):mI W' base vs L:=
 ⟨bz h.row a,λc d b=>(h.box c d b).below a,λc d b=>bz (h.kid c d b) a,h.far,h.rng⟩
def sw{a:Nat}{f g:Array A0}{d e:B7}{h i:Nat×Nat}(j:W.heap[a]?=X (A9 f d h))(k:W.heap[b]?=X (A9 g e i))(ht:d≠e):a≠b:=by
 rintro rfl;have c:=j.symm.trans k;simp only[iL,tH]at c;exact ht c.2.1
def qI(c:Nat):yv c≠54/\yv c≠172/\yv c≠100:=by
 unfold yv;split<;>decide
def Fx{cs:Array A0}{f:Nat×Nat}(h:W.ownsMap B0 9 (plainElem (H:=Unit) B0 3) mb 22 (zG 22))(c:W.heap[b]?=X (A9 cs t f)):mb≠b:=by
 rintro rfl;obtain⟨e,d,a,g⟩:=h;rw[c]at a;cases a
def ae1(W:Br)(g:Nat):Prop:=∃a,W.heap[g]?=X (A9 a 54 (0,0))
def ql{base:Nat}(h:W.ownsRow base 54 1 v n xs)(b:v.ownBlock=X g):ae1 W g/\base<=g:=by
 rcases bm h with⟨_,rfl⟩|⟨d,i,rfl⟩
 .simp[A5]at b
 .obtain rfl:d=g:=by simpa [A5] using b
  rcases h.2 with⟨a,_⟩|⟨k,j,c,a,e,f,_⟩
  .cases a
  .cases a;exact⟨⟨c,f⟩,e⟩
structure CF (w0:Br) (lb mb p bn:Nat) (vs:A0) (L:List Im) (N:Nd) (vn vk kv:A0) (j:Nat) (W:Br):Prop where
 lk:Lk W lb mb vs
 ns:mI W w0.heap.size vs L
 rb:rA p W 100 N vn vk
 bx:ie W bn N vn (Q L) kv
 kr:W.ownsRow w0.heap.size 54 1 kv j (qH L (N.ks.take j))
 fr:kv.ownBlock=Ax\/kv.ownBlock≠vs.ownBlock
 fo:∀x∈L,x.kv.ownBlock=Ax\/x.kv.ownBlock≠kv.ownBlock
 bl:B1 w0.heap.size w0 W
 lo:w0.heap.size<=lb/\w0.heap.size<=bn/\w0.heap.size<=p
def CF.below{L:List Im}{vn vk:A0}(h:CF w0 lb mb p bn vs L N vn vk kv j W)(a:B1 W.heap.size W W'):CF w0 lb mb p bn vs L N vn vk kv j W':=
 ⟨h.lk.below a,h.ns.below a,h.rb.below a,h.bx.below a,bz h.kr a,h.fr,h.fo,h.bl.trans (a.mono h.bl.size),h.lo⟩
def CF.kid{L:List Im}{vn vk:A0}(an:oH w0)(h:CF w0 lb mb p bn vs L N vn vk kv j W)(r:W.grownBy W' kv.ownBlock){cap H:Nat}(u:W'.ownsRow w0.heap.size 54 1 (A2 (X ⟨g,0,Ax⟩) (j+1) cap) (j+1) (qH L (N.ks.take (j+1))))(am:kv.ownBlock=X g\/g=H)(ar:W.heap.size=H):
  ie W' bn N vn (Q L) kv/\CF w0 lb mb p bn vs L N vn vk (A2 (X ⟨g,0,Ax⟩) (j+1) cap) (j+1) (W'.setCell ⟨bn,5,Ax⟩ (A2 (X ⟨g,0,Ax⟩) (j+1) cap)):=by
 have z:∀a,kv.ownBlock=X a->ae1 W a/\w0.heap.size<=a:=λa s=>ql h.kr s;have w:∀{n:Nat}{o:Array A0}{i:B7},W.heap[n]?=X (A9 o i (0,0))->i≠54->W'.heap[n]?=X (A9 o i (0,0)):=λd A=>
  (r.block _ (ah d) (λe=>by obtain⟨⟨t,q⟩,_⟩:=z _ e.symm;exact sw d q A rfl)).trans d
 have k:ie W' bn N vn (Q L) kv:=w h.bx (qI _).1;have ag:B1 w0.heap.size w0 W':=h.bl.grown r h.bl.size (λa s=>(z a s).2);have F:B1 w0.heap.size w0 (W'.setCell ⟨bn,5,Ax⟩ (A2 (X ⟨g,0,Ax⟩) (j+1) cap)):=ag.setCell h.lo.2.1 _;have set:∀{n:Nat}{o:Array A0}{i:B7},W'.heap[n]?=X (A9 o i (0,0))->i≠yv (fH N.k)->(W'.setCell ⟨bn,5,Ax⟩ (A2 (X ⟨g,0,Ax⟩) (j+1) cap)).heap[n]?=X (A9 o i (0,0)):=λd A=>
  (az _ _ _ _ (λe=>by exact sw d k A e)).trans d
 have B:∀{K:A0}{G:Nat}{af:List A0},W'.ownsRow w0.heap.size 54 1 K G af->(W'.setCell ⟨bn,5,Ax⟩ (A2 (X ⟨g,0,Ax⟩) (j+1) cap)).ownsRow w0.heap.size 54 1 K G af:=λu=>
  u.kept (row:=X bn) ⟨rfl,rfl,rfl,by simp[World.setCell],λa s l=>az _ _ _ _ (λe=>l (by rw[e]))⟩ (by
   cases hv:A5 _ with
   |none=>exact .inl rfl
   |some a=>exact .inr (λe=>by obtain⟨⟨t,q⟩,_⟩:=ql u hv;obtain rfl:=cC e;exact sw k q (qI _).1 rfl))
 have ad:vs.ownBlock=Ax\/vs.ownBlock≠kv.ownBlock:=by
  rcases h.fr with e|e
  .cases hv:vs.ownBlock with
   |none=>exact .inl rfl
   |some a=>rw[e];exact .inr I
  .exact .inr (dy e)
 have C:∀a,a<W.heap.size->kv.ownBlock≠X a->X g≠X a:=λa s l e=>by
  obtain rfl:=cC e;rcases am with e2|e2
  .exact l e2
  .omega
 refine⟨k,⟨⟨set (w h.lk.b Z) (dy (qI _).2.1),?_,an.keep F⟩,⟨B (h.ns.row.kept r ad),?_,?_,h.ns.far,h.ns.rng⟩,set (w h.rb Z) (dy (qI _).2.2),?_,B u,?_,?_,F,h.lo⟩⟩
 .have E:=uA h.lk.m (r.block _ h.lk.m.lt (λe=>by obtain⟨⟨t,q⟩,_⟩:=z _ e.symm;exact Fx h.lk.m q rfl));exact uA E (az _ _ _ _ (λe=>by exact Fx E k e))
 .intro f b c;have d:=w (h.ns.box f b c) (qI _).1;by_cases l:b.b=bn
  .exfalso;have x:=h.ns.box f b c;have e2:=h.bx;unfold ie at x e2;rw[l,e2]at x;have ak:=congrArg (λap=>match ap with|some (Obj.cells t _ _)=>t[4]?|_=>Ax) x;simp at ak;have av:f<Q L:=(List.getElem?_eq_some_iff.1 c).1;omega
  .exact(az _ _ _ _ l).trans d
 .intro f b c;exact B ((h.ns.kid f b c).kept r (h.fo b (da c)))
 .unfold ie at k⊢;have:=aI W' bn 5 _ _ (A2 (X ⟨g,0,Ax⟩) (j+1) cap) k;rw[this];simp
 .refine .inr λe=>?_;have v:=e.symm;have y:=(h.ns.row.lt g v).2;exact C g y (by rcases ad with e2|e2;rw[e2]at v;cases v;rw[v]at e2;exact dy e2) rfl
 .intro b c;cases hxk:b.kv.ownBlock with
  |none=>exact .inl rfl
  |some a=>
   refine .inr λe=>?_;have⟨f,ao,al⟩:=jd c;have y:=((h.ns.kid f b (by rw[bi ao,al])).lt a hxk).2;refine C a y ?_ e.symm;rcases h.fo b c with e2|e2
   .rw[hxk]at e2;cases e2
   .rw[hxk]at e2;exact dy e2
def CF.start{L:List Im}{vn vk:A0}(t:oH w0)(r:mI w w0.heap.size vs L)(A:w.heap.size<=bn)(u:lb≠bn)(v:p≠bn)(lk:Lk W lb mb vs)(ns:mI W w0.heap.size vs L)(x:rA p W 100 N vn vk)(bx:ie W bn N vn 0 (A2 Ax 0 0))(q:B1 w0.heap.size w0 W)(lo:w0.heap.size<=lb/\w0.heap.size<=bn/\w0.heap.size<=p):
  CF w0 lb mb p bn vs L N vn vk (A2 Ax 0 0) 0 (W.setCell ⟨bn,4,Ax⟩ (A6 A3 (Q L))):=by
 have i:B1 w0.heap.size w0 (W.setCell ⟨bn,4,Ax⟩ (A6 A3 (Q L))):=q.setCell lo.2.1 _;have e:∀{f:Nat},f≠bn->(W.setCell ⟨bn,4,Ax⟩ (A6 A3 (Q L))).heap[f]?=W.heap[f]?:=λg=>az _ _ _ _ g;have l:∀{n:A0}{k:Nat}{o:List A0},W.ownsRow w0.heap.size 54 1 n k o->(W.setCell ⟨bn,4,Ax⟩ (A6 A3 (Q L))).ownsRow w0.heap.size 54 1 n k o:=λh=>
  h.kept (row:=X bn) ⟨rfl,rfl,rfl,by simp[World.setCell],λj z g=>az _ _ _ _ (λb=>g (by rw[b]))⟩ (by
   cases hv:A5 _ with
   |none=>exact .inl rfl
   |some j=>exact .inr (λb=>by obtain⟨⟨y,s⟩,_⟩:=ql h hv;obtain rfl:=cC b;exact sw bx s (qI _).1 rfl))
 refine⟨⟨(e u).trans lk.b,uA lk.m (e (λb=>Fx lk.m bx b)),t.keep i⟩,⟨l ns.row,λd a c=>?_,λd a c=>l (ns.kid d a c),ns.far,ns.rng⟩,(e v).trans x,?_,?_,.inl rfl,λa c=>?_,i,lo⟩
 .have:=ah (r.box d a c);exact(e O).trans (ns.box d a c)
 .unfold ie at bx⊢;have:=aI W bn 4 _ _ (A6 A3 (Q L)) bx;rw[this];simp
 .rw[Ic];exact dA _ _ _ _
 .cases a.kv.ownBlock with
  |none=>exact .inl rfl
  |some j=>exact .inr (by simp[A5])
theorem ww(g m:Nat):(⟨g,0,Ax⟩:Addr).add m=⟨g,m,Ax⟩:=by unfold Addr.add;split<;>simp_all
def CF.done{L:List Im}{vn vk:A0}(am:oH w0)(h:CF w0 lb mb p bn vs L N vn vk kv (Q N.ks) W)(ar:∀z∈N.ks,0<=z/\z<(Q L:Int)){a:A0}(s:W.grownBy W' vs.ownBlock)(l:W'.ownsRow w0.heap.size 54 1 a (Q L+1) (L.map nV++[ig N.k bn]))(al:a.ownBlock=vs.ownBlock\/a.ownBlock=X W.heap.size):
  W'.heap[lb]?=X (A9 #[.map (X mb),vs] 172 (0,0))/\
  Lk (W'.setCell ⟨lb,1,Ax⟩ a) lb mb a/\mI (W'.setCell ⟨lb,1,Ax⟩ a) w0.heap.size a (L++[⟨N,bn,vn,kv⟩])/\ie (W'.setCell ⟨lb,1,Ax⟩ a) bn N vn (Q L) kv/\B1 w0.heap.size w0 (W'.setCell ⟨lb,1,Ax⟩ a):=by
 have y:∀k,vs.ownBlock=X k->ae1 W k/\w0.heap.size<=k:=λk w=>ql h.ns.row w;have C:∀{n:Nat}{o:Array A0}{j:B7},W.heap[n]?=X (A9 o j (0,0))->j≠54->W'.heap[n]?=X (A9 o j (0,0)):=λd A=>
  (s.block _ (ah d) (λe=>by obtain⟨⟨G,r⟩,_⟩:=y _ e.symm;exact sw d r A rfl)).trans d
 have t:=C h.lk.b Z;have ag:B1 w0.heap.size w0 W':=h.bl.grown s h.bl.size (λk w=>(y k w).2);have ad:B1 w0.heap.size w0 (W'.setCell ⟨lb,1,Ax⟩ a):=ag.setCell h.lo.1 _;have set:∀{n:Nat}{o:Array A0}{j:B7},W'.heap[n]?=X (A9 o j (0,0))->j≠172->(W'.setCell ⟨lb,1,Ax⟩ a).heap[n]?=X (A9 o j (0,0)):=λd A=>
  (az _ _ _ _ (λe=>by exact sw d t A e)).trans d
 have E:∀{c:A0}{u:Nat}{v:List A0},W'.ownsRow w0.heap.size 54 1 c u v->(W'.setCell ⟨lb,1,Ax⟩ a).ownsRow w0.heap.size 54 1 c u v:=λl=>
  l.kept (row:=X lb) ⟨rfl,rfl,rfl,by simp[World.setCell],λk w ap=>az _ _ _ _ (λe=>ap (by rw[e]))⟩ (by
   cases B:A5 _ with
   |none=>exact .inl rfl
   |some k=>exact .inr (λe=>by obtain⟨⟨G,r⟩,_⟩:=ql l B;obtain rfl:=cC e;exact sw t r Z rfl))
 have F:ie (W'.setCell ⟨lb,1,Ax⟩ a) bn N vn (Q L) kv:=set (C h.bx (qI _).1) (qI _).2.1;have K:=uA h.lk.m (s.block _ h.lk.m.lt (λe=>by obtain⟨⟨G,r⟩,_⟩:=y _ e.symm;exact Fx h.lk.m r rfl));have an:qH L (N.ks.take (Q N.ks))=qH L N.ks:=by rw[Ig]
 have x:=h.kr;rw[an]at x;have H:∀{c:A0}{u:Nat}{v:List A0},W.ownsRow w0.heap.size 54 1 c u v->(c.ownBlock=Ax\/c.ownBlock≠vs.ownBlock)->(c.ownBlock=Ax\/c.ownBlock≠a.ownBlock):=λl B=>by
  rcases B with e|e
  .exact .inl e
  .rename_i c u v;cases d:c.ownBlock with
   |none=>exact .inl rfl
   |some k=>
    have:=(l.lt k d).2;rcases al with e2|e2
    .rw[e2,<-d];exact .inr e
    .rw[e2];exact .inr (by simp only[ne_eq,iL];omega)
 refine⟨t,⟨aI W' lb 1 _ _ _ t,uA K (az _ _ _ _ (λe=>by exact Fx K t e)),am.keep ad⟩,⟨?_,?_,?_,?_,?_⟩,F,ad⟩
 .rw[aB,fy];exact E l
 .intro b f hx;rcases aH b (Q L) with g|g
  .rw[mo g]at hx;exact set (C (h.ns.box b f hx) (qI _).1) (qI _).2.1
  .rw[jr g]at hx;obtain⟨q,i⟩:=List.getElem?_eq_some_iff.1 hx;simp at q i;subst i;obtain rfl:b=Q L:=O;exact F
 .intro b f hx;rcases aH b (Q L) with g|g
  .rw[mo g]at hx;rw[List.take_append_of_le_length O];exact E ((h.ns.kid b f hx).kept s (h.ns.far f (da hx)))
  .rw[jr g]at hx;obtain⟨q,i⟩:=List.getElem?_eq_some_iff.1 hx;simp at q i;subst i;obtain rfl:b=Q L:=O;rw[List.take_left];exact E (x.kept s h.fr)
 .intro f hx;rcases List.mem_append.1 hx with hx|hx
  .obtain⟨b,ao,ak⟩:=jd hx;exact H (h.ns.kid b f (by rw[bi ao,ak])) (h.ns.far f hx)
  .obtain rfl:=List.mem_singleton.1 hx;exact H x h.fr
 .intro b f z hx af;rcases aH b (Q L) with g|g
  .rw[mo g]at hx;exact h.ns.rng b f z hx af
  .rw[jr g]at hx;obtain⟨q,i⟩:=List.getElem?_eq_some_iff.1 hx;simp at q i;subst i;obtain rfl:b=Q L:=O;exact ar z af
def kinds(ns:List Nd)(ks:List Int):List Int:=ks.map λa=>(ns.getD a.toNat zNd).k
def mI.kids{base:Nat}{L:List Im}(h:mI W base vs L)(s:L.map Im.N=ns.take (Q L)){x:Im}(j:L[i]?=X x):lE W x.kv (kinds ns x.N.ks):=by
 have e:=h.kid i x j;have n:Q (kinds ns x.N.ks)=Q x.N.ks:=by simp[kinds]
 have w:i<Q L:=(List.getElem?_eq_some_iff.1 j).1;rcases bm e with⟨z,f⟩|⟨q,p,f⟩
 .exact .inl ⟨tG O,_,_,f⟩
 .rw[f]at e⊢;refine .inr ⟨⟨q,0,Ax⟩,p,by rw[n],?_,λl A c=>?_⟩
  .rw[n];rcases e.2 with⟨g,_⟩|⟨v,t,u,g,_,_,r,_⟩
   .cases g
   .cases g;exact r
  .unfold kinds at c;rw[dw]at c;cases hz:x.N.ks[l]? with
   |none=>rw[hz]at c;cases c
   |some d=>
    rw[hz]at c;obtain rfl:=cC c;have⟨z0,B⟩:=h.rng i x d j (da hz);obtain⟨a,k⟩:∃a,L[d.toNat]?=X a:=⟨L[d.toNat]'(O),bi _⟩;have o:(ns.getD d.toNat zNd)=a.N:=by
     have m:(L.map Im.N)[d.toNat]?=X a.N:=by rw[dw,k];rfl
     rw[s,zk,ab O]at m;rw[er,m];rfl
    have y:l<Q x.N.ks:=(List.getElem?_eq_some_iff.1 hz).1;refine⟨a.b,?_,?_⟩
    .rw[ww,e.cellAt l O];unfold qH;rw[dw,hz];simp only[xa];rw[zk,ab O,k,o];rfl
    .show W.cell? ⟨a.b,0,Ax⟩=X (A6 A3 (ns.getD d.toNat zNd).k);rw[o];exact(h.box _ a k).cells.1
