import Derived.Test.YtbkolnpplhbdmaaGreatDoorHPl21
import Derived.Test.YtbkolnpplhbdmaaGreatDoorHPl17
set_option linter.all false
set_option maxRecDepth 100000
set_option maxHeartbeats 12800000
open Bool renaming true->O,false->Ax
open Go.Value renaming int->U,slice->Ad,string->A2
open Go.IntKind renaming i64->V
open ByteArray renaming empty->Z
open Option renaming some->Ak,none->A3
open Go.Obj renaming cells->A0
open Go renaming World->A1,ownsRow_succ->Bc,Value->Bk
open Go.Calls renaming quiet_of_same->A5
open Go.Proofs.Tryz renaming prog->A9
namespace Go.Proofs.YtbkolnpplhbdmaaGreatDoor
open Go.RowKit Go.Maps Go.WideMaps
variable{Br:Int->ByteArray->ByteArray}{E:Int->ByteArray}{R:List Tk×List Int×Int}{S:Int->Nat->ByteArray}{T:ByteArray}{a i p r tab:Nat}{c k s t:Int}{l:List Wt}{us:List Tk}
def afi{ns:List Nd}(h:SzE ns E S i tab)(d:Szd ns)(ht:tab<=9000)(e:i<ns.length)(r:(ae ns i).k=7)
  (p:∀(z:Nat)(w:ByteArray),z<i->(ae ns z).k=7->w.size<=10->(Br z w).size+10000<=2000000*sN ns z) (m:ByteArray) (F:m.size<=10):(Ea ns E S Br (ae ns i) m tab).size+10000<=2000000*sN ns i:=by
 have s:=(kJ (d.nb i e)).1;have j:=λt q=>jv (d.nb i e) e t q;have⟨y,A,B,C,o⟩:=ahK s r;have⟨n,b⟩:=j 0 (by omega);have⟨u,a⟩:=j 1 (by omega);have v:=h.e n b.lt;have x:=h.blk d ht (fG a.lt) a.len;unfold Ea;rw[b.id,a.id,d.at_ i e];simp only[au];rcases bg (ae ns i).ks.length 3 with g|g
 .rw[ab g,AI ns (by omega),b.id,a.id];show _+_+1+_+0+_<=_;omega
 .rw[aa (by omega),ah0 ns (by omega),b.id,a.id];have⟨l,c⟩:=j 2 (by omega);rw[c.id]at o⊢;by_cases f:(ae ns l).k=7
  .rw[ab f];have:=p l ⟨#[32,101,108,105,102,32]⟩ c.lt f (by show 6<=10;omega);show _+_+1+_+_+_<=_;omega
  .rw[aa f];have:=h.blk d ht (fG c.lt) c.len;rw[au];show _+_+1+_+(6+_)+_<=_;omega
def aik{ns:List Nd}{N:Nd}(h:mJ ns N=O):(nm0 N).size<=4000:=by
 unfold nm0;rw[aF];cases e:N.nm[0]? with
 |none=>show 0<=4000;omega
 |some a=>exact EA h a (dj e)
def ail{ns:List Nd}(h:SzE ns E S i tab)(d:Szd ns)(ht:tab<=9000)(b:i<ns.length)
  (L:(ae ns i).k=7->(Br (-1) ⟨#[105,102,32]⟩).size+10000<=2000000*sN ns i):(prS ns E S Br (ae ns i) tab).size+10000<=2000000*sN ns i:=by
 have f:=(kJ (d.nb i b)).1;have m:=λak ad=>jv (d.nb i b) b ak ad;have r:=λp o=>(h.kid d (ag _) b p o).1;have nm0:=aik f;have an:=Lx (ae ns i).nm (EA f);unfold prS;by_cases B:(ae ns i).k=1
 .rw[ab B];have:=h.blk d ht (ag _) b;omega
 rw[aa B];by_cases u:(ae ns i).k=2
 .rw[ab u,d.at_ i b];have⟨c,j⟩:=abu f u;have:=tC ns E (ae ns i).ks r;simp only[au];split
  .show 4+_+0+_<=_;omega
  .rw[au];show 4+_+(3+_)+_<=_;omega
 rw[aa u];by_cases v:(ae ns i).k=3
 .rw[ab v,d.at_ i b];have⟨c,j,q⟩:=Ew f v;have⟨g,a⟩:=m 0 (by omega);rw[rD ns c,a.id];have:=h.e g a.lt;simp only[au];show 6+_+3+_+_<=_;omega
 rw[aa v];by_cases w:(ae ns i).k=4
 .rw[ab w,d.at_ i b];have⟨c,j,q⟩:=abv f w;have⟨g,a⟩:=m 0 (by omega);rw[rD ns c];rw[a.id]at j⊢;have:=h.bod d ht (fG a.lt) a.len j;simp only[au];show 3+_+_+_<=_;omega
 rw[aa w];by_cases I:(ae ns i).k=5
 .rw[ab I,d.at_ i b,Ev ns (ae ns i).ks (ae ns i).n.toNat];have:=tC ns E ((ae ns i).ks.take (ae ns i).n.toNat) (λp o=>r p (Cz o));have:=tC ns E ((ae ns i).ks.drop (ae ns i).n.toNat) (λp o=>r p (List.mem_of_mem_drop o));simp only[au];show _+3+_+_<=_;omega
 rw[aa I];by_cases J:(ae ns i).k=6
 .rw[ab J,d.at_ i b];have⟨c,j⟩:=G5 f (by omega);have⟨g,a⟩:=m 0 (by omega);rw[rD ns c,a.id];have:=h.e g a.lt;omega
 rw[aa J];by_cases x:(ae ns i).k=7
 .rw[ab x];exact L x
 rw[aa x];by_cases y:(ae ns i).k=8
 .rw[ab y,d.at_ i b];have⟨c,j,q⟩:=Ey f y;have⟨g,a⟩:=m 0 (by omega);have⟨A,l⟩:=m 1 (by omega);rw[AI ns c,a.id,l.id];have:=h.e g a.lt;have:=h.blk d ht (fG l.lt) l.len;simp only[au];show 6+_+1+_+_<=_;omega
 rw[aa y];by_cases z:(ae ns i).k=9\/(ae ns i).k=10
 .rw[ab z,d.at_ i b];have af:0<(ae ns i).ks.length/\(ae ns i).nm.length<=200:=by
   rcases z with e|e
   .obtain⟨c,j,q,K⟩:=abw f e;omega
   .obtain⟨c,j,q,K⟩:=I7 f e;omega
  have⟨A,l⟩:=m ((ae ns i).ks.length-1) (by omega);rw[ak6 ns af.1,l.id];have:=tC ns E ((ae ns i).ks.take ((ae ns i).ks.length-1)) (λp o=>r p (Cz o));have:=h.blk d ht (fG l.lt) l.len;have al:(if(ae ns i).k=9 then(⟨#[32,61,32]⟩:ByteArray) else⟨#[32,105,110,32]⟩).size<=4:=by
   split
   .show 3<=4;omega
   .show 4<=4;omega
  simp only[au];show 4+_+_+_+1+_+_<=_;omega
 rw[aa z];by_cases C:(ae ns i).k=11
 .rw[ab C,d.at_ i b];show 5+_<=_;omega
 rw[aa C];by_cases F:(ae ns i).k=12
 .rw[ab F,d.at_ i b];show 4+_<=_;omega
 rw[aa F];by_cases G:(ae ns i).k=13
 .rw[ab G,d.at_ i b];have:=tC ns E (ae ns i).ks r;simp only[au];split
  .show 6+0+_<=_;omega
  .rw[au];show 6+(1+_)+_<=_;omega
 rw[aa G];by_cases s:(ae ns i).k=14
 .rw[ab s,d.at_ i b];have⟨c,j,q,K⟩:=abx f s;have⟨g,a⟩:=m 0 (by omega);have⟨A,l⟩:=m 1 (by omega);rw[AI ns c,a.id,l.id];have:=h.blk d ht (fG a.lt) a.len;have:=h.blk d ht (fG l.lt) l.len;simp only[au];show 4+_+7+_+1+_+_<=_;omega
 rw[aa s];by_cases t:(ae ns i).k=15
 .rw[ab t,d.at_ i b];have⟨c,j⟩:=Ez f t;have⟨g,a⟩:=m 0 (by omega);rw[rD ns c,a.id];have:=h.e g a.lt;simp only[au];show 6+_+_<=_;omega
 rw[aa t];by_cases H:(ae ns i).k=16
 .rw[ab H,d.at_ i b];have⟨c,j⟩:=G5 f (by omega);have⟨g,a⟩:=m 0 (by omega);rw[rD ns c,a.id];have:=h.e g a.lt;simp only[au];show 6+_+_<=_;omega
 rw[aa H,d.at_ i b];show 0+_<=_;omega
def adu{ns:List Nd}(d:Szd ns)(o:∀i:Int,(ae ns i).n<=9223372036854775807):∀(f i tab:Nat),i<ns.length->tab+f<=8000->
  (Bp ns f i tab).size+10000<=2000000*sN ns i/\(ul ns f i tab).size+10000<=2000000*sN ns i/\((ae ns i).k=7->∀w:ByteArray,w.size<=10->(AB ns f i w tab).size+10000<=2000000*sN ns i)
 |0,i,tab,g,ht=>by
  have:=d.at_ i g;refine⟨?_,?_,λ_ w _=>?_⟩;all_goals (first|(rw[Bp];show 0+_<=_;omega)|(rw[ul];show 0+_<=_;omega)|(rw[AB];show 0+_<=_;omega))
 |f+1,i,tab,g,ht=>by
  have j:=λ(a e:Nat) (c:a<i) (p:e+f<=8000)=>adu d o f a e (by omega) p;have l:SzE ns (λk=>Bp ns f k tab) (λk e=>ul ns f k e) i tab:=⟨λa c=>(j a tab c (by omega)).1,λa c=>(j a (tab+1) c (by omega)).2.1⟩;have m:(ae ns i).k=7->∀w:ByteArray,w.size<=10->(Ea ns (λk=>Bp ns f k tab) (λk e=>ul ns f k e) (λk w=>AB ns f k w tab) (ae ns i) w tab).size+10000<=2000000*sN ns i:=λb w h=>
   afi l d (by omega) g b (λa w c b h=>(j a tab c (by omega)).2.2 b w h) w h
  refine⟨?_,?_,?_⟩
  .rw[Bp];exact ah4 l d (by omega) g (o _)
  .rw[ul];exact ail l d (by omega) g (λb=>m b _ (by show 3<=10;omega))
  .intro b w h;rw[AB];exact m b w h
def abA{ns:List Nd}(d:Szd ns)(j:∀i:Int,(ae ns i).n<=9223372036854775807)(s:ns.length<=3000)(o:0<ns.length):(mI ns).size<=6000000000:=by
 unfold mI;rw[G4,List.map_map];have e:((ns.length:Int)-1)=((ns.length-1:Nat):Int):=by omega
 rw[e];have h:∀a∈(ae ns ((ns.length-1:Nat):Int)).ks,(ul ns ns.length a 0).size+10000<=2000000*sN ns a:=by
  intro a c;obtain⟨k,g,rfl⟩:=rq c;obtain⟨m,b⟩:=jv (d.nb _ (by omega)) (by omega) k g;rw[b.id];exact(adu d j ns.length m 0 b.len (by omega)).2.1
 have p:=abt ns (λa=>(ul ns ns.length a 0).size) 1 _ h (by omega);have q:=d.at_ (ns.length-1) (by omega);have r:=d.le ((ns.length-1:Nat):Int);have f:((ae ns ((ns.length-1:Nat):Int)).ks.map (ByteArray.size ∘ λl=>ul ns ns.length l 0++⟨#[10]⟩))=(ae ns ((ns.length-1:Nat):Int)).ks.map λa=>(ul ns ns.length a 0).size+1:=by
  apply List.map_congr_left;intro a c;simp only[Function.comp];rw[au];rfl
 rw[f];omega
structure Mp (w0:A1) (p1:Addr) (n c1:Nat) (ns:List Nd):Prop where
 nds:gg w0 (.slice (Ak p1) n c1) ns
 cap:Ed w0 p1 ns
 len:ns.length=n
 big:n<=3000
 sz:Szd ns
 n0:∀i:Int, -9223372036854775808<=(ae ns i).n
 n1:∀i:Int,(ae ns i).n<=9223372036854775807
abbrev vT(b:Addr)(n a:Nat):Bk:= Ad (Ak b) n a
def OkB(a:A1)(i:Addr)(n l:Nat)(ns:List Nd)(f:Nat):Prop:=
 ∀(k tab:Nat)(j:ByteArray),k<f->(ae ns k).k=7->tab+f<=500000->∀{d c:Option Addr}{h g b e:Nat},NdR a i k (ae ns k) d h g c b e->Wr a (vT i n l) tab 96 #[pW a,jI (ae ns k) (Ad d h g) (Ad c b e),A2 j] (AB ns f k j tab)
structure OkA (w0:A1) (p1:Addr) (n c1:Nat) (ns:List Nd) (f:Nat):Prop where
 e:∀tab:Nat,tab+f<=500000->OkE w0 (vT p1 n c1) ns (λk=>Bp ns f k tab) tab f
 s:aq2 w0 (vT p1 n c1) ns (λk t=>ul ns f k t) f
 b:OkB w0 p1 n c1 ns f
def OkA.zero(e:A1)(d:Addr)(n c:Nat)(ns:List Nd):OkA e d n c ns 0:=
 ⟨λ_ _ b _ _ _ a=>absurd a (by omega),λb _ _ _ a=>absurd a (by omega),λb _ _ a=>absurd a (by omega)⟩
section
variable {w0 : World} {p1 : Addr} {n c1 : Nat} {ns : List Nd} (M : Mp w0 p1 n c1 ns) {f : Nat} (A : OkA w0 p1 n c1 ns f)
def Wr.expr0(A:OkA w0 p1 n c1 ns f){q:Nat}(ht:tab+f<=500000)(h:q<f)(d:gE (ae ns q).k=O):Wr w0 (vT p1 n c1) tab 94 #[pW w0,U V (q:Int),U V 0] (Bp ns f q tab):=
 λa b c g=>(A.e tab ht).zero q a b h d c g
def Wr.blk(M:Mp w0 p1 n c1 ns)(A:OkA w0 p1 n c1 ns f){q:Nat}(ht:tab+f<500000)(u:q<=f)(a:q<ns.length)(j:(ae ns q).k=1):Wr w0 (vT p1 n c1) tab 91 #[pW w0,U V (q:Int)] (Bo (λk t=>ul ns f k t) (ae ns q).ks tab):=by
 intro d e g l;have⟨m,r⟩:=kJ (M.sz.nb q a);have h:=zr m j;refine afc w0 _ ns _ f A.s M.nds (by rw[M.len];have:=M.big;omega) q a (λv o=>?_) (by omega) tab ht d e g l;obtain⟨c,i,rfl⟩:=rq o;have⟨p,b⟩:=jv (M.sz.nb q a) a c i;have:=Lu _ 0 h c (by omega) (by omega);rw[b.id]at this⊢;exact⟨p,rfl,by have:=b.lt;omega,b.len,this⟩
def Wr.exs(A:OkA w0 p1 n c1 ns f)(ht:tab+f<=500000){a:List Int}(g:aho ns f a)(i:a.length<=1048576)(v:Bk)(j:dH w0 v a):Wr w0 (vT p1 n c1) tab 93 #[pW w0,v] (eK (a.map λk=>Bp ns f k tab)):=
 λb c d h=>afb w0 _ v ns _ tab f (A.e tab ht) a j g i b c d h
def Wr.bod(M:Mp w0 p1 n c1 ns)(A:OkA w0 p1 n c1 ns f){q:Nat}(ht:tab+f<500000)(p:q<=f)(a:q<ns.length)(j:(ae ns q).k=36):Wr w0 (vT p1 n c1) tab 95 #[pW w0,U V (q:Int)] (F3 ns (λk t=>ul ns f k t) (ae ns q) tab):=by
 have⟨l,o⟩:=kJ (M.sz.nb q a);have⟨g,c,h,i⟩:=ahG l j;have⟨s,b⟩:=jv (M.sz.nb q a) a 0 (by omega);have⟨_,_,_,_,_,_,d⟩:=zj M.nds M.cap a;have:=M.len;have:=M.big;have:=b.lt;unfold F3 FL;rw[b.id]at c⊢;refine abe M.nds M.cap M.len (by omega) (by omega) (by omega) d (.bod h ?_ g b.at_ (Wr.blk M A ht (by omega) b.len c));rcases i with e|e
 .exact .inl ⟨by omega,aa (by omega)⟩
 .refine .inr ⟨e,?_⟩;rw[ab e];cases (ae ns q).nm with
  |nil=>exact .inl ⟨rfl,rfl⟩
  |cons m r=>exact .inr ⟨Nat.succ_pos _,rfl⟩
def tG(M:Mp w0 p1 n c1 ns)(d:i<ns.length)(p:i<=f){m:Nat}(h:∀j,a<=j->j<a+m->gE (ae ns (dD (ae ns i) j)).k=O)(q:a+m<=(ae ns i).ks.length):aho ns f (((ae ns i).ks.drop a).take m):=by
 intro r l;have⟨j,g,c⟩:=iq l;rw[gJ,ir]at g;rw[List.getElem_take,List.getElem_drop]at c;have⟨o,b⟩:=jv (M.sz.nb i d) d (a+j) (by omega);have e:=zu (N:=ae ns i) (j:=a+j) (by omega);rw[e,b.id]at c;have:=h (a+j) (by omega) (by omega);rw[b.id]at this;exact⟨o,c.symm,by have:=b.lt;omega,b.len,this⟩
end
section
variable {w0 : World} {p1 : Addr} {n c1 : Nat} {ns : List Nd} {f : Nat}
def Wr.bas(M:Mp w0 p1 n c1 ns)(A:OkA w0 p1 n c1 ns f){q:Nat}(ht:tab+f<=500000)(h:q<f)(i:q<ns.length)(d:gE (ae ns q).k=O):Wr w0 (vT p1 n c1) tab 169 #[pW w0,U V (q:Int)] (JC ns (λk=>Bp ns f k tab) q):=
 λa b c g=>ag7 w0 _ ns _ tab f (A.e tab ht) M.nds (by rw[M.len];have:=M.big;omega) q h i d a b c g
def LD(M:Mp w0 p1 n c1 ns)(A:OkA w0 p1 n c1 ns f)(tab i:Nat)(ht:tab+f<500000)(bb:i<=f)(w:i<ns.length)(bs:gE (ae ns i).k=O)(least:Int)(j:¬iA (ae ns i).k (ae ns i).op<least):
  Wr w0 (vT p1 n c1) tab 94 #[pW w0,U V (i:Int),U V least] (prE ns (λq=>Bp ns f q tab) (λq t=>ul ns f q t) (ae ns i) tab):=by
 have bA:=M.big;have b2:=M.len;have⟨p,b0⟩:=kJ (M.sz.nb i w);have l:=λr E=>jv (M.sz.nb i w) w r E;have a3:(ae ns i).k=31->1<=(ae ns i).op/\(ae ns i).op<=18:=λbo=>(pm p).2.2 bo;have bD:=aB bs;have b3:=Eb (ae ns i).k (ae ns i).op;have⟨bk,m,bn,bj,bh,bl,B⟩:=zj M.nds M.cap w;have c:=@ahn w0 p1 n c1 ns M.nds M.cap M.len (by omega) tab i (by omega) _ (by omega) a3 _ _ _ _ _ _ B;have a4:∀a9:ByteArray,((ae ns i).k=28\/(ae ns i).k=29\/(ae ns i).k=31)->Wr w0 (vT p1 n c1) tab 166 #[pW w0,jI (ae ns i) (Ad bk m bn) (Ad bj bh bl),A2 a9,U V (iA (ae ns i).k (ae ns i).op)] (FK ns (λq=>Bp ns f q tab) (ae ns i) a9 (iA (ae ns i).k (ae ns i).op)):=by
  intro a9 bE;have⟨e,d,v⟩:=pm p;have⟨a,b⟩:=l 0 (by omega);have⟨H,h⟩:=l 1 (by omega);have g:=jy 2 0 d 0 (by omega) (by omega);have o:=jy 2 0 d 1 (by omega) (by omega);have:=ac8 (ae ns i).k (ae ns i).op;have y:=b.lt;have bf:=h.lt;unfold FK;rw[b.id]at g⊢;rw[h.id]at o⊢;exact akD (λI J=>v (by omega)) B e b.at_ h.at_ (by omega) (λs c u x=>A.e tab (by omega) a _ s c (by omega) g (by unfold zi;split<;>omega) (by unfold zi;split<;>omega) u x) (λs c u x=>A.e tab (by omega) H _ s c (by omega) o (by omega) (by omega) u x)
 unfold prE;by_cases I:(ae ns i).k=28
 .rw[ab I];exact c (.inf (.inl ⟨I,rfl⟩) j (a4 _ (by omega)))
 rw[aa I];by_cases J:(ae ns i).k=29
 .rw[ab J];exact c (.inf (.inr ⟨J,rfl⟩) j (a4 _ (by omega)))
 rw[aa J];by_cases K:(ae ns i).k=31
 .rw[ab K];exact ahm (by omega) (by omega) a3 B K j (Ly (a3 K)) (a4 _ (by omega))
 rw[aa K];by_cases L:(ae ns i).k=30
 .rw[ab L];have⟨e,d,v⟩:=qv p;have⟨a,b⟩:=l 0 (by omega);have y:=b.lt;have b5:=b.len;unfold unB unS;rw[b.id]at d⊢;have ar:=am λs c u x=>A.e tab (by omega) a 11 s c (by omega) d (by omega) (by omega) u x;refine c (.nod (.inl ⟨L,rfl⟩) j ?_);have:=v L;by_cases a6:(ae ns i).op=21
  .rw[ab a6];exact c (.un (.inl ⟨a6,rfl⟩) e b.at_ ar)
  rw[aa a6];by_cases a7:(ae ns i).op=22
  .rw[ab a7];exact c (.un (.inr (.inl ⟨a7,rfl⟩)) e b.at_ ar)
  rw[aa a7];by_cases a8:(ae ns i).op=20
  .rw[ab a8];exact c (.un (.inr (.inr ⟨a8,rfl⟩)) e b.at_ ar)
  rw[aa a8];refine Ek M.nds M.cap M.len (by omega) B (.neg e b.at_ (show _=_ by omega) ⟨by omega,?_⟩ ar);unfold D9;by_cases F:(ae ns a).k=30
  .by_cases av:(ae ns a).op=19
   .exact .inl ⟨F,.inl ⟨av,by rw[F,av];rfl⟩⟩
   .exact .inl ⟨F,.inr ⟨av,by simp[av]⟩⟩
  .exact .inr ⟨F,by simp[F]⟩
 rw[aa L];by_cases a0:(ae ns i).k=32
 .rw[ab a0];have⟨e,d,v⟩:=pm p;have⟨a,b⟩:=l 0 (by omega);have⟨H,h⟩:=l 1 (by omega);have g:=jy 2 0 d 0 (by omega) (by omega);have o:=jy 2 0 d 1 (by omega) (by omega);have y:=b.lt;have bf:=h.lt;rw[b.id]at g⊢;rw[h.id]at o⊢;exact c (.idx a0 j e b.at_ h.at_ (Wr.bas M A (by omega) (by omega) b.len g) (Wr.expr0 A (by omega) (by omega) o))
 rw[aa a0];by_cases a1:(ae ns i).k=33
 .rw[ab a1];have⟨e,d,v⟩:=qv p;have⟨a,b⟩:=l 0 (by omega);have y:=b.lt;rw[b.id]at d⊢;exact c (.fld a1 j e b.at_ (Wr.bas M A (by omega) (by omega) b.len d))
 rw[aa a1];by_cases al:(ae ns i).k=34
 .rw[ab al];have⟨e,d⟩:=I6 p al;have⟨a,b⟩:=l 0 (by omega);have g:=jy _ 0 d 0 (by omega) (by omega);have y:=b.lt;have ba:=tG M w bb (a:=1) (m:=(ae ns i).ks.length-1) (λr v bx=>jy _ 0 d r (by omega) (by omega)) (by omega);rw[dl (by rw[ir];exact ag _)]at ba;rw[b.id]at g⊢;exact c (.cal al j e b.at_ (Wr.bas M A (by omega) (by omega) b.len g) λbw bt=>Wr.exs A (by omega) ba (by rw[ir];omega) bw bt)
 rw[aa al];by_cases ao:(ae ns i).k=35
 .rw[ab ao];have e:=Eu p ao;refine c (.nod (.inr (.inl ⟨ao,rfl⟩)) j (afa M.nds M.cap M.len (by omega) B.ks (by omega) λb6 bv=>?_));obtain⟨r,E,rfl⟩:=rq bv;have⟨G,z⟩:=l r E;have d:=adk _ 0 e r (by omega) (by omega);rw[z.id]at d⊢;refine⟨G,rfl,z.len,?_⟩;have⟨bd,b1⟩:=kJ (M.sz.nb G z.len);have a5:=λr E=>jv (M.sz.nb G z.len) z.len r E;have b4:=z.lt;unfold wC;by_cases ad:(ae ns G).k=41
  .obtain⟨a2,C,br⟩:=pm bd;have⟨a,b⟩:=a5 0 (by omega);have⟨H,h⟩:=a5 1 (by omega);have g:=jy 2 0 C 0 (by omega) (by omega);have o:=jy 2 0 C 1 (by omega) (by omega);have y:=b.lt;have bf:=h.lt;rw[b.id]at g⊢;rw[h.id]at o⊢;exact .inl ⟨ad,a2,a,H,_,_,b.at_,h.at_,Wr.expr0 A (by omega) (by omega) g,Wr.expr0 A (by omega) (by omega) o,ab ad⟩
  .obtain⟨a2,C,br⟩:=qv bd;have⟨a,b⟩:=a5 0 (by omega);have y:=b.lt;rw[aa ad];rw[b.id]at C⊢;refine .inr ⟨a2,a,_,b.at_,Wr.expr0 A (by omega) (by omega) C,?_⟩;by_cases af:(ae ns G).k=42
   .exact .inl ⟨af,ab af⟩
   .exact .inr ⟨⟨ad,af⟩,aa af⟩
 rw[aa ao];by_cases ap:(ae ns i).k=36
 .rw[ab ap];exact c (.fn ap j (Wr.bod M A ht bb w ap))
 rw[aa ap];by_cases aK:(ae ns i).k=37
 .rw[ab aK];have⟨e,d,v⟩:=qv p;have⟨a,b⟩:=l 0 (by omega);have y:=b.lt;rw[b.id]at d⊢;exact c (.one aK j e b.at_ (Wr.expr0 A (by omega) (by omega) d))
 rw[aa aK];exact c (.nod (.inr (.inr ⟨by omega,rfl⟩)) j λs c u x=>ae6 w0 _ _ _ _ s tab c u (by omega) (M.n0 i) (M.n1 i) (λ_=>abq (M.sz.nb i w)) x)
def afj(M:Mp w0 p1 n c1 ns)(A:OkA w0 p1 n c1 ns f)(u:f<ns.length)(tab:Nat)(ht:tab+(f+1)<=500000):OkE w0 (vT p1 n c1) ns (λk=>Bp ns (f+1) k tab) tab (f+1):=by
 intro k i d e v g r s h a;have t:=M.big;have x:=M.len;have⟨p,w⟩:=kJ (M.sz.nb k (by omega));have o:(ae ns k).k=31->1<=(ae ns k).op/\(ae ns k).op<=18:=λl=>(pm p).2.2 l;have m:Bp ns (f+1) k tab=prE ns (λc=>Bp ns f c tab) (λc q=>ul ns f c q) (ae ns k) tab:=by rw[Bp]
 unfold kI at a⊢;simp only[m]at a⊢;by_cases b:iA (ae ns k).k (ae ns k).op<i
 .rw[ab b]at a⊢;have y:=Eb (ae ns k).k (ae ns k).op;have⟨_,_,_,_,_,_,j⟩:=zj M.nds M.cap (show k<ns.length by omega);exact ahn M.nds M.cap M.len (by omega) (by omega) (by omega) o j (.par b (LD M A tab k (by omega) (by omega) (by omega) g 0 (by omega))) d e h a
 .rw[aa b]at a⊢;exact LD M A tab k (by omega) (by omega) (by omega) g i b d e h a
end
section
variable {w0 : World} {p1 : Addr} {n c1 : Nat} {ns : List Nd} {f : Nat}
def EK(M:Mp w0 p1 n c1 ns)(A:OkA w0 p1 n c1 ns f)(tab i:Nat)(ht:tab+f<500000)(af:i<=f)(l:i<ns.length)(G:(ae ns i).k=7)(y:ByteArray){s r:Option Addr}{m u L ck:Nat}(R:NdR w0 p1 i (ae ns i) s m u r L ck):
  Wr w0 (vT p1 n c1) tab 96 #[pW w0,jI (ae ns i) (Ad s m u) (Ad r L ck),A2 y] (Ea ns (λq=>Bp ns f q tab) (λq t=>ul ns f q t) (λq w=>AB ns f q w tab) (ae ns i) y tab):=by
 have ad:=M.big;have ao:=M.len;have⟨H,al⟩:=kJ (M.sz.nb i l);have o:=λI F=>jv (M.sz.nb i l) l I F;have⟨J,K,v,x,E⟩:=ahK H G;have⟨B,b⟩:=o 0 (by omega);have⟨C,a⟩:=o 1 (by omega);have ap:=b.lt;have ar:=a.lt;rw[b.id]at v;rw[a.id]at x;have j:=am (Wr.expr0 A (tab:=tab) (by omega) (show B<f by omega) v);have h:=am (Wr.blk M A ht (show C<=f by omega) a.len x);have z:=@abe w0 p1 n c1 ns M.nds M.cap M.len (by omega) tab i (by omega) _ (by omega) _ _ _ _ _ _ R;unfold Ea;rw[b.id,a.id];rcases bg (ae ns i).ks.length 3 with g|g
 .rw[ab g,show ∀p:ByteArray,p++Z=p from λp=>ByteArray.append_empty];exact z (.br2 (by omega) b.at_ a.at_ j h)
 .rw[aa (by omega)];have⟨e,c⟩:=o 2 (by omega);have wc:=c.lt;have av:=c.len;rw[c.id]at E⊢;by_cases d:(ae ns e).k=7
  .rw[ab d];exact Ek M.nds M.cap M.len (by omega) R (.bre (by omega) b.at_ a.at_ c.at_ j h ⟨by omega,d⟩ λ_ _ _ _ _ _ R=>A.b e tab _ (by omega) d (by omega) R)
  .rw[aa d,<-de];exact Ek M.nds M.cap M.len (by omega) R (.br3 (by omega) b.at_ a.at_ c.at_ j h ⟨by omega,d⟩ (Wr.blk M A ht (show e<=f by omega) c.len (show(ae ns e).k=1 by omega)))
def aim{N:Nd}(h:N.nm.length=1):N.nm[0]?=Ak (nm0 N):=by
 unfold nm0;rw[aF,aw (by omega)];rfl
def ain(M:Mp w0 p1 n c1 ns)(A:OkA w0 p1 n c1 ns f)(tab i:Nat)(ht:tab+f<500000)(y:i<=f)(o:i<ns.length)(ba:iK (ae ns i).k=O):
  Wr w0 (vT p1 n c1) tab 45 #[pW w0,U V (i:Int)] (prS ns (λq=>Bp ns f q tab) (λq t=>ul ns f q t) (λ_ w=>Ea ns (λq=>Bp ns f q tab) (λq t=>ul ns f q t) (λq w=>AB ns f q w tab) (ae ns i) w tab) (ae ns i) tab):=by
 have bb:=M.big;have bh:=M.len;have⟨p,bf⟩:=kJ (M.sz.nb i o);have s:=λl a6=>jv (M.sz.nb i o) o l a6;have a5:(ae ns i).ks.length<=1048576:=by omega
 have⟨_,_,_,_,_,_,a0⟩:=zj M.nds M.cap o;have h:=@abe w0 p1 n c1 ns M.nds M.cap M.len (by omega) tab i (by omega) _ (by omega) _ _ _ _ _ _ a0;have bd:=aB ba;have a3:∀k:Int,k=34->gE k=O:=λk ak=>by rw[ak];rfl
 unfold prS;by_cases F:(ae ns i).k=1
 .rw[ab F];exact h (.blk F (Wr.blk M A ht y o F))
 rw[aa F];by_cases E:(ae ns i).k=2
 .rw[ab E];have⟨e,b⟩:=abu p E;by_cases v:(ae ns i).ks=[]
  .rw[ab v,show ∀z:ByteArray,z++Z=z from λz=>ByteArray.append_empty];exact h (.let0 b E (by rw[v];rfl))
  .rw[aa v];have j:=tG M o y (a:=0) (m:=(ae ns i).ks.length) (λl d x=>jy _ 0 e l (by omega) (by omega)) (by omega);rw[kC,dl (ag _)]at j;exact h (.let1 b E (List.length_pos_iff.2 v) λu r=>Wr.exs A (by omega) j a5 u r)
 rw[aa E];by_cases I:(ae ns i).k=3
 .rw[ab I];have⟨e,b,d⟩:=Ew p I;have⟨a,c⟩:=s 0 (by omega);have B:=c.lt;rw[c.id]at b⊢;exact h (.cst I e d (aim d) c.at_ (Wr.expr0 A (by omega) (by omega) b))
 rw[aa I];by_cases J:(ae ns i).k=4
 .rw[ab J];have⟨e,b,d⟩:=abv p J;have⟨a,c⟩:=s 0 (by omega);have B:=c.lt;rw[c.id]at b⊢;exact h (.fns J e d (aim d) c.at_ (Wr.bod M A ht (by omega) c.len b))
 rw[aa J];by_cases K:(ae ns i).k=5
 .rw[ab K];have⟨e,b,d,x⟩:=ahJ p K;obtain⟨m,a8⟩:∃m:Nat,(ae ns i).n=(m:Int):=⟨(ae ns i).n.toNat,by omega⟩;have a9:(ae ns i).n.toNat=m:=by omega
  rw[a9]at d x⊢;have j:=tG M o y (a:=0) (m:=m) (λl ar av=>amz _ 0 d l (by omega) (by omega)) (by omega);rw[kC]at j;have a4:=tG M o y (a:=m) (m:=(ae ns i).ks.length-m) (λl ar av=>jy _ m x l (by omega) (by omega)) (by omega);rw[dl (by rw[ir];exact ag _)]at a4;exact h (.set K (by omega) a8 (λu r=>Wr.exs A (by omega) j (by rw[gJ];omega) u r) λu r=>Wr.exs A (by omega) a4 (by rw[ir];omega) u r)
 rw[aa K];by_cases ao:(ae ns i).k=6
 .rw[ab ao];have⟨e,b⟩:=G5 p (by omega);have⟨a,c⟩:=s 0 (by omega);have B:=c.lt;rw[c.id]at b⊢;exact h (.one ao e c.at_ (Wr.expr0 A (by omega) (by omega) (a3 _ b)))
 rw[aa ao];by_cases L:(ae ns i).k=7
 .rw[ab L];exact h (.iff L (EK M A tab i ht y o L _ a0))
 rw[aa L];by_cases ad:(ae ns i).k=8
 .rw[ab ad];have⟨e,b,d⟩:=Ey p ad;have⟨a,c⟩:=s 0 (by omega);have⟨af,g⟩:=s 1 (by omega);have B:=c.lt;have aK:=g.lt;rw[c.id]at b⊢;rw[g.id]at d⊢;exact h (.whl ad e c.at_ g.at_ (Wr.expr0 A (by omega) (by omega) b) (Wr.blk M A ht (by omega) g.len d))
 rw[aa ad];by_cases a2:(ae ns i).k=9\/(ae ns i).k=10
 .rw[ab a2];by_cases a1:(ae ns i).k=10
  .rw[aa (by omega)];have⟨e,b,d,x⟩:=I7 p a1;rw[e];have j:=tG M o y (a:=0) (m:=1) (λl ar av=>by have ak:l=0:=(by omega);subst ak;exact b) (by omega);rw[kC]at j;have⟨af,g⟩:=s 1 (by omega);have aK:=g.lt;show Wr _ _ _ _ _ (_++_++_++_++_++Bo _ (ae ns (dD (ae ns i) 1)).ks tab);rw[g.id]at d⊢;exact h (.fr x (.inr ⟨a1,rfl,rfl⟩) e g.at_ (λu r=>Wr.exs A (by omega) j (by rw[gJ];omega) u r) (Wr.blk M A ht (by omega) g.len d))
  .have ap:(ae ns i).k=9:=by omega
   rw[ab ap];have⟨e,b,d,x⟩:=abw p ap;obtain⟨k,a7⟩:∃k,(ae ns i).ks.length=k+1:=⟨(ae ns i).ks.length-1,by omega⟩;rw[show(ae ns i).ks.length-1=k by omega]at b d⊢;have j:=tG M o y (a:=0) (m:=k) (λl ar av=>jy _ 0 b l (by omega) (by omega)) (by omega);rw[kC]at j;have⟨af,g⟩:=s k (by omega);have aK:=g.lt;rw[g.id]at d⊢;exact h (.fr (by omega) (.inl ⟨ap,rfl,by omega⟩) a7 g.at_ (λu r=>Wr.exs A (by omega) j (by rw[gJ];omega) u r) (Wr.blk M A ht (by omega) g.len d))
 rw[aa a2];by_cases al:(ae ns i).k=11
 .rw[ab al];exact h (.brk al)
 rw[aa al];by_cases an:(ae ns i).k=12
 .rw[ab an];exact h (.nxt an)
 rw[aa an];by_cases C:(ae ns i).k=13
 .rw[ab C];have e:=ahL p C;by_cases v:(ae ns i).ks=[]
  .rw[ab v,show ∀z:ByteArray,z++Z=z from λz=>ByteArray.append_empty];exact h (.ret0 C (by rw[v];rfl))
  .rw[aa v];have j:=tG M o y (a:=0) (m:=(ae ns i).ks.length) (λl d x=>jy _ 0 e l (by omega) (by omega)) (by omega);rw[kC,dl (ag _)]at j;exact h (.ret1 C (List.length_pos_iff.2 v) λu r=>Wr.exs A (by omega) j a5 u r)
 rw[aa C];by_cases G:(ae ns i).k=14
 .rw[ab G];have⟨e,b,d,x⟩:=abx p G;have⟨a,c⟩:=s 0 (by omega);have⟨af,g⟩:=s 1 (by omega);have B:=c.lt;have aK:=g.lt;rw[c.id]at b⊢;rw[g.id]at d⊢;exact h (.try_ x G e c.at_ g.at_ (Wr.blk M A ht (by omega) c.len b) (Wr.blk M A ht (by omega) g.len d))
 rw[aa G];by_cases H:(ae ns i).k=15
 .rw[ab H];have⟨e,b⟩:=Ez p H;have⟨a,c⟩:=s 0 (by omega);have B:=c.lt;rw[c.id]at b⊢;exact h (.thr H e c.at_ (Wr.expr0 A (by omega) (by omega) b))
 rw[aa H,ab (by omega)];have⟨e,b⟩:=G5 p (by omega);have⟨a,c⟩:=s 0 (by omega);have B:=c.lt;rw[c.id]at b⊢;exact h (.dfr (show _=_ by omega) e c.at_ (Wr.expr0 A (by omega) (by omega) (a3 _ b)))
def aio(M:Mp w0 p1 n c1 ns)(A:OkA w0 p1 n c1 ns f)(k:f<ns.length):OkA w0 p1 n c1 ns (f+1):=
 ⟨λb g=>afj M A k b g,
  λh b c d l m g e a=>by
  simp only[ul]at a⊢;exact ain M A b h (by omega) (by omega) (by omega) m c d e a,
  λh b o l j g _ _ _ _ _ _ i c d e a=>by
  simp only[AB]at a⊢;exact EK M A b h (by omega) (by omega) (by omega) j o i c d e a⟩
def okA(M:Mp w0 p1 n c1 ns):∀f,f<=ns.length->OkA w0 p1 n c1 ns f
 |0,_=>OkA.zero w0 p1 n c1 ns
 |f+1,h=>aio M (okA M f (by omega)) (by omega)
end
open Go.Lib (strCells strCells_length)
def Je(T:ByteArray):strCells T=B8 (xz T.data.toList):=by
 unfold strCells B8 xz;rw[List.map_map];rfl
def afk{w:A1}{base g n a:Nat}(b:w.ownsRow base 5 1 (Ad (Ak ⟨g,0,A3⟩) n a) n (strCells T)):
  (convert 22 9 (Ad (Ak ⟨g,0,A3⟩) n a)).run A9 w= .ok (A2 T) w:=by
 rw[Je]at b;rw[oD b,Av]
def jw(ns:List Nd):ByteArray:=if(eG ns).1=0 then IA ns else⟨#[]⟩
def Ed.below{w W:A1}{a:Addr}{n i:Nat}{ns:List Nd}(h:Ed w a ns)(k:gg w (Ad (Ak a) n i) ns)(l:cg w W):Ed W a ns:=by
 intro m b c d g f;have⟨p,j,q,o,e⟩:=k.get g;cases j;have:=cell_kept l e.c8;rw[this]at f;obtain rfl:o= Ad c b.ks.length d:=by simpa using f
 exact h m b c d g e.c8
def abB{ns:List Nd}(h:(eG ns).1=0):0<ns.length/\ns.length<=3000/\(ae ns ((ns.length:Int)-1)).k=1:=by
 have e:=su h;have:=e.len;unfold eG at h;by_cases b:iu ns=O
 .rw[ab b]at h;exact absurd h (by decide)
 .have c:iu ns=Ax:=by simpa using b
  have d:=mA c;refine⟨by omega,by omega,?_⟩;by_cases a:(ns.getD (ns.length-1) Gk).k=1
  .unfold ae;rw[show((ns.length:Int)-1).toNat=ns.length-1 by omega];rw[aF,aw (by omega)]at a⊢;exact a
  .exact absurd (.inr (.inr a)) d
def Pr.new(a:A1)(b:Bk):Pr a b Z 0 (a.alloc (A0 #[b,Ad A3 0 0,U V 0] 119)):=
 ⟨(ah _ a).alloc (ag _) _,Ad A3 0 0,aA a _,fs _ _ _ _⟩
def F7(w:A1)(e:Addr)(n c:Nat)(ns:List Nd)(h:gg w (Ad (Ak e) n c) ns)(cf:Ed w e ns)(ar:ns.length=n)(d4:n<=1048576)(c4:∀N∈ns,lL N)(cl:∀N∈ns,ami N):
  Calls A9 22 #[.agg #[Ad (Ak e) n c]] w (jf w (A2 (jw ns))):=by
 have bf:∀q,cg w (w.alloc q):=λq=>(ah _ w).alloc (ag _) q;have l:=Ft h cf cl ar;have bv:=λq=>Et (w.alloc q) (Ad (Ak e) n c) ns (h.below (bf q)) (by omega) c4;have⟨a1,bb⟩:=aC ((eG ns).1);have⟨j,b9⟩:=aC ((eG ns).2);rw[bb,b9]at bv;have z:=am bb;go_in;go_wp2_with fail;have bE:=aA w (A0 #[Ad (Ak e) n c] 26);have d9:(w.alloc (A0 #[Ad (Ak e) n c] 26)).heap.size=w.heap.size+1:=fe _ _;refine dt (bv _) λw1 E=>?_;have I:=(E.block _ (by omega)).trans bE;have F:cg w w1:=(bf _).trans (E.mono (by omega));by_cases C:a1=0
 .subst C;have a5:=fp I;have d6:=ai I;have b5:((0:Int)!=0)=Ax:=rfl;have ao:cg w1 (w1.alloc (A0 #[U V 0,U V j] 58)):=(ah _ w1).alloc (ag _) _;have o:cg w (w1.alloc (A0 #[U V 0,U V j] 58)):=F.trans (ao.mono F.size);have al:(w1.alloc (A0 #[U V 0,U V j] 58)).cell? ⟨w.heap.size,0,A3⟩=Ak (Ad (Ak e) n c):=cell_kept ao a5;have⟨ec,cI,bx⟩:=abB z.out;have ar:=l.2.2.2;obtain⟨b,rfl⟩:∃b,n=b+1:=⟨n-1,by omega⟩;have bd:ae ns ((ns.length:Int)-1)=ae ns (b:Int):=by congr 1;omega
  rw[bd]at bx;have⟨dd,c9,dg,a4,i,a7,ad⟩:=zj l.1 l.2.1 (show b<ns.length by omega);have a8:=(ad.rd _ (o.trans (((ah _ _).alloc (ag _) (A0 #[Ad (Ak e) (b+1) c,Ad A3 0 0,U V 0] 119)).mono o.size))).c8;have ds:((b:Int)+1)-1=(b:Int):=by omega
  have d7:(0:Int)<=(b:Int):=by omega
  have d8:(b:Int)<(b:Int)+1:=by omega
  have r:Mp (w1.alloc (A0 #[U V 0,U V j] 58)) e (b+1) c ns:=by
   refine⟨l.1.below o,l.2.1.below l.1 o,ar,by omega,ahI z,λbr=>?_,λbr=>?_⟩;all_goals
    unfold ae;rw[aF];cases k:ns[br.toNat]? with
    |none=>decide
    |some N=>have:=(l.2.2.1 N (dj k)).n;simp only[gy];omega
  have cu:=abA r.sz r.n1 (by omega) (by omega);have a3:=Pr.new (w1.alloc (A0 #[U V 0,U V j] 58)) (Ad (Ak e) (b+1) c);have K:=am a3;have a6:((w1.alloc (A0 #[U V 0,U V j] 58)).alloc (A0 #[Ad (Ak e) (b+1) c,Ad A3 0 0,U V 0] 119)).cell? ⟨w.heap.size,0,A3⟩=Ak (Ad (Ak e) (b+1) c):=cell_kept ((ah _ _).alloc (ag _) _) al;generalize cb:w1.alloc (A0 #[U V 0,U V j] 58)=m at r K a3 a6 al a8 o ao;have bD:=okA r ns.length (ag _);have⟨cy,d5⟩:=kJ (r.sz.nb b (by omega));have ce:=zr cy bx;have bk:=ad.hL;have⟨p,v⟩:=aC ((ae ns (b:Int)).ks);obtain⟨d,ap⟩:∃d,(p.map λa=>ul ns ns.length a 0++(⟨#[10]⟩:ByteArray))=d:=⟨_,rfl⟩;have ct:mI ns=ju d:=by unfold mI;rw[bd,v,ap]
  have cB:∀t∈p,∃f:Nat,t=(f:Int)/\f<ns.length/\iK (ae ns f).k=O:=by
   intro t G;rw[<-v]at G;obtain⟨bs,cp,rfl⟩:=rq G;have⟨c7,bn⟩:=jv (r.sz.nb b (by omega)) (by omega) bs cp;have:=Lu _ 0 ce bs (by omega) (by omega);rw[bn.id]at this⊢;exact⟨c7,rfl,bn.len,this⟩
  have cq:dH m (Ad a4 i a7) p:=by rw[<-v];exact ad.ks.below o
  have g:Hid (OkA m e (b+1) c ns ns.length/\dH m (Ad a4 i a7) p/\(∀t∈p,∃f:Nat,t=(f:Int)/\f<ns.length/\iK (ae ns f).k=O)/\p.length=i/\(p.map λa=>ul ns ns.length a 0++(⟨#[10]⟩:ByteArray))=d/\mI ns=ju d/\(mI ns).size<=6000000000/\ns.length<=3000/\d.length=i):=⟨bD,cq,cB,by rw[<-v];exact bk,ap,ct,cu,cI,by rw[<-ap,bq,<-v];exact bk⟩;have d0:i<=200:=by omega
  have J:=am o;subst cb;go_wp2_with fail;have bl:(w1.alloc (A0 #[U V 0,U V j] 58)).heap.size=w1.heap.size+1:=fe _ _;generalize w1.alloc (A0 #[U V 0,U V j] 58)=m at K g J al a6 a8 bl⊢;have L:=am bl;go_loopw [25] (λa0 wr=>∃a:Nat,a<=i/\a0= U V a/\Hid (Pr m (Ad (Ak e) (b+1) c) (ju (d.take a)) 0 wr)) (λa0 _=>i-(intOf a0).toNat)
  case atStart=>exact⟨0,by omega,rfl,K⟩
  case round=>
   obtain⟨a,d1,rfl,u⟩:=hrel;by_cases cr:a<i
   .obtain⟨t,aK⟩:=cJ g.2.2.2.1 cr;obtain⟨f,rfl,cw,cx⟩:=g.2.2.1 t (dj aK);obtain⟨dc,rfl,dq⟩:=(g.2.1.below u.bel).get aK;have d3:(a:Int)<(i:Int):=by omega
    have d2:(0:Int)<=(a:Int):=by omega
    have cz:d[a]?=Ak (ul ns ns.length f 0++⟨#[10]⟩):=by rw[<-g.out.2.2.2.2.1,cD,aK];rfl
    have a9:=AE d a _ cz;have ba:=ac9 d (a+1);have b6:=g.2.2.2.2.2.2.1;rw[g.out.2.2.2.2.2.1]at b6;rw[a9]at ba;simp only[au]at ba;have G:(ju (d.take a)).size+((ul ns ns.length f 0).size+1)<=6000000000:=by
     have k:(⟨#[10]⟩:ByteArray).size=1:=rfl;omega
    have H:=g.1.s f 0 (ju (d.take a)) wr cw cx (by have:=g.2.2.2.2.2.2.2.1;omega) u (by show _+(ul ns ns.length f 0).size<=_;omega);have a2:=am a9;simp only at H;have⟨da,cc⟩:=aC (ul ns ns.length f 0);rw[cc]at H a2 G;rw[L.out]at H;go_wp2_with fail;refine H.mono ?_;rintro k ed ⟨rfl,c0,ea⟩;have b0:=am c0;go_wp2_with fail;have bt:=gA m _ _ ⟨#[10]⟩ _ _ b0 (by rw[au];show _+_+1<=_;omega);rw[L.out]at bt;refine bt.mono ?_;rintro k ee ⟨rfl,bA,eb⟩;rw[de,<-a2.out]at bA;have b1:=am bA;go_wp2;exact⟨⟨a+1,by omega,by go_num,b1⟩,by simp[intOf];omega⟩
   .obtain rfl:a=i:=by omega
    have ca:d.take a=d:=dl (by rw[g.out.2.2.2.2.2.2.2.2];exact ag _);rw[ca,<-g.out.2.2.2.2.2.1]at u;have af:cg w wr:=J.out.trans (u.bel.mono J.size);have⟨q,cd,x⟩:=u.row;have y:Hid (jw ns=if 65536<(mI ns).size then Z else mI ns):=by show _=_;unfold jw IA;rw[ab z.out]
    have bo:=g.2.2.2.2.2.2.1;have⟨D,b7⟩:=aC (mI ns);rw[b7]at x y bo;have⟨B,bj⟩:=aC D.size;rw[bj]at x y bo;obtain⟨b3,b4,rfl⟩:=di x;have c6:wr.cell? ⟨m.heap.size,1,A3⟩=Ak (Ad b3 B b4):=by rw[aj _ _ _ _ _ _ cd];rfl
    rw[L.out]at c6;by_cases bh:65536<B
    .have A:Hid (jw ns=Z):=by show _=_;rw[y.out,ab bh]
     have E:(65536:Int)<(B:Int):=by omega
     go_wp2;go_ret;exact⟨by rw[A.out];rfl,af⟩
    .have A:Hid (jw ns=D):=by show _=_;rw[y.out,aa bh]
     have E:¬(65536:Int)<(B:Int):=by omega
     rcases bJ x with⟨C,k⟩|⟨dx,df,k⟩
     .cases k;have b8:D=⟨#[]⟩:=by
       apply kD;have:D.data.size=0:=bj;exact Array.eq_empty_of_size_eq_zero this
      have cF:(convert 22 9 (Ad A3 0 0)).run A9 wr= .ok (A2 ⟨#[]⟩) wr:=by kernel_rfl
      go_wp2;go_ret;exact⟨by rw[A.out,b8];rfl,af⟩
     .cases k;have cF:=afk x;go_wp2;go_ret;exact⟨by rw[A.out];rfl,af⟩
 .have b5:(a1 !=0)=O:=by rw[yl];exact C
  have a5:=fp I;have b2:Hid (jw ns=⟨#[]⟩):=by show _=_;unfold jw;rw[aa (by rw[z.out];exact C)]
  go_wp2;go_ret;exact⟨by rw[b2.out];rfl,F.trans (((ah _ w1).alloc (ag _) _).mono F.size)⟩
end Go.Proofs.YtbkolnpplhbdmaaGreatDoor
namespace Go.Proofs.YtbkolnpplhbdmaaGreatDoor
open Go.RowKit Go.Maps Go.WideMaps
variable{Br:Int->ByteArray->ByteArray}{E:Int->ByteArray}{R:List Tk×List Int×Int}{S:Int->Nat->ByteArray}{T:ByteArray}{a i p r tab:Nat}{c k s t:Int}{l:List Wt}{us:List Tk}
def SCl(ns:List Nd)(z:Nat)(x:ByteArray):Prop:=∃l,0<x.size/\jk nD x l/\Bl l (Sh ns z)/\(cst l:Int)+14<=wN ns z
def KS(ns:List Nd)(S:Int->Nat->ByteArray)(t:Nat)(z:Int):Prop:=∃a:Nat,z=(a:Int)/\SCl ns a (S a t)
def abC(t:Nat):0<(jc t).size/\aq (jc t) 0=10:=by
 unfold jc;exact⟨ax,by rw[eC (by decide)];rfl⟩
def rE{x:ByteArray}(h:lr x=O):0<x.size/\bI (aq x 0)=O:=by
 unfold lr at h;have⟨b,a,c,d⟩:=aB h;have e:=od a;exact⟨aH rfl,a⟩
def adv:∀(r:List ByteArray)(x:ByteArray),(∀s∈x::r,lr s=O)->jk zy (eK (x::r)) (KC (x::r))/\0<(eK (x::r)).size
 |[],x,h=>by
  have a:=h x aI;rw[ru];exact⟨oC a,(rE a).1⟩
 |y::r,x,h=>by
  have a:=h x aI;obtain⟨c,d⟩:=adv r y λs b=>h s (cG _ b);rw[qa];exact⟨(oC a).app (my.app c d rfl) ax B9,ax (rE a).1⟩
def amG:∀(r:List ByteArray)(x:ByteArray),(∀s∈x::r,s.size<=3)->cst (KC (x::r))<=19*(r.length+1)
 |[],x,h=>by
  have:=h x aI;simp only[KC,cst,wt,mi,Int.reduceLT,reduceIte];simp;omega
 |y::r,x,h=>by
  have:=h x aI;have:=amG r y λs a=>h s (cG _ a);rw[KC]
  .simp only[cst,wt,mi,sgF,Int.reduceLT,reduceIte,bc];omega
  .simp
def aip:∀(nm:List ByteArray)(t:Bool),(∀s∈nm,s.size<=3)->cst (D2 nm t)<=19*nm.length+11
 |[],false,_=>aD _
 |[],true,_=>by decide
 |x::r,t,h=>by
  have:=h x aI;have:=aip r t λs a=>h s (cG _ a);rw[D2];split
  .simp only[cst,wt,mi,Int.reduceLT,reduceIte,bc];omega
  .simp only[cst,wt,mi,sgF,Int.reduceLT,reduceIte,bc];omega
def x19{N:Nd}(h:JD N)(a:N.k≠25):N.x.size<=19:=by
 rcases h.x with g|g
 .exact g.2.1
 .exact absurd g.1 a
def aiq(h:bI c=O):wD (dK 48) 48 c=O:=by
 have b:=od h;have a:bI (aq (dK 48) 0)=Ax/\cm (aq (dK 48) 0)=Ax/\aq (dK 48) 0≠34/\aq (dK 48) 0≠45:=by decide+kernel
 unfold wD nxS;rw[aa (by rw[a.1];simp),aa (by rw[a.2.1];simp[a.2.2.1])];simp[a.2.2.2];omega
def prT(nm:List ByteArray)(r:Bool):ByteArray:=eK nm++(if r=O then(if nm=[] then⟨#[46,46,46]⟩ else iI++⟨#[46,46,46]⟩) else Z)
def Jf:jk nD ⟨#[46,46,46]⟩ [sgF 49]:=(lit [49]).mono λa b=>by
 have:∀a∈vf,itF [49] a=O:=by decide+kernel
 exact this a (aB b)
def air:∀(nm:List ByteArray)(r:Bool),(∀s∈nm,lr s=O)->(nm≠[]\/r=O)->jk nD (prT nm r) (D2 nm r)/\0<(prT nm r).size
 |[],false,_,h=>by simp at h
 |[],true,_,_=>by
  have e:prT [] O=⟨#[46,46,46]⟩:=by decide
  rw[e];exact⟨Jf,by decide⟩
 |[x],false,h,_=>by
  have a:=h x aI;have e:prT [x] Ax=x:=by unfold prT;rw[ru];exact nE x
  rw[e];exact⟨(oC a).mono λj=>Db,(rE a).1⟩
 |[x],true,h,_=>by
  have a:=h x aI;have e:prT [x] O=x++(iI++⟨#[46,46,46]⟩):=by unfold prT;rw[ru];rfl
  rw[e];exact⟨(oC a).app (my.app Jf) (by decide) (by decide),ax (rE a).1⟩
 |x::b::r,c,h,_=>by
  have a:=h x aI;obtain⟨g,i⟩:=air (b::r) c (λs f=>h s (cG _ f)) (.inl (by simp));have e:prT (x::b::r) c=x++(iI++prT (b::r) c):=by
   unfold prT;rw[qa,aa (show ¬x::b::r=[] by simp),aa (show ¬b::r=[] by simp)];simp only[de]
  have d:D2 (x::b::r) c=mi x::sgF 46::D2 (b::r) c:=by rw[D2,aa (by simp)]
  rw[e,d];exact⟨(oC a).app (my.app g i rfl) ax B9,ax (rE a).1⟩
def aln(N:Nd)(h:∀s∈N.nm,lr s=O):jk pL (FL N) (sgF 40::(D2 N.nm (decide (N.op=1))++[sgF 41])):=by
 have c:jk pL ⟨#[41,32]⟩ [sgF 41]:=lit [41,0];have d:FL N=⟨#[40]⟩++prT N.nm (decide (N.op=1))++⟨#[41,32]⟩:=by
  unfold FL prT;simp only[decide_eq_true_eq,de]
 rw[d];by_cases b:N.nm≠[]\/decide (N.op=1)=O
 .obtain⟨i,j⟩:=air N.nm _ h b;have:=(Dc.app i j rfl).app c;exact this.as
 .have f:N.nm=[]:=by by_cases a:N.nm=[];exact a;exact absurd (.inl a) b
  have g:decide (N.op=1)=Ax:=by cases a:decide (N.op=1) with
   |true=>exact absurd (.inr a) b
   |false=>rfl
  rw[f,g];have e:prT [] Ax=Z:=by decide
  rw[e,nE];exact Dc.app c
section
variable {ns : List Nd} {E : Int → ByteArray} {S : Int → Nat → ByteArray} {i tab q : Nat}
def adw:∀(ks:List Int),(∀z∈ks,KS ns S (tab+1) z)->∃m,0<(ju (ks.map λk=>jc (tab+1)++S k (tab+1))++jc tab).size/\aq (ju (ks.map λk=>jc (tab+1)++S k (tab+1))++jc tab) 0=10/\jk pL (ju (ks.map λk=>jc (tab+1)++S k (tab+1))++jc tab) m/\SLc m (qw (Sh ns) ks)/\(cst m:Int)<=wK ns ks+11
 |[],_=>by
  refine⟨[nlW],?_⟩;have e:ju (([]:List Int).map λk=>jc (tab+1)++S k (tab+1))++jc tab=jc tab:=EI _;rw[e];exact⟨(abC tab).1,(abC tab).2,adr tab,SLc.nil,by show(11:Int)<=0+11;decide⟩
 |z::p,b=>by
  obtain⟨c,rfl,f,g,h,i,q⟩:=b z aI;obtain⟨m,j,l,n,o,r⟩:=adw p λc d=>b c (cG _ d);refine⟨nlW::(f++m),?_⟩;rw[dw,EJ,qw];simp only[de];have a:=abC (tab+1);refine⟨ax a.1,by rw[eC a.1];exact a.2,?_,SLc.cons i o,by simp only[cst,ci,wt,sgF,mi,nlW,Int.reduceLT,reduceIte];rw[wK];omega⟩;exact(adr (tab+1)).app (h.app n j (by rw[l];decide)) (ax g) rfl
def asB(ks:List Int)(h:∀z∈ks,KS ns S (tab+1) z):∃l,0<(Bo S ks tab).size/\jk pL (Bo S ks tab) l/\Iq l (one (bN 1 0 0 z0 []) (qw (Sh ns) ks))/\(cst l:Int)<=wK ns ks+33:=by
 unfold Bo;split
 .rename_i b;subst b;exact⟨[sgF 42,sgF 43],by decide,(lit [42,43]).mono λa _=>(show wD (dK 43) 43 a=O from ads (by decide) a),anJ,by show(22:Int)<=0+33;decide⟩
 .obtain⟨d,e,j,f,g,k⟩:=adw ks h;have b:(⟨#[123]⟩:ByteArray)++ju (ks.map λc=>jc (tab+1)++S c (tab+1))++jc tab++⟨#[125]⟩=⟨#[123]⟩++(ju (ks.map λc=>jc (tab+1)++S c (tab+1))++jc tab)++⟨#[125]⟩:=by simp only[de]
  rw[b];have i:jk pL (⟨#[123]⟩:ByteArray) [sgF 42]:=lit1;have a:jk pL (⟨#[125]⟩:ByteArray) [sgF 43]:=lit1;refine⟨sgF 42::(d++[sgF 43]),ax ax,?_,SLc.bl g,by simp[csE];omega⟩;have:=(i.app f e rfl).app a;exact this.as
structure JzE (ns:List Nd) (E:Int->ByteArray) (S:Int->Nat->ByteArray) (i:Nat) (tab:Nat):Prop where
 e:∀z:Nat,z<i->z<ns.length->gE (ae ns z).k=O->Fq ns z (E z)
 s:∀z:Nat,z<i->z<ns.length->iK (ae ns z).k=O->SCl ns z (S z (tab+1))
 b:∀z:Nat,z<ns.length->JD (ae ns z)
def JzE.blk(h:JzE ns E S i tab)(d:Wzd ns)(v:q<=i)(a:q<ns.length)(b:(ae ns q).k=1):∃l,0<(Bo S (ae ns q).ks tab).size/\jk pL (Bo S (ae ns q).ks tab) l/\Iq l (Sh ns q)/\(cst l:Int)+117<=wN ns q:=by
 have c:=(kJ (d.nb q a)).1;obtain⟨l,o,p,r,w⟩:=asB (ns:=ns) (S:=S) (tab:=tab) (ae ns q).ks λx m=>by
  obtain⟨f,rfl,t,j,n,u,g⟩:=tE d a m;have e:=Lu _ 0 (zr c b) n (by omega) (by omega);rw[g]at e;exact⟨f,rfl,h.s f (by omega) j e⟩
 refine⟨l,o,p,?_,by rw[d.at_ q a];have:=xe (ae ns q);omega⟩;rw[uf d a,zB c,b];exact r
def JzE.bod(h:JzE ns E S i tab)(d:Wzd ns)(F:q<=i)(c:q<ns.length)(p:(ae ns q).k=36):∃l,(0<(F3 ns S (ae ns q) tab).size/\aq (F3 ns S (ae ns q) tab) 0=40)/\jk pL (F3 ns S (ae ns q) tab) l/\BDc l (Sh ns q)/\(cst l:Int)+170<=wN ns q:=by
 have e:=(kJ (d.nb q c)).1;have⟨m,n,C,v⟩:=ahG e p;have⟨B,a⟩:=jv (d.nb q c) c 0 (by omega);rw[a.id]at n;obtain⟨l,x,y,z,G⟩:=h.blk d (by have:=a.lt;omega) a.len n;have w:=aln (ae ns q) (amB e);unfold F3;rw[a.id];have j:0<(FL (ae ns q)).size/\aq (FL (ae ns q)) 0=40:=by
  unfold FL;have u:∀r:ByteArray,0<(⟨#[40]⟩++r:ByteArray).size:=λr=>ax;simp only[de];exact⟨u _,by rw[eC (by decide)];rfl⟩
 have o:=h.b q c;refine⟨_,⟨ax j.1,by rw[eC j.1];exact j.2⟩,w.app y x rfl,?_,by
  rw[d.at_ q c,mo m,a.id];have:=aip (ae ns q).nm (decide ((ae ns q).op=1)) λA e=>(o.s A e).sz;have:=o.nm;have:=xe (ae ns q);simp only[cst,ci,wt,sgF,Int.reduceLT,reduceIte,wK];omega⟩
 have:=Iq.body z (ae ns q).nm (decide ((ae ns q).op=1));rw[uf d c,zB e,p,mo m,li,a.id];have s:(if decide ((ae ns q).op=1)=O then(1:Int) else 0)=(ae ns q).op:=by
  rcases v with g|g<;>rw[g]<;>rfl
 rw[s]at this;have t:∀f:List Wt,(sgF 40::(f++[sgF 41]))++l=sgF 40::(f++(sgF 41::l)):=λf=>by simp
 rw[t];exact this
def JzE.ent(h:JzE ns E S i tab)(d:Wzd ns)(af:q<=i)(c:q<ns.length)(ad:40<=(ae ns q).k/\(ae ns q).k<=42):∃l,0<(wC ns E (ae ns q)).size/\jk nD (wC ns E (ae ns q)) l/\ENc l (Sh ns q)/\(cst l:Int)+100<=wN ns q:=by
 have n:=(kJ (d.nb q c)).1;have u:=λK J=>jv (d.nb q c) c K J;have w:=λG:Nat=>(pq (ae ns G).k (ae ns G).op).1;have ak:=xe (ae ns q);unfold wC;rw[uf d c,zB n,d.at_ q c];by_cases p:(ae ns q).k=41
 .obtain⟨t,z,_⟩:=pm n;have⟨f,b⟩:=u 0 (by omega);have⟨y,g⟩:=u 1 (by omega);have j:=jy 2 0 z 0 (by omega) (by omega);have C:=jy 2 0 z 1 (by omega) (by omega);rw[b.id]at j;rw[g.id]at C;have:=b.lt;have:=g.lt;have⟨l,a⟩:=h.e f (by omega) b.len j;have⟨L,m⟩:=h.e y (by omega) g.len C;rw[ab p,b.id,g.id,tF t,mG,b.id,g.id,p];have v:jk pL (⟨#[91]⟩:ByteArray) [sgF 44]:=lit1;have o:jk pL (⟨#[93,32,61,32]⟩:ByteArray) [sgF 45,sgF 47]:=lit [45,0,47,0];refine⟨sgF 44::(l++(sgF 45::sgF 47::L)),ax (ax ax),?_,nH.pair (a.ex.le (by have:=w f;omega)) (m.ex.le (by have:=w y;omega)),by have:=a.cs;have:=m.cs;simp only[cst,ci,wt,sgF,mi,nlW,Int.reduceLT,reduceIte];simp only[wK];omega⟩;have:=((v.app a.rd a.pos rfl).app o).app m.rd m.pos rfl;exact this.as
 rw[aa p];have⟨t,j,_⟩:=qv n;have⟨f,b⟩:=u 0 (by omega);rw[b.id]at j;have:=b.lt;have⟨l,a⟩:=h.e f (by omega) b.len j;have B:=a.ex.le (r:=0) (by have:=w f;omega);rw[b.id,mo t,li,b.id];by_cases s:(ae ns q).k=42
 .have A:=(Jc n).1 (by omega);have F:=rE A;rw[ab s,s];have v:jk (wD (dK 48) 48) (⟨#[46]⟩:ByteArray) [sgF 48]:=lit [48];have o:jk pL (⟨#[32,61,32]⟩:ByteArray) [sgF 47]:=lit [0,47,0];have I:wD (dK 48) 48 (aq (ae ns q).x 0)=O:=aiq F.2;refine⟨sgF 48::mi (ae ns q).x::sgF 47::l,ax (ax ax),?_,nH.named B,by have:=a.cs;have:=x19 (h.b q c) (by omega);simp only[cst,ci,wt,sgF,mi,nlW,Int.reduceLT,reduceIte];simp only[wK];omega⟩;exact((v.app (oC A) F.1 I).app o).app a.rd a.pos rfl
 .have H:(ae ns q).k=40:=by omega
  rw[aa s,H];exact⟨l,a.pos,a.rd,nH.item B,by have:=a.cs;simp only[wK];omega⟩
end
def abD{w:ByteArray}(h:cm (aq w 0)=O\/aq w 0=34)(a:nD c=O):wD w k c=O:=by
 have b:bI (aq w 0)=Ax:=by
  rcases h with g|g
  .have:=jG g;simp[bI];omega
  .rw[g];decide
 unfold wD;rw[aa (by rw[b];simp),ab h];exact a
def ao0{N:Nd}(h:JD N)(b:N.k=25):((fH (ej N.x)).size:Int)+37<=fW N:=by
 have c:=xe N;rcases h.x with g|⟨_,g|g⟩
 .exact absurd b g.1
 .have:=ac3 N.x;have:=g.1;omega
 .have:=akq N.x g.1.dg;have a:bgN N=1:=by unfold bgN;rw[ab (by have:=g.1.lo;omega)]
  unfold fW;rw[a];have:=g.2;omega
def ao1(n:Int)(a:n<=9223372036854775807):(ze n).size<=20:=by
 unfold ze;split
 .rw[ss];decide
 .show(po n.toNat).size<=20;rw[afh];exact Lib.nDigits_le20 _ (by omega)
def alo(n:Int):cm (aq (ze n) 0)=O:=by
 unfold ze;split
 .rw[(Da _ 16).1];decide
 .have:=EC n.toNat;exact this.2.1 0 this.1
section
variable {ns : List Nd} {E : Int → ByteArray} {S : Int → Nat → ByteArray} {i tab q : Nat}
def JzE.tbl(h:JzE ns E S i tab)(d:Wzd ns):∀(r:List Int)(z:Int),(∀a∈z::r,∃k:Nat,a=(k:Int)/\k<=i/\k<ns.length/\40<=(ae ns k).k/\(ae ns k).k<=42)->∃l,0<(eK ((z::r).map λk=>wC ns E (ae ns k))).size/\jk nD (eK ((z::r).map λk=>wC ns E (ae ns k))) l/\TBc l (qw (Sh ns) (z::r))/\(cst l:Int)<=wK ns (z::r)
 |[],z,g=>by
  obtain⟨a,rfl,b,c,e⟩:=g z aI;have⟨l,j,m,n,p⟩:=h.ent d b c e;refine⟨l,?_⟩;rw[dw,List.map_nil,ru,li];exact⟨j,m,n.last,by simp only[wK];omega⟩
 |z2::r,z,g=>by
  obtain⟨a,rfl,b,c,e⟩:=g z aI;have⟨l,j,m,n,p⟩:=h.ent d b c e;obtain⟨q,s,t,u,v⟩:=h.tbl d r z2 λa o=>g a (cG _ o);refine⟨l++(sgF 46::q),?_⟩;rw[dw,dw,qa,<-dw (f:=λk=>wC ns E (ae ns k)),qw];exact⟨ax j,m.app (my.app t s rfl) ax B9,n.cons u,by simp only[cst,ci,wt,sgF,mi,nlW,Int.reduceLT,reduceIte];rw[wK];omega⟩
def alp(d:Wzd ns)(q:i<ns.length)(m:JD (ae ns i))(F:20<=(ae ns i).k/\(ae ns i).k<=27):Fq ns i (C3 (ae ns i)):=by
 have p:=(kJ (d.nb i q)).1;have E:=ahH p F;have u:(ae ns i).ks=[]:=lD E;have f:=uf d q;have c:=f;rw[zB p,u,qw]at c;have w:=d.at_ i q;have I:=xe (ae ns i);have x:=x19 m;rw[u]at w;simp only[wK]at w;have r:∀(s:ByteArray)(k:Int),s=itT [k]->itC [k]=O->k≠0->(∀j∈vf,wD (dK k) k j=O)->jk nD s [sgF k]:=λs k z A B C=>by
  have:=lit [k] z A;simp only[itF,itL,aa B]at this;exact this.mono λj h=>C j (aB h)
 rcases(show(ae ns i).k=20\/(ae ns i).k=21\/(ae ns i).k=22\/(ae ns i).k=23\/(ae ns i).k=24\/(ae ns i).k=25\/(ae ns i).k=26\/(ae ns i).k=27 by omega) with e|e|e|e|e|e|e|e;all_goals (simp only[e]at c)
 .rw[show C3 (ae ns i)=⟨#[110,105,108]⟩ by unfold C3;simp[e]];exact EL.of_un (l:=[sgF 24]) (by rw[e];decide) (by decide) (by decide) (λa=>absurd a (by decide)) (r _ 24 (by decide+kernel) (by decide+kernel) (by decide) (by decide+kernel)) (by rw[c];exact anF) f (by simp[csE];omega)
 .rw[show C3 (ae ns i)=⟨#[116,114,117,101]⟩ by unfold C3;simp[e]];exact EL.of_un (l:=[sgF 29]) (by rw[e];decide) (by decide) (by decide) (λa=>absurd a (by decide)) (r _ 29 (by decide+kernel) (by decide+kernel) (by decide) (by decide+kernel)) (by rw[c];exact anG) f (by simp[csE];omega)
 .rw[show C3 (ae ns i)=⟨#[102,97,108,115,101]⟩ by unfold C3;simp[e]];exact EL.of_un (l:=[sgF 17]) (by rw[e];decide) (by decide) (by decide) (λa=>absurd a (by decide)) (r _ 17 (by decide+kernel) (by decide+kernel) (by decide) (by decide+kernel)) (by rw[c];exact anH) f (by simp[csE];omega)
 .rw[show C3 (ae ns i)=ze (ae ns i).n by unfold C3;simp[e]];have g:=alf (ae ns i).n m.int.n.1 m.int.n.2;have H:=ao1 (ae ns i).n m.int.n.2;have b:=alo (ae ns i).n;exact EL.of_un (l:=[⟨2,(ae ns i).n,⟨#[]⟩,ze (ae ns i).n⟩]) (by rw[e];decide) g.pos (λa=>by rw[a]at b;exact absurd b (by decide)) (λa=>by rw[a]at b;exact absurd b (by decide)) ((EE (t:=⟨2,(ae ns i).n,⟨#[]⟩,ze (ae ns i).n⟩) (by simp) (by simp) g).mono λj h=>abD (.inl b) h) (by rw[c];exact anC) f (by simp[csE,wt];omega)
 .rw[show C3 (ae ns i)=(ae ns i).x by unfold C3;simp[e]];have o:=(Jc p).2 e;have g:=alb o;have b:cm (aq (ae ns i).x 0)=O:=by unfold fok qm at o;rw[bB]at o;exact(aB o.2).1
  exact EL.of_un (l:=[⟨3,0,(ae ns i).x,(ae ns i).x⟩]) (by rw[e];decide) g.pos (λa=>by rw[a]at b;exact absurd b (by decide)) (λa=>by rw[a]at b;exact absurd b (by decide)) ((EE (t:=⟨3,0,(ae ns i).x,(ae ns i).x⟩) (by simp) (by simp) g).mono λj h=>abD (.inl b) h) (by rw[c];exact anD) f (by have:=x (by omega);simp[csE,wt];omega)
 .rw[show C3 (ae ns i)=fH (ej (ae ns i).x) by unfold C3;simp[e]];have g:=alc (ae ns i).x;have b:=Kj (ae ns i).x;exact EL.of_un (l:=[⟨4,0,(ae ns i).x,fH (ej (ae ns i).x)⟩]) (by rw[e];decide) g.pos (by rw[b];decide) (λa=>by rw[b]at a;cases a) ((EE (t:=⟨4,0,(ae ns i).x,fH (ej (ae ns i).x)⟩) (by simp) (by simp) g).mono λj h=>abD (.inr b) h) (by rw[c];exact anE) f (by have:=ao0 m e;simp[csE,wt];omega)
 .rw[show C3 (ae ns i)=(ae ns i).x by unfold C3;simp[e]];have v:=(Jc p).1 (by omega);have y:=rE v;have G:=od y.2;exact EL.of_ba (l:=[mi (ae ns i).x]) (by rw[e];decide) y.1 (by omega) (by omega) (oC v) (by rw[c,e];exact akc) f (by have:=x (by omega);simp[csE];omega)
 .rw[show C3 (ae ns i)=⟨#[46,46,46]⟩ by unfold C3;simp[e]];exact EL.of_un (l:=[sgF 49]) (by rw[e];decide) (by decide) (by decide) (λa=>absurd a (by decide)) Jf (by rw[c];exact anI) f (by simp[csE];omega)
def asC(d:Wzd ns)(p:i<ns.length)(j:(ae ns i).k=30)(h:dD (ae ns i) 0=(a:Int))(I:Fq ns a (E a)):Fq ns i (unB ns E (ae ns i)):=by
 have u:=(kJ (d.nb i p)).1;have⟨r,_,t⟩:=qv u;have t:=t j;have v:=uf d p;have q:=v;rw[zB u,mo r,li,h]at q;simp only[j]at q;have⟨l,K,L,ad,af,ak,an⟩:=alk I;have w:=d.at_ i p;have ao:=xe (ae ns i);rw[mo r,h]at w;simp only[wK]at w;have J:qo (ae ns i).k=Ax:=by rw[j];decide
 unfold unB;rw[h];have g:∀(k:Int)(f:ByteArray)(o:Int->Bool),unS ns (ae ns i)=f->0<f.size->aq f 0≠61->(aq f 0=45->D9 (ae ns i)=O)->jk o f [sgF k]->o (aq (kI ns E a 11) 0)=O->jE k=O->k≠7->k<100->aa3 k=(ae ns i).op->Fq ns i (unS ns (ae ns i)++kI ns E a 11):=λk f o x m z A B C n F G y=>by
  rw[x];refine EL.of_un (l:=sgF k::l) J (ax m) (by rw[eC m];exact z) (by rw[eC m];exact A) (B.app L K C) ?_ v (by
   have e:wt (sgF k)=11:=aa (show ¬k<5 from λb=>by unfold jE at n;have:=aB n;omega);simp only[cst,e];omega)
  rw[q,<-y];exact ad.pre n F G
 rcases(show(ae ns i).op=19\/(ae ns i).op=20\/(ae ns i).op=21\/(ae ns i).op=22 by omega) with e|e|e|e
 .have s:D9 (ae ns i)=O:=by unfold D9;rw[j,e];rfl
  by_cases b:D9 (ae ns a)=O
  .refine g 62 (⟨#[45]⟩++⟨#[32]⟩) pL (by unfold unS;rw[e,h,ab b];rfl) (by decide) (by decide) (λ_=>s) (lit [62,0]) rfl (by decide) (by decide) (by decide) (by rw[e];decide)
  .refine g 62 ⟨#[45]⟩ (wD (dK 62) 62) (by unfold unS;rw[e,h,aa b];rfl) (by decide) (by decide) (λ_=>s) (lit [62]) ?_ (by decide) (by decide) (by decide) (by rw[e];decide);have c:bI (aq (dK 62) 0)=Ax/\cm (aq (dK 62) 0)=Ax/\aq (dK 62) 0≠34:=by decide+kernel
   have H:aq (kI ns E a 11) 0≠45:=λal=>b (ak al);unfold wD nxS;rw[aa (by rw[c.1];simp),aa (by rw[c.2.1];simp[c.2.2])];simp[H]
 .refine g 69 ⟨#[126]⟩ (wD (dK 69) 69) (by unfold unS;rw[e];rfl) (by decide) (by decide) (λb=>absurd b (by decide)) (lit [69]) ?_ (by decide) (by decide) (by decide) (by rw[e];decide);have c:bI (aq (dK 69) 0)=Ax/\cm (aq (dK 69) 0)=Ax/\aq (dK 69) 0≠34/\aq (dK 69) 0≠45:=by decide+kernel
  unfold wD nxS;rw[aa (by rw[c.1];simp),aa (by rw[c.2.1];simp[c.2.2.1])];simp[c.2.2.2,af]
 .exact g 25 ⟨#[110,111,116,32]⟩ pL (by unfold unS;rw[e];rfl) (by decide) (by decide) (λb=>absurd b (by decide)) (lit [25,0]) rfl (by decide) (by decide) (by decide) (by rw[e];decide)
 .exact g 50 ⟨#[35]⟩ pL (by unfold unS;rw[e];rfl) (by decide) (by decide) (λb=>absurd b (by decide)) (lit1) rfl (by decide) (by decide) (by decide) (by rw[e];decide)
def ao2(h:JzE ns E S i tab)(d:Wzd ns)(u:i<ns.length)(b1:gE (ae ns i).k=O):Fq ns i (prE ns E S (ae ns i) tab):=by
 have y:=(kJ (d.nb i u)).1;have b1:=aB b1;have ad:=λa8 bo=>jv (d.nb i u) u a8 bo;have v:=uf d u;have b:=v;rw[zB y]at b;have m:=d.at_ i u;have ct:=xe (ae ns i);have bf:∀(br:(ae ns i).k=28\/(ae ns i).k=29\/(ae ns i).k=31\/(ae ns i).k=32),∃a p:Nat,dD (ae ns i) 0=(a:Int)/\dD (ae ns i) 1=(p:Int)/\(ae ns i).ks=[(a:Int),(p:Int)]/\Fq ns a (E a)/\Fq ns p (E p):=λbr=>by
  have⟨av,a6,_⟩:=pm y;have⟨a,f⟩:=ad 0 (by omega);have⟨p,a7⟩:=ad 1 (by omega);have G:=jy 2 0 a6 0 (by omega) (by omega);have b5:=jy 2 0 a6 1 (by omega) (by omega);rw[f.id]at G;rw[a7.id]at b5;exact⟨a,p,f.id,a7.id,by rw[tF av,f.id,a7.id],h.e a f.lt f.len G,h.e p a7.lt a7.len b5⟩
 have bA:∀(br:(ae ns i).k=30\/(ae ns i).k=33\/(ae ns i).k=37),∃a:Nat,dD (ae ns i) 0=(a:Int)/\(ae ns i).ks=[(a:Int)]/\Fq ns a (E a):=λbr=>by
  have⟨av,G,_⟩:=qv y;have⟨a,f⟩:=ad 0 (by omega);rw[f.id]at G;exact⟨a,f.id,by rw[mo av,f.id],h.e a f.lt f.len G⟩
 unfold prE;by_cases an:(ae ns i).k=28
 .obtain⟨a,p,n,K,j,x,B⟩:=bf (by omega);rw[ab an];unfold FK zi;rw[n,K];simp only[an,j,mG]at b⊢;rw[j]at m;simp only[wK]at m;obtain⟨l,e,q,o,z⟩:=aij (t:=10) (sign:=⟨#[32,97,110,100,32]⟩) x B (lit [0,10,0]) (by decide) (by decide) rfl rfl (by decide) (by decide) (by decide) (by decide);exact EL.of_ex (l:=l) (by rw[an];decide) e (by rw[an];show(2:Int)<11;decide) q (by rw[b,an];exact o) v (by omega)
 rw[aa an];by_cases ao:(ae ns i).k=29
 .obtain⟨a,p,n,K,j,x,B⟩:=bf (by omega);rw[ab ao];unfold FK zi;rw[n,K];simp only[ao,j,mG]at b⊢;rw[j]at m;simp only[wK]at m;obtain⟨l,e,q,o,z⟩:=aij (t:=26) (sign:=⟨#[32,111,114,32]⟩) x B (lit [0,26,0]) (by decide) (by decide) rfl rfl (by decide) (by decide) (by decide) (by decide);exact EL.of_ex (l:=l) (by rw[ao];decide) e (by rw[ao];show(1:Int)<11;decide) q (by rw[b,ao];exact o) v (by omega)
 rw[aa ao];by_cases I:(ae ns i).k=31
 .obtain⟨a,p,n,K,j,x,B⟩:=bf (by omega);have⟨_,_,bs⟩:=pm y;have bs:=bs I;rw[ab I];unfold FK zi;rw[n,K];simp only[I,j,mG]at b⊢;obtain⟨c,bt⟩:∃c,(ae ns i).op=c:=⟨_,rfl⟩;rw[bt]at bs b⊢;have ck:((c.toNat:Nat):Int)=c:=by omega
  have⟨b8,b9,ca,cb,cc,cd,ce⟩:=alm ⟨c.toNat,by omega⟩ (by simp only;omega);simp only[ck]at b8 b9 ca cb cc cd ce;have s:ui 31 c=(Af c).2:=rfl;have bl:iA 31 c=(Af c).1:=rfl;have cq:jk pL (⟨#[32]⟩++Dk (60+c)++⟨#[32]⟩) [sgF (60+c)]:=by
   have:=aid [0,60+c,0] ce;have w:(60+c:Int)≠0:=by omega
   simp only[itT,itL,itF,aa w,kF,nE]at this;rw[cd,de];exact this
  rw[j]at m;simp only[wK]at m;obtain⟨l,e,q,o,z⟩:=aij (t:=60+c) (L:=if ui 31 c=iA 31 c then iA 31 c+1 else iA 31 c) (R:=ui 31 c) x B cq (ax ax) (by rw[eC ax,eC (by decide)];decide) (by rw[s,bl,ca]) (by rw[s,b9]) cb (by omega) (by omega) cc;refine EL.of_ex (l:=l) (by rw[I];decide) e (by rw[I,bt,bl];have:=aif c;have:=Il (60+c);omega) q ?_ v (by omega);rw[b,I,bt,bl,<-b8];have B:aeI (60+c)=bN 31 c 0 z0 []:=by unfold aeI;rw[aa (by omega),aa (by omega),show 60+c-60=c by omega]
  rw[B]at o;exact o
 rw[aa I];by_cases bk:(ae ns i).k=30
 .obtain⟨a,n,j,x⟩:=bA (by omega);rw[ab bk];exact asC d u bk n x
 rw[aa bk];by_cases a3:(ae ns i).k=32
 .obtain⟨a,p,n,K,j,x,B⟩:=bf (by omega);have F:=EH y (by omega);rw[n]at F;obtain⟨l,ad,a0,⟨e,z,af⟩,q,o,b6⟩:=aii x F;obtain⟨ba,bd⟩:=B;rw[ab a3,n,K];simp only[a3,j,mG]at b;have H:jk pL (⟨#[91]⟩:ByteArray) [sgF 44]:=lit1;have ak:jk pL (⟨#[93]⟩:ByteArray) [sgF 45]:=lit1;have r:=((q.app H).app bd.rd bd.pos rfl).app ak;refine EL.of_ba (l:=l++(sgF 44::(ba++[sgF 45]))) (by rw[a3];decide) (ax (ax (ax e))) (by rw[eC (ax (ax e)),eC (ax e),eC e];exact z) (by rw[eC (ax (ax e)),eC (ax e),eC e];exact af) ?_ ?_ v (by rw[j]at m;simp only[wK]at m;have:=bd.cs;simp[csE];omega)
  .have:=r.tt (g:=zy);exact this.as
  .rw[b,a3];exact o.index a0 (bd.ex.le (by have:=pq (ae ns p).k (ae ns p).op;omega))
 rw[aa a3];by_cases a4:(ae ns i).k=33
 .obtain⟨a,n,j,x⟩:=bA (by omega);have F:=EH y (by omega);rw[n]at F;have b2:=(Jc y).1 (by omega);have b7:=rE b2;obtain⟨l,ad,a0,⟨e,z,af⟩,q,o,b6⟩:=aii x F;rw[ab a4,n];simp only[a4,j,li]at b;have H:jk (wD (dK 48) 48) (⟨#[46]⟩:ByteArray) [sgF 48]:=lit [48];have r:=q.app (H.app (oC b2) b7.1 (aiq b7.2)) ax B9;refine EL.of_ba (l:=l++[sgF 48,mi (ae ns i).x]) (by rw[a4];decide) (ax e) (by rw[eC e];exact z) (by rw[eC e];exact af) r ?_ v (by rw[j]at m;simp only[wK]at m;have:=x19 (h.b i u) (by omega);simp[csE];omega);rw[b,a4];exact o.field a0
 rw[aa a4];by_cases C:(ae ns i).k=34
 .obtain⟨av,a6⟩:=I6 y C;have⟨a,f⟩:=ad 0 (by omega);have G:=jy _ 0 a6 0 (by omega) (by omega);have F:=EH y (by omega);rw[f.id]at G F;obtain⟨l,ad,a0,⟨e,z,af⟩,q,o,b6⟩:=aii (h.e a f.lt f.len G) F;have j:(ae ns i).ks=(a:Int)::(ae ns i).ks.drop 1:=by
   cases al:(ae ns i).ks with
   |nil=>rw[al]at av;simp at av
   |cons cu r=>have:=f.at_;rw[al]at this;simp at this;rw[this];rfl
  have b3:∀w∈(ae ns i).ks.drop 1,KE ns E w:=λw aK=>by
   obtain⟨bh,rfl,a1,A,a8,bo,al⟩:=tE d u (List.mem_of_mem_drop aK);have a9:=jy _ 0 a6 a8 (by omega) (by omega);rw[al]at a9;exact⟨bh,rfl,h.e bh a1 A a9⟩
  rw[ab C,f.id];rw[j,qw]at b;rw[j,wK]at m;simp only[C]at b;have J:∀a1 A a2:ByteArray,0<(JC ns E a++a1++A++a2).size/\aq (JC ns E a++a1++A++a2) 0=aq (JC ns E a) 0:=λa1 A a2=>⟨ax (ax (ax e)),by rw[eC (ax (ax e)),eC (ax e),eC e]⟩;have cf:=q.app Dc;cases s:(ae ns i).ks.drop 1 with
  |nil=>
   rw[s]at b;have bj:eK (([]:List Int).map E)=Z:=rfl;rw[bj];obtain⟨bn,a5⟩:=J ⟨#[40]⟩ Z ⟨#[41]⟩;refine EL.of_ba (l:=l++[sgF 40,sgF 41]) (by rw[C];decide) bn (by rw[a5];exact z) (by rw[a5];exact af) ?_ ?_ v (by rw[s]at m;simp only[wK]at m;simp[csE];omega)
   .rw[nE];have:=(cf.app Jd).tt (g:=zy);exact this.as
   .rw[b,C,qw,Fo.app_nil];exact o.call0 a0
  |cons w r=>
   rw[s]at b b3;have⟨ba,bv,bw,bx,cp⟩:=wo r w b3;obtain⟨bn,a5⟩:=J ⟨#[40]⟩ (eK ((w::r).map E)) ⟨#[41]⟩;refine EL.of_ba (l:=l++(sgF 40::(ba++[sgF 41]))) (by rw[C];decide) bn (by rw[a5];exact z) (by rw[a5];exact af) ?_ ?_ v (by rw[s]at m;simp[csE];omega)
   .have:=((cf.app bw bv rfl).app Jd).tt (g:=zy);exact this.as
   .rw[b,C];exact o.call a0 bx
 rw[aa C];by_cases ap:(ae ns i).k=35
 .rw[ab ap];unfold ag6;have cn:=Eu y ap;simp only[ap]at b;have aK:∀w∈(ae ns i).ks,∃k:Nat,w=(k:Int)/\k<=i/\k<ns.length/\40<=(ae ns k).k/\(ae ns k).k<=42:=λw aK=>by
   obtain⟨bh,rfl,a1,A,a8,bo,al⟩:=tE d u aK;have a9:=adk _ 0 cn a8 (by omega) (by omega);rw[al]at a9;exact⟨bh,rfl,by omega,A,a9⟩
  have H:jk pL (⟨#[123]⟩:ByteArray) [sgF 42]:=lit1;have ak:jk pL (⟨#[125]⟩:ByteArray) [sgF 43]:=lit1;have J:∀A a2:ByteArray,aq ((⟨#[123]⟩:ByteArray)++A++a2) 0=123:=λA a2=>by rw[eC ax,eC (by decide)];decide
  cases s:(ae ns i).ks with
  |nil=>
   rw[s]at b;have bj:eK (([]:List Int).map λk=>wC ns E (ae ns k))=Z:=rfl;rw[bj];refine EL.of_un (l:=[sgF 42,sgF 43]) (by rw[ap];decide) (ax ax) (by rw[J];decide) (λg=>by rw[J]at g;cases g) ?_ ?_ v (by rw[s]at m;simp only[wK]at m;simp[csE];omega)
   .rw[nE];exact(H.app ak).tt
   .rw[b];exact TBc.nil.un
  |cons w r=>
   rw[s]at b aK;have⟨ba,bv,bw,bx,cp⟩:=h.tbl d r w aK;refine EL.of_un (l:=sgF 42::(ba++[sgF 43])) (by rw[ap];decide) (ax ax) (by rw[J];decide) (λg=>by rw[J]at g;cases g) ?_ ?_ v (by rw[s]at m;simp[csE];omega)
   .have:=((H.app bw bv rfl).app ak).tt (g:=nD);exact this.as
   .rw[b];exact bx.un
 rw[aa ap];by_cases bb:(ae ns i).k=36
 .rw[ab bb];obtain⟨l,⟨e,z⟩,q,o,af⟩:=h.bod d (ag _) u bb;have H:jk zy (⟨#[102,110]⟩:ByteArray) [sgF 18]:=(lit [18]).mono λak cl=>by
   show wD (dK 18) 18 ak=O;unfold wD;rw[ab (by decide+kernel)];exact cl
  exact EL.of_un (l:=sgF 18::l) (by rw[bb];decide) ax (by rw[eC (by decide)];decide) (λg=>by rw[eC (by decide)]at g;exact absurd g (by decide)) (H.app q e (by rw[z];decide)).tt o.un v (by simp[csE];omega)
 rw[aa bb];by_cases ar:(ae ns i).k=37
 .obtain⟨a,n,j,l,f⟩:=bA (by omega);have b0:=alj y ar;rw[n]at b0;rw[ab ar,n];simp only[ar,j,li]at b;have⟨cr,bE⟩:=f.sh;have bD:=Dd (E a);refine EL.of_ba (l:=sgF 40::(l++[sgF 41])) (by rw[ar];decide) bD.1 (by rw[bD.2];decide) (by rw[bD.2];decide) (aie f.rd f.pos).tt ?_ v (by rw[j]at m;simp only[wK]at m;have:=f.cs;simp[csE];omega);have b4:=f.ex.le (r:=0) (by have:=pq (ae ns a).k (ae ns a).op;omega);rw[bE]at b4;rw[b,ar,bE];exact b4.held b0
 rw[aa ar];exact alp d u (h.b i u) (by omega)
end
def LF:jk pL (⟨#[32,61,32]⟩:ByteArray) [sgF 47]:=lit [0,47,0]
section
variable {ns : List Nd} {E : Int → ByteArray} {S : Int → Nat → ByteArray} {i tab q : Nat}
def adx:∀(r:List Int),(∀a∈r,∃k:Nat,a=(k:Int)/\Fq ns k (E k)/\ud (ae ns k).k=O)->∃l,jk zy (mBs (r.map E)) l/\(r≠[]->0<(mBs (r.map E)).size/\aq (mBs (r.map E)) 0=44)/\TMc l (qw (Sh ns) r)/\(r=[]->l=[])/\(cst l:Int)<=wK ns r
 |[],_=>⟨[],abz,λh=>absurd rfl h,TMc.nil,λ_=>rfl,Int.le_refl _⟩
 |z::r,h=>by
  obtain⟨a,rfl,⟨l,b⟩,ht⟩:=h z aI;obtain⟨n,o,p,q,s,u⟩:=adx r λa m=>h a (cG _ m);have ht:=aB ht;have i:qo (ae ns a).k=O:=by rcases ht with e|e|e<;>rw[e]<;>decide
  have j:kdK (ae ns a).k<2:=by rcases ht with e|e|e<;>rw[e]<;>decide
  have⟨c,d⟩:=b.ba i;refine⟨sgF 46::(l++n),?_,λ_=>?_,TMc.cons d j q,λg=>(by cases g),by have:=b.cs;simp only[cst,ci,wt,sgF,mi,nlW,Int.reduceLT,reduceIte];rw[wK];omega⟩
  .rw[dw,mBs];cases r with
   |nil=>
    have e:mBs (([]:List Int).map E)=Z:=rfl;have f:=s rfl;rw[e,nE,f,dk];exact my.app c b.pos rfl
   |cons v r=>
    have⟨t,p2⟩:=p (by simp);exact my.app (c.app o t (by rw[p2];decide)) (ax b.pos) rfl
  .rw[dw,mBs];exact⟨ax,by rw[eC (by decide)];rfl⟩
def BCl(ns:List Nd)(z:Nat)(x:ByteArray):Prop:=∃l,0<x.size/\jk nD x l/\BRc l (Sh ns z)/\(cst l:Int)+25<=wN ns z
def asD(h:JzE ns E S i tab)(d:Wzd ns)(m:i<ns.length)(J:(ae ns i).k=7)
  (af:∀z:Nat,z<i->z<ns.length->(ae ns z).k=7->∃f,BCl ns z f/\∀w,Br z w=w++f):∃f,BCl ns i f/\∀w,Ea ns E S Br (ae ns i) w tab=w++f:=by
 have K:=(kJ (d.nb i m)).1;have u:=λan ak=>jv (d.nb i m) m an ak;have⟨av,aK,G,H,ad⟩:=ahK K J;have⟨e,b⟩:=u 0 (by omega);have⟨o,c⟩:=u 1 (by omega);rw[b.id]at G;rw[c.id]at H;have⟨v,j⟩:=h.e e b.lt b.len G;have⟨x,ao,ap,y,a2⟩:=h.blk d (fG c.lt) c.len H;have a0:=j.cs;have q:=d.at_ i m;have a1:=xe (ae ns i);have t:=j.ex.le (r:=0) (by have:=pq (ae ns e).k (ae ns e).op;omega);have n:=uf d m;rw[zB K]at n;simp only[J]at n;have p:=(j.rd.app zA).app ap ao rfl;rw[dk]at p;unfold Ea;rw[b.id,c.id];rcases bg (ae ns i).ks.length 3 with g|g
 .refine⟨E e++⟨#[32]⟩++Bo S (ae ns o).ks tab,⟨v++x,ax (ax j.pos),p.tt,?_,by rw[tF (by omega),b.id,c.id]at q;simp only[wK]at q;simp only[ci];omega⟩,λw=>?_⟩
  .rw[n,tF (by omega),mG,b.id,c.id];exact nH.br0 t y
  .rw[ab g,nE];simp only[de]
 .obtain⟨l,a⟩:=u 2 (by omega);rw[a.id]at ad;rw[EF (by omega),b.id,c.id,a.id]at q;simp only[wK]at q;have I:qw (Sh ns) (ae ns i).ks=((Sh ns e).app (Sh ns o)).app (Sh ns l):=by rw[EF (by omega),qw,mG,b.id,c.id,a.id,Fo.app_app]
  by_cases s:(ae ns l).k=7
  .obtain⟨f,⟨B,C,F,p2,ar⟩,al⟩:=af l a.lt a.len s;have A:jk pL (⟨#[32,101,108,105,102,32]⟩:ByteArray) [sgF 15]:=lit [0,15,0];refine⟨(E e++⟨#[32]⟩++Bo S (ae ns o).ks tab)++(⟨#[32,101,108,105,102,32]⟩++f),⟨v++(x++(sgF 15::B)),ax (ax (ax j.pos)),?_,?_,by simp[csE];omega⟩,λw=>?_⟩
   .have:=p.app (A.app F C rfl) ax rfl;exact this.as
   .rw[n,I];exact nH.br2 t y p2
   .rw[aa (by omega),a.id,ab s,al];simp only[de]
  .have L:(ae ns l).k=1:=by omega
   have⟨B,C,F,p2,ar⟩:=h.blk d (fG a.lt) a.len L;have A:jk pL (⟨#[32,101,108,115,101,32]⟩:ByteArray) [sgF 16]:=lit [0,16,0];refine⟨(E e++⟨#[32]⟩++Bo S (ae ns o).ks tab)++(⟨#[32,101,108,115,101,32]⟩++Bo S (ae ns l).ks tab),⟨v++(x++(sgF 16::B)),ax (ax (ax j.pos)),?_,?_,by simp[csE];omega⟩,λw=>?_⟩
   .have:=p.app (A.app F C rfl) ax rfl;have:=this.tt (g:=nD);exact this.as
   .rw[n,I];exact nH.br1 t y p2
   .rw[aa (by omega),a.id,aa s];simp only[de]
def ao3(h:JzE ns E S i tab)(d:Wzd ns)(a0:i<ns.length)(a2:iK (ae ns i).k=O)
  (cz:(ae ns i).k=7->∃w,BCl ns i w/\Br (-1) ⟨#[105,102,32]⟩=⟨#[105,102,32]⟩++w):SCl ns i (prS ns E S Br (ae ns i) tab):=by
 have u:=(kJ (d.nb i a0)).1;have a2:=aB a2;have y:=λH a1=>jv (d.nb i a0) a0 H a1;have f:=uf d a0;rw[zB u]at f;have m:=d.at_ i a0;have d0:=xe (ae ns i);have cl:=h.b i a0;have ar:∀{n:ByteArray}{r:List ByteArray},(ae ns i).nm=n::r->n.size<=3/\cst (KC (n::r))<=57:=λ{n r} o=>by
  have x:=cl.nm;have bb:∀cc∈n::r,cc.size<=3:=λcc u=>(cl.s cc (by rw[o];exact u)).sz;have:=amG r n bb;rw[o,bc]at x;exact⟨bb n aI,by omega⟩
 have a6:∀j:Nat,Kid ns i (ae ns i) 0 j->gE (ae ns j).k=O->∃b,EL ns j (E j) b/\nH b (Sh ns j) 0:=λj a bD=>by
  have⟨b,c⟩:=h.e j a.lt a.len bD;exact⟨b,c,c.ex.le (by have:=pq (ae ns j).k (ae ns j).op;omega)⟩
 have cr:∀{bv H:Nat},lj ns (ae ns i) bv H=O->∀v,H<=v->v<H+bv->v<(ae ns i).ks.length->KE ns E (dD (ae ns i) v):=λ{bv H} C v df dg dn=>by
  have⟨w,G⟩:=y v dn;have:=jy bv H C v df dg;rw[G.id]at this⊢;exact⟨w,rfl,h.e w G.lt G.len this⟩
 have cp:lj ns (ae ns i) (ae ns i).ks.length 0=O->∀ad∈(ae ns i).ks,KE ns E ad:=λC ad bb=>by
  obtain⟨H,a1,rfl⟩:=rq bb;exact cr C H (by omega) (by omega) a1
 unfold prS;by_cases bf:(ae ns i).k=1
 .rw[ab bf];obtain⟨b,K,L,t,bd⟩:=h.blk d (ag _) a0 bf;exact⟨b,K,L.tt,t.st,by omega⟩
 rw[aa bf];by_cases ak:(ae ns i).k=2
 .rw[ab ak];have⟨n,r,o,J,_⟩:=EG u (by omega);have⟨ao,ap⟩:=adv r n J;have s:jk pL (⟨#[108,101,116,32]⟩:ByteArray) [sgF 22]:=lit [22,0];simp only[ak,o]at f⊢;have C:=cp (abu u ak).1;cases er:(ae ns i).ks with
  |nil=>
   rw[er]at f;rw[ab rfl,nE];refine⟨sgF 22::KC (n::r),ax,(s.app ao ap rfl).mono λaK=>Db,?_,by have:=(ar o).2;rw[er]at m;simp only[wK]at m;simp[csE];omega⟩;rw[f];exact akd
  |cons ad v=>
   rw[er]at f C;rw[aa (by simp)];have⟨b,K,L,t,bd⟩:=wo v ad C;refine⟨sgF 22::(KC (n::r)++(sgF 47::b)),ax ax,?_,?_,by have:=(ar o).2;rw[er]at m;simp[csE];omega⟩
   .have:=(s.app ao ap rfl).app (LF.app L K rfl) ax B9;exact this.as
   .rw[f];exact t.let_
 rw[aa ak];by_cases a8:(ae ns i).k=3
 .rw[ab a8];have⟨p,l,_⟩:=Ew u a8;have⟨n,r,o,J,a3,_⟩:=EG u (by omega);obtain rfl:=a3 (by omega);have C:=J n aI;have⟨j,a⟩:=y 0 (by omega);rw[a.id]at l⊢;have⟨b,c,t⟩:=a6 j a l;have ca:nm0 (ae ns i)=n:=by unfold nm0;rw[o];rfl
  simp only[a8,o,mo p,li,a.id]at f;rw[ca];have s:jk pL (⟨#[99,111,110,115,116,32]⟩:ByteArray) [sgF 13]:=lit [13,0];refine⟨sgF 13::mi n::sgF 47::b,ax (ax ax),?_,?_,by have:=(ar o).1;have:=c.cs;rw[mo p,a.id]at m;simp only[wK]at m;simp[csE];omega⟩
  .exact((s.app (oC C) (rE C).1 rfl).app LF).app c.rd c.pos rfl
  .rw[f];exact t.const
 rw[aa a8];by_cases a9:(ae ns i).k=4
 .rw[ab a9];have⟨p,l,_⟩:=abv u a9;have⟨n,r,o,J,a3,_⟩:=EG u (by omega);obtain rfl:=a3 (by omega);have C:=J n aI;have⟨j,a⟩:=y 0 (by omega);rw[a.id]at l⊢;obtain⟨b,⟨K,bd⟩,L,t,dx⟩:=h.bod d (fG a.lt) a.len l;have ca:nm0 (ae ns i)=n:=by unfold nm0;rw[o];rfl
  simp only[a9,o,mo p,li,a.id]at f;rw[ca];have s:jk pL (⟨#[102,110,32]⟩:ByteArray) [sgF 18]:=lit [18,0];refine⟨sgF 18::mi n::b,ax ax,?_,?_,by have:=(ar o).1;rw[mo p,a.id]at m;simp only[wK]at m;simp[csE];omega⟩
  .exact((s.app (oC C) (rE C).1 rfl).app L K (by rw[bd];decide)).tt
  .rw[f];exact t.fn
 rw[aa a9];by_cases bs:(ae ns i).k=5
 .rw[ab bs];have⟨p,l,x,ck⟩:=ahJ u bs;obtain⟨A,J⟩:∃A,(ae ns i).n.toNat=A:=⟨_,rfl⟩;rw[J]at x ck;have o:(ae ns i).n=(A:Int):=by omega
  simp only[bs,o]at f;rw[J];have an:∀w∈(ae ns i).ks.take A,∃k:Nat,w=(k:Int)/\Fq ns k (E k)/\ud (ae ns k).k=O:=λw G=>by
   have⟨H,a1,e⟩:=iq G;rw[gJ]at a1;rw[List.getElem_take]at e;have⟨k,a2⟩:=y H (by omega);have:=arh _ 0 x H (by omega) (by omega);have ak:w=(k:Int):=by rw[<-e,zu (by omega),a2.id]
   rw[a2.id]at this;exact⟨k,ak,h.e k a2.lt a2.len (GL this),this⟩
  have cF:∀ad∈(ae ns i).ks.drop A,KE ns E ad:=λad bb=>by
   have⟨H,a1,e⟩:=iq bb;rw[ir]at a1;rw[List.getElem_drop]at e;rw[<-e,zu (by omega)];exact cr ck (A+H) (by omega) (by omega) (by omega)
  have B:qw (Sh ns) (ae ns i).ks=(qw (Sh ns) ((ae ns i).ks.take A)).app (qw (Sh ns) ((ae ns i).ks.drop A)):=by rw[<-Jb,vA]
  have cu:((ae ns i).ks.take A).length=A:=by rw[gJ];omega
  have c4:((ae ns i).ks.drop A).length=(ae ns i).ks.length-A:=ir;have cx:wK ns (ae ns i).ks=wK ns ((ae ns i).ks.take A)+wK ns ((ae ns i).ks.drop A):=by rw[<-ah5,vA]
  rw[B]at f;rw[cx]at m;generalize (ae ns i).ks.take A=af at *;generalize (ae ns i).ks.drop A=b3 at *;cases af with
  |nil=>simp at cu;omega
  |cons ad af=>
  cases b3 with
  |nil=>simp at c4;omega
  |cons w b3=>
   obtain⟨k,rfl,⟨b,c⟩,bw⟩:=an ad aI;obtain⟨F,a4,a5,bE,c6,d1⟩:=adx af λw G=>an w (cG _ G);have⟨bl,bn,a7,p2,cv⟩:=wo b3 w cF;have bw:=aB bw;have q:qo (ae ns k).k=O:=by rcases bw with e|e|e<;>rw[e]<;>decide
   have cI:kdK (ae ns k).k<2:=by rcases bw with e|e|e<;>rw[e]<;>decide
   have⟨b4,av⟩:=c.ba q;have c0:(((Sh ns k).app (qw (Sh ns) af)).len:Int)=A:=by
    have:∀(b:List Int),(∀w∈b,∃k:Nat,w=(k:Int)/\Fq ns k (E k)/\ud (ae ns k).k=O)->(qw (Sh ns) b).len=b.length:=by
     intro b
     induction b with
     |nil=>intro _;rfl
     |cons j b c3=>
      intro c;obtain⟨k,rfl,⟨_,c9⟩,_⟩:=c j aI;have⟨ds,cB⟩:=c9.sh;rw[qw,Fo.len_app,c3 λw G=>c w (cG _ G),cB,bc];show 1+b.length=_;omega
    have:=this ((k:Int)::af) an;rw[qw]at this;rw[this,cu]
   have c2:jk nD (eK (((k:Int)::af).map E)) (b++F):=by
    rw[dw,vh];cases af with
    |nil=>
     have e:mBs (([]:List Int).map E)=Z:=rfl;have cy:=c6 rfl;rw[e,nE,cy,dk];exact c.rd
    |cons d4 r=>
     have⟨a7,p2⟩:=a5 (by simp);exact(b4.app a4 a7 (by rw[p2];decide)).mono λaK=>Db
   have c1:0<(eK (((k:Int)::af).map E)).size:=by rw[dw,vh];exact ax c.pos
   refine⟨b++(F++(sgF 47::bl)),ax (ax c1),?_,?_,by have:=c.cs;rw[wK]at m;simp[csE];omega⟩
   .have:=(c2.app LF).app a7 bn rfl;exact this.as
   .rw[f,qw,<-c0];exact av.set cI bE p2
 rw[aa bs];by_cases b7:(ae ns i).k=6
 .rw[ab b7];have⟨p,l⟩:=G5 u (by omega);have⟨j,a⟩:=y 0 (by omega);rw[a.id]at l⊢;have⟨b,c,_⟩:=a6 j a (by rw[l];decide);have⟨b4,av⟩:=c.ba (by rw[l];decide);simp only[b7,mo p,li,a.id]at f;rw[l]at av;exact⟨b,c.pos,c.rd,by rw[f];exact av.do_,by have:=c.cs;rw[mo p,a.id]at m;simp only[wK]at m;omega⟩
 rw[aa b7];by_cases b8:(ae ns i).k=7
 .rw[ab b8];obtain⟨w,⟨b,K,L,t,bd⟩,G⟩:=cz b8;rw[G];have s:jk pL (⟨#[105,102,32]⟩:ByteArray) [sgF 20]:=lit [20,0];exact⟨sgF 20::b,ax,s.app L K rfl,t.st,by simp[csE];omega⟩
 rw[aa b8];by_cases bt:(ae ns i).k=8
 .rw[ab bt];have⟨p,l,x⟩:=Ey u bt;have⟨j,a⟩:=y 0 (by omega);have⟨z,q⟩:=y 1 (by omega);rw[a.id]at l⊢;rw[q.id]at x⊢;have⟨b,c,t⟩:=a6 j a l;have⟨F,bk,a4,a5,bE⟩:=h.blk d (fG q.lt) q.len x;simp only[bt,tF p,mG,a.id,q.id]at f;have s:jk pL (⟨#[119,104,105,108,101,32]⟩:ByteArray) [sgF 31]:=lit [31,0];refine⟨sgF 31::(b++F),ax (ax ax),?_,by rw[f];exact t.while_ a5,by have:=c.cs;rw[tF p,a.id,q.id]at m;simp only[wK]at m;simp[csE];omega⟩;have:=(((s.app c.rd c.pos rfl).app zA).app a4 bk rfl).tt (g:=nD);exact this.as
 rw[aa bt];by_cases b9:(ae ns i).k=9\/(ae ns i).k=10
 .rw[ab b9];have⟨n,r,o,J,a3,_⟩:=EG u (by omega);have⟨ao,ap⟩:=adv r n J;have s:jk pL (⟨#[102,111,114,32]⟩:ByteArray) [sgF 19]:=lit [19,0];rcases b9 with e|e
  .obtain⟨p,l,x,_⟩:=abw u e;obtain rfl:=a3 (by omega);have⟨j,a⟩:=y 0 (by omega);have⟨z,q⟩:=y 1 (by omega);have bD:=jy _ 0 l 0 (by omega) (by omega);have cq:=jy _ 0 l 1 (by omega) (by omega);rw[a.id]at bD;rw[q.id]at cq;have⟨b,c,t⟩:=a6 j a bD;have⟨F,al⟩:=h.e z q.lt q.len cq;have bx:=al.ex.le (r:=0) (by have:=pq (ae ns z).k (ae ns z).op;omega);simp only[e,o,kF]at f⊢;rcases p with g|g
   .obtain⟨aK,I⟩:=y 2 (by omega);rw[g,I.id]at x;have⟨bl,bn,a7,p2,cv⟩:=h.blk d (fG I.lt) I.len x;have B:=EF g;rw[a.id,q.id,I.id]at B;rw[B,qw,mG,<-Fo.app_app]at f;have bj:(ae ns i).ks.take ((ae ns i).ks.length-1)=[(j:Int),(z:Int)]:=by rw[B];rfl
    rw[bj,g,I.id];obtain⟨d2,dq,d3,_⟩:=wo (ns:=ns) (E:=E) [(z:Int)] j (λw G=>by
     simp at G;rcases G with rfl|rfl
     .exact⟨j,rfl,b,c⟩
     .exact⟨z,rfl,F,al⟩)
    have cb:jk nD (eK ([(j:Int),(z:Int)].map E)) (b++(sgF 46::F)):=by
     rw[dw,dw,List.map_nil,qa,ru];exact c.rd.app (my.app al.rd al.pos rfl) ax B9
    refine⟨sgF 19::mi n::sgF 47::((b++(sgF 46::F))++bl),ax (ax (ax (ax ax))),?_,by rw[f];exact nH.for_ t bx.es p2 (akf bx),by have:=(ar o).1;have:=c.cs;have:=al.cs;rw[B]at m;simp only[wK]at m;simp[csE];omega⟩;have:=(((((s.app ao ap rfl).app LF).app cb dq rfl).app zA).app a7 bn rfl).tt (g:=nD);simpa only[bC,dJ,dI,KC] using this
   .obtain⟨v,an⟩:=y 2 (by omega);have⟨aK,I⟩:=y 3 (by omega);have ct:=jy _ 0 l 2 (by omega) (by omega);rw[an.id]at ct;rw[g,I.id]at x;have⟨cd,bA⟩:=h.e v an.lt an.len ct;have cn:=bA.ex.le (r:=0) (by have:=pq (ae ns v).k (ae ns v).op;omega);have⟨bl,bn,a7,p2,cv⟩:=h.blk d (fG I.lt) I.len x;have B:=alh g;rw[a.id,q.id,an.id,I.id]at B;rw[B,qw,qw,mG,<-Fo.app_app (Sh ns z),<-Fo.app_app]at f;have bj:(ae ns i).ks.take ((ae ns i).ks.length-1)=[(j:Int),(z:Int),(v:Int)]:=by rw[B];rfl
    rw[bj,g,I.id];have dc:jk nD (eK ([(z:Int),(v:Int)].map E)) (F++(sgF 46::cd)):=by
     rw[dw,dw,List.map_nil,qa,ru];exact al.rd.app (my.app bA.rd bA.pos rfl) ax B9
    have dd:0<(eK ([(z:Int),(v:Int)].map E)).size:=by rw[dw,dw,List.map_nil,qa];exact ax al.pos
    have cb:jk nD (eK ([(j:Int),(z:Int),(v:Int)].map E)) (b++(sgF 46::(F++(sgF 46::cd)))):=by
     rw[dw,dw,qa,<-dw];exact c.rd.app (my.app dc dd rfl) ax B9
    have da:0<(eK ([(j:Int),(z:Int),(v:Int)].map E)).size:=by rw[dw,dw,qa];exact ax c.pos
    refine⟨sgF 19::mi n::sgF 47::((b++(sgF 46::(F++(sgF 46::cd))))++bl),ax (ax (ax (ax ax))),?_,by rw[f];exact nH.for_ t (ESc.cons bx cn.es) p2 (aeJ bx cn),by have:=(ar o).1;have:=c.cs;have:=al.cs;have:=bA.cs;rw[B]at m;simp only[wK]at m;simp[csE];omega⟩;have:=(((((s.app ao ap rfl).app LF).app cb da rfl).app zA).app a7 bn rfl).tt (g:=nD);simpa only[bC,dJ,dI,KC] using this
  .obtain⟨p,l,x,_⟩:=I7 u e;have⟨j,a⟩:=y 0 (by omega);have⟨z,q⟩:=y 1 (by omega);rw[a.id]at l;rw[q.id]at x;have⟨b,c,t⟩:=a6 j a l;have⟨F,bk,a4,a5,bE⟩:=h.blk d (fG q.lt) q.len x;have B:=tF p;rw[a.id,q.id]at B;simp only[e,o,B,mG]at f;have bj:(ae ns i).ks.take ((ae ns i).ks.length-1)=[(j:Int)]:=by rw[B];rfl
   have cw:dD (ae ns i) ((ae ns i).ks.length-1)=(z:Int):=by rw[p];exact q.id
   rw[bj,cw,aa (by omega),o,dw,List.map_nil,ru];have c8:jk pL (⟨#[32,105,110,32]⟩:ByteArray) [sgF 21]:=lit [0,21,0];refine⟨sgF 19::(KC (n::r)++(sgF 21::(b++F))),ax (ax (ax (ax ax))),?_,by rw[f];exact t.each a5,by have:=(ar o).2;have:=c.cs;rw[B]at m;simp only[wK]at m;simp[csE];omega⟩;have:=(((((s.app ao ap rfl).app c8).app c.rd c.pos rfl).app zA).app a4 bk rfl).tt (g:=nD);exact this.as
 rw[aa b9];have ce:∀(n:ByteArray)(k:Int),n=itT [k]->itC [k]=O->k≠0->(∀aK∈vf,wD (dK k) k aK=O)->jk nD n [sgF k]:=λn k bf ak a8 a9=>by
  have:=lit [k] bf ak;simp only[itF,itL,aa a8]at this;exact this.mono λaK I=>a9 aK (aB I)
 have b0:(ae ns i).k=11\/(ae ns i).k=12->(ae ns i).ks=[]:=λg=>by
  have:=oI u;unfold stB at this;rcases g with e|e<;>simp[e]at this<;>exact this.2
 by_cases b5:(ae ns i).k=11
 .rw[ab b5];simp only[b5,b0 (by omega),qw]at f;exact⟨[sgF 11],by decide,ce _ 11 (by decide+kernel) (by decide+kernel) (by decide) (by decide+kernel),by rw[f];exact acF (.inl ⟨rfl,rfl⟩),by rw[b0 (by omega)]at m;simp only[wK]at m;simp[csE];omega⟩
 rw[aa b5];by_cases b6:(ae ns i).k=12
 .rw[ab b6];simp only[b6,b0 (by omega),qw]at f;exact⟨[sgF 23],by decide,ce _ 23 (by decide+kernel) (by decide+kernel) (by decide) (by decide+kernel),by rw[f];exact acF (.inr ⟨rfl,rfl⟩),by rw[b0 (by omega)]at m;simp only[wK]at m;simp[csE];omega⟩
 rw[aa b6];by_cases bo:(ae ns i).k=13
 .rw[ab bo];simp only[bo]at f;have C:=cp (ahL u bo);have s:=ce (⟨#[114,101,116,117,114,110]⟩:ByteArray) 27 (by decide+kernel) (by decide+kernel) (by decide) (by decide+kernel);cases er:(ae ns i).ks with
  |nil=>
   rw[er]at f;rw[ab rfl,nE];exact⟨[sgF 27],by decide,s,by rw[f];exact ake,by rw[er]at m;simp only[wK]at m;simp[csE];omega⟩
  |cons ad v=>
   rw[er]at f C;rw[aa (by simp)];have⟨b,K,L,t,bd⟩:=wo v ad C;exact⟨sgF 27::b,ax,s.app (zA.app L K rfl) ax B9,by rw[f];exact t.ret,by rw[er]at m;simp[csE];omega⟩
 rw[aa bo];by_cases bh:(ae ns i).k=14
 .rw[ab bh];have⟨p,l,x,_⟩:=abx u bh;have⟨n,r,o,J,_,a3⟩:=EG u (by omega);have⟨ao,ap⟩:=adv r n J;have⟨j,a⟩:=y 0 (by omega);have⟨z,q⟩:=y 1 (by omega);rw[a.id]at l⊢;rw[q.id]at x⊢;have⟨b,K,L,t,bd⟩:=h.blk d (fG a.lt) a.len l;have⟨F,bk,a4,a5,bE⟩:=h.blk d (fG q.lt) q.len x;simp only[bh,o,tF p,mG,a.id,q.id]at f;rw[o];have s:jk pL (⟨#[116,114,121,32]⟩:ByteArray) [sgF 30]:=lit [30,0];have c7:jk pL (⟨#[32,99,97,116,99,104,32]⟩:ByteArray) [sgF 12]:=lit [0,12,0];refine⟨sgF 30::(b++(sgF 12::(KC (n::r)++F))),ax (ax (ax (ax ax))),?_,by rw[f];exact t.try_ a5 (a3 bh),by have:=(ar o).2;rw[tF p,a.id,q.id]at m;simp only[wK]at m;simp[csE];omega⟩;have:=(((((s.app L K rfl).app c7).app ao ap rfl).app zA).app a4 bk rfl).tt (g:=nD);exact this.as
 rw[aa bh];by_cases br:(ae ns i).k=15
 .rw[ab br];have⟨p,l⟩:=Ez u br;have⟨j,a⟩:=y 0 (by omega);rw[a.id]at l⊢;have⟨b,c,t⟩:=a6 j a l;simp only[br,mo p,li,a.id]at f;have s:jk pL (⟨#[116,104,114,111,119,32]⟩:ByteArray) [sgF 28]:=lit [28,0];exact⟨sgF 28::b,ax,s.app c.rd c.pos rfl,by rw[f];exact t.throw,by have:=c.cs;rw[mo p,a.id]at m;simp only[wK]at m;simp[csE];omega⟩
 rw[aa br];have cf:(ae ns i).k=16:=by omega
 rw[ab cf];have⟨p,l⟩:=G5 u (by omega);have⟨j,a⟩:=y 0 (by omega);rw[a.id]at l⊢;have⟨b,c,_⟩:=a6 j a (by rw[l];decide);have⟨b4,av⟩:=c.ba (by rw[l];decide);rw[l]at av;simp only[cf,mo p,li,a.id]at f;have s:jk pL (⟨#[100,101,102,101,114,32]⟩:ByteArray) [sgF 14]:=lit [14,0];exact⟨sgF 14::b,ax,s.app c.rd c.pos rfl,by rw[f];exact av.defer,by have:=c.cs;rw[mo p,a.id]at m;simp only[wK]at m;simp[csE];omega⟩
end
def fdK:List Int->List Int->Option (List Int)
 |st,[]=>Ak st
 |st,k::r=>if(dm st k).2=O then fdK (dm st k).1 r else A3
def ady:∀(a b st:List Int),fdK st (a++b)=(fdK st a).bind λs=>fdK s b
 |[],b,st=>rfl
 |k::a,b,st=>by
  rw[dJ,fdK,fdK];split
  .exact ady a b _
  .rfl
section
variable {tk : Nat → Tk} {n : Nat}
def adz{j:Nat}(ht:(tk i).k=t):∀(f:Nat)(st:List Int)(c:Nat)(lo:List Int)(b:Bool)(l:Nat)(r:List Int)(m:Nat),gB f st t c=Ak (lo,Ak b,l)->D tk n m (st++r) i j->b=O/\∃x,D tk n x (lo++r) (i+1) j
 |0,_,_,_,_,_,_,_,h,_=>by simp[gB]at h
 |f+1,[],_,_,_,_,_,_,h,_=>by simp[gB]at h
 |f+1,s::q,c,lo,b,l,r,m,h,d=>by
  by_cases w:s<100
  .obtain⟨rfl,e,_⟩:=sf h w;have e:b=decide (s=t):=by simpa using e
   cases d with
   |tok o u g a=>exact⟨by rw[e];exact be (by rw[<-u,ht]),_,a⟩
   |exp o=>omega
  .cases d with
   |tok o=>omega
   |exp o u g a=>
    rw[ht]at g a;rcases lJ h (by omega) with⟨p,v⟩|⟨p,_⟩
    .change D tk n _ ((xE s t).1++(q++r)) i j at a
     rw[<-bC]at a;exact adz ht f _ _ lo b l r _ v a
    .rw[p]at g;cases g
def ais:∀(st:List Int)(m i j:Nat),D tk n m st i j->i<j->yG st->1<=(tk i).k->(tk i).k<=78->(dm st (tk i).k).2=O/\∃e,D tk n e (dm st (tk i).k).1 (i+1) j
 |[],m,i,j,d,h,_,_,_=>by cases d;omega
 |s::r,m,i,j,d,h,l,o,p=>by
  have x:yG r:=λB z=>l B (cG _ z);by_cases v:s<100
  .cases d with
   |tok c g w a=>rw[lI v];exact⟨be g.symm,_,a⟩
   |exp c=>omega
  .have y:=l s aI;by_cases b:(xE s (tk i).k).1=[]/\(xE s (tk i).k).2=O
   .rw[qe (by omega) b];cases d with
    |tok c=>omega
    |exp c g w a=>rw[b.1]at a;exact ais r _ i j a h x o p
   .obtain⟨A,q,t,f,_⟩:=Ah (by omega) y o p b;obtain⟨rfl,e,u⟩:=adz rfl 8 [s] 0 A q t r m f d;rw[qg (by omega) b f];exact⟨rfl,e,u⟩
def amH:∀(ks st:List Int)(i m j:Nat),D tk n m st i j->j=i+ks.length->yG st->(∀q k,ks[q]?=Ak k->(tk (i+q)).k=k/\1<=k/\k<=78)->∃r,fdK st ks=Ak r
 |[],st,i,m,j,d,_,_,_=>⟨st,rfl⟩
 |k::ks,st,i,m,j,d,g,f,e=>by
  rw[bc]at g;have⟨b,l,o⟩:=e 0 k rfl;rw[fL]at b;have⟨c,p,a⟩:=ais st m i j d (by omega) f (by omega) (by omega);rw[b]at c a;rw[fdK,ab c];exact amH ks _ (i+1) p j a (by omega) (si f l o) λq s h=>by
   have:=e (q+1) s h;rw[show i+1+q=i+(q+1) by omega];exact this
end
def E0(s:Int):Bool:=s==129||s==130||s==123||s==126
def tmo:List Int->Bool
 |[]=>Ax
 |a::_=>decide (a<100/\a≠5)
def r5:List Int->Bool
 |[]=>Ax
 |s::r=>if s<100 then decide (s≠5) else if E0 s=O then tmo r else !(xE s 5).2
def Adj:List Int->Prop
 |[]=>True
 |t::r=>(t<100->opn t=O->r5 r=O)/\(E0 t=O->tmo r=O)/\Adj r
def asE(h:E0 s=O):xE s 5=([],O)/\100<=s:=by
 unfold E0 at h;simp at h;rcases h with((rfl|rfl)|rfl)|rfl<;>decide
def asG:∀{r:List Int},tmo r=O->(dm r 5).2=Ax
 |[],h=>by cases h
 |a::r,h=>by
  have:=aB h;rw[lI this.1];exact az this.2
def ari:∀{st:List Int},r5 st=O->(dm st 5).2=Ax
 |[],h=>by cases h
 |s::r,h=>by
  rw[r5]at h;by_cases a:s<100
  .rw[ab a]at h;rw[lI a];exact az (aB h)
  .rw[aa a]at h;by_cases b:E0 s=O
   .rw[ab b]at h;have:=asE b;rw[qe this.2 (by rw[this.1];exact⟨rfl,rfl⟩)];exact asG h
   .rw[aa b]at h;have d:(xE s 5).2=Ax:=by simpa using h
    rw[dm,aa a,aa (λc=>by rw[d]at c;cases c.2)];rw[gB,aa a,aa (by rw[d];simp)]
def chA(s:Int):List Int->Bool
 |[]=>O
 |a::L=>(!(decide (a<100)&&opn a)||(match L with|[]=>Ax|b::M=>if b<100 then decide (b≠5) else if E0 b=O then(match M with|[]=>E0 s|c::_=>decide (c<100/\c≠5)) else !(xE b 5).2))&&(!(E0 a)||(match L with|[]=>E0 s|c::_=>decide (c<100/\c≠5)))&&chA s L
def alq:((List.range 34).all λs=>(List.range 78).all λt=>!(xE ((s:Int)+100) ((t:Int)+1)).2||chA ((s:Int)+100) (xE ((s:Int)+100) ((t:Int)+1)).1)=O:=by decide+kernel
def ao4(c:100<=s)(d:s<=133)(e:1<=t)(f:t<=78)(h:(xE s t).2=O):chA s (xE s t).1=O:=by
 have b:=List.all_eq_true.1 alq (s-100).toNat (by rw[ng];omega);have a:=List.all_eq_true.1 b (t-1).toNat (by rw[ng];omega);rw[show(((s-100).toNat:Nat):Int)+100=s by omega,show(((t-1).toNat:Nat):Int)+1=t by omega,h]at a;exact a
def adA{r:List Int}(j:E0 s=O->tmo r=O)(k:Adj r):∀(L:List Int),chA s L=O->Adj (L++r)
 |[],_=>k
 |a::L,h=>by
  unfold chA at h;rw[bB,bB]at h;obtain⟨⟨b,d⟩,n⟩:=h;refine⟨λf l=>?_,λf=>?_,adA j k L n⟩
  .rw[be f,l]at b;simp only[Bool.and_self,Bool.not_true,ym]at b;cases L with
   |nil=>cases b
   |cons c e=>
    simp only at b;show(if c<100 then decide (c≠5) else if E0 c=O then tmo (e++r) else !(xE c 5).2)=O;split
    .rename_i g;rw[ab g]at b;exact b
    .rename_i g;rw[aa g]at b;split
     .rename_i i;rw[ab i]at b;cases e with
      |nil=>exact j b
      |cons m e=>exact b
     .rename_i i;rw[aa i]at b;exact b
  .rw[f]at d;simp only[Bool.not_true,ym]at d;cases L with
   |nil=>exact j d
   |cons m L=>exact d
def LG(g:1<=t)(i:t<=78):∀(f:Nat)(st:List Int)(c:Nat)(lo:List Int)(b:Nat)(r:List Int),gB f st t c=Ak (lo,Ak O,b)->yG st->Adj (st++r)->Adj (lo++r)/\(opn t=O->r5 (lo++r)=O)
 |0,_,_,_,_,_,h,_,_=>by simp[gB]at h
 |f+1,[],_,_,_,_,h,_,_=>by simp[gB]at h
 |f+1,s::q,c,lo,b,r,h,m,v=>by
  have w:yG q:=λa hx=>m a (cG _ hx);obtain⟨o,p,j⟩:=v;by_cases l:s<100
  .obtain⟨rfl,d,_⟩:=sf h l;have d:s=t:=aB (by simpa using d.symm);exact⟨j,λu=>o l (by rw[d];exact u)⟩
  .rcases lJ h (by omega) with⟨k,e⟩|⟨k,_,e,_⟩
   .have n:=m s aI;have:=adA p j (xE s t).1 (ao4 (by omega) n g i k)
    change Adj ((xE s t).1++(q++r)) at this
    rw[<-bC]at this;refine LG g i f _ _ lo b r e (λa hx=>?_) this;rcases List.mem_append.1 hx with hx|hx
    .exact(acx (by omega) n g i).1 a hx
    .exact w a hx
   .simp at e
def E4(e:1<=t)(f:t<=78):∀(st:List Int),yG st->(dm st t).2=O->Adj st->Adj (dm st t).1/\(opn t=O->r5 (dm st t).1=O)
 |[],_,h,_=>by simp[dm]at h
 |s::r,i,h,b=>by
  have n:yG r:=λk d=>i k (cG _ d);by_cases g:s<100
  .rw[lI g]at h⊢;have a:s=t:=aB h;exact⟨b.2.2,λm=>b.1 g (by rw[a];exact m)⟩
  .have j:=i s aI;by_cases c:(xE s t).1=[]/\(xE s t).2=O
   .rw[qe (by omega) c]at h⊢;exact E4 e f r n h b.2.2
   .obtain⟨o,p,l,a,_⟩:=Ah (by omega) j e f c;rw[qg (by omega) c a]at h⊢;simp only at h;subst h;exact LG e f 8 [s] 0 o l r a (λk d=>by rw[List.mem_singleton.1 d];exact j) b
inductive uq (T:ByteArray):Nat->List Wt->List Tk->Nat->Prop where
 |nil {p:Nat}:uq T p [] [] p
 |bl {p q:Nat}{l:List Wt}{ts:List Tk}:ja (aq T p)=true->uq T (p+1) l ts q->uq T p l ts q
 |rem {p q:Nat}{l:List Wt}{ts:List Tk}:aq T p=45->aq T (p+1)=45->uq T (xL T p) l ts q->uq T p l ts q
 |tok {p r q:Nat}{t:Wt}{l:List Wt}{X:Tk}{ts:List Tk}:t.k≠7->t.k≠5->Alo t.w t.k t.n t.x->JE T p t.w->wD t.w t.k (aq T (p+t.w.size))=true->LA T (opn t.k) (p+t.w.size) r->X.k=t.k->X.n=t.n/\X.x=t.x->X.f=(p:Nat)/\X.t=((p+t.w.size:Nat):Int)->uq T r l ts q->uq T p (t::l) (X::ts) q
 |sep {p q:Nat}{l:List Wt}{c:Int}{X:Tk}{ts:List Tk}:aq T p=c->c=10\/c=59->X.k=5->uq T (p+1) l ts q->uq T p (nlW::l) (X::ts) q
def Rz.tks{q:Nat}(h:Rz T p l q):∃us,uq T p l us q:=by
 induction h with
 |nil=>exact⟨_,.nil⟩
 |bl b _ c=>exact c.imp λ_ a=> .bl b a
 |rem b d _ c=>exact c.imp λ_ a=> .rem b d a
 |@tok p o q e l b d f g i j m c=>obtain⟨us,a⟩:=c;exact⟨⟨e.k,(p:Nat),((p+e.w.size:Nat):Int),0,e.n,e.x⟩::us,.tok b d f g i j rfl ⟨rfl,rfl⟩ ⟨rfl,rfl⟩ a⟩
 |sep b d _ c=>obtain⟨us,a⟩:=c;exact⟨⟨5,0,0,0,0,⟨#[]⟩⟩::us,.sep b d rfl a⟩
inductive Smp:List Tk->List Tk->Prop where
 |nil:Smp [] []
 |cons {X Y:Tk}{us ts:List Tk}:(X.k≠5->Y.f=X.f/\Y.t=X.t)->Smp us ts->Smp (X::us) (Y::ts)
def Smp.at_{ts:List Tk}(h:Smp us ts):∀(i:Nat){X a:Tk},us[i]?=Ak X->ts[i]?=Ak a->X.k≠5->a.f=X.f/\a.t=X.t:=by
 induction h with
 |nil=>intro i X a h;cases h
 |cons d _ e=>
  intro i X a b c;cases i with
  |zero=>cases b;cases c;exact d
  |succ i=>exact e i b c
def Bz(t:Wt):Int:=if t.k=7 then 5 else t.k
def ao5{o:Bool}(h:LA T o a r){st:List Int}(x:o=O->(dm st 5).2=Ax):∀(f:Nat)(b:Int)(c:List Tk),T.size<f+a->∃j l,T.size<j+r/\sD T f st (blk T (T.size+1) a) b c=sD T j st (blk T (T.size+1) r) l c:=by
 induction h with
 |nil=>intro f b c k;exact⟨f,b,k,rfl⟩
 |@bl d p e g i=>
  intro f b c k;have n:d<T.size:=aH rfl (by have:=aB e;omega);rw[Ay T d n e];exact i f b c (by omega)
 |@rem d p e g w i=>
  intro f b c k;rw[D8 T d e g];exact i f b c (by have:=rh T d e;omega)
 |@nl d p e g w i=>
  intro f b c k;have n:d<T.size:=aH g;have⟨t,u,m,v⟩:=amF g (.inl rfl);rw[ab rfl]at m;obtain⟨f,rfl⟩:∃s,f=s+1:=⟨f-1,by omega⟩;have q:ya T d=7:=by unfold ya;rw[ab t,m]
  have⟨j,l,y,z⟩:=i f (b+1) c (by omega);refine⟨j,l,y,?_⟩;rw[v,sD,aa (by omega),ab q,aa (by rw[x e];simp),u];exact z
def wk{q:Nat}(h:uq T p l us q):q=T.size->∀(f:Nat)(st:List Int)(a:Int)(e:List Tk)(g:List Int),T.size<f+p->yG st->Adj st->fdK st (l.map Bz)=Ak g->
  ∃ts i,sD T f st (blk T (T.size+1) p) a e=(e++ts++[⟨6,(T.size:Nat),(T.size:Nat),i,0,⟨#[]⟩⟩],g, -1)/\uq T p l ts q/\Smp us ts:=by
 induction h with
 |@nil p=>
  intro o f st a e g H m r b;obtain rfl:=o;obtain⟨f,rfl⟩:∃d,f=d+1:=⟨f-1,by omega⟩;have J:st=g:=by simpa [fdK] using b
  refine⟨[],a,?_,.nil,.nil⟩;rw[ac1 T _ (ag _),sD,ab (ag _),dk,J]
 |@bl p q l us c j y=>
  intro o f st a e g H m r b;have a0:p<T.size:=aH rfl (by have:=aB c;omega);rw[Ay T p a0 c];have⟨ts,i,I,A⟩:=y o f st a e g (by omega) m r b;exact⟨ts,i,I,.bl c A.1,A.2⟩
 |@rem p q l us c j B y=>
  intro o f st a e g H m r b;rw[D8 T p c j];obtain⟨ts,i,I,A⟩:=y o f st a e g (by have:=rh T p c;omega) m r b;exact⟨ts,i,I,.rem c j A.1,A.2⟩
 |@tok p bf q t l an us c j B L ar av _ _ aK ba y=>
  intro o f st a e g H m r b;have⟨u,G,v,K,a3,a4⟩:=arf B L c j ar;have bb:=B.pos;have bd:=L.1;obtain⟨f,rfl⟩:∃d,f=d+1:=⟨f-1,by omega⟩;have ao:ya T p=t.k:=by unfold ya;rw[ab u,v]
  have C:=ade T p u;rw[v]at C;rw[dw,fdK,show Bz t=t.k by unfold Bz;rw[aa c]]at b;have s:(dm st t.k).2=O:=by
   by_cases d:(dm st t.k).2=O
   .exact d
   .rw[aa d]at b;cases b
  rw[ab s]at b;have⟨ad,a5⟩:=E4 C.1 C.2 st m s r;obtain⟨a2,E,a7,a8⟩:=ao5 av (st:=(dm st t.k).1) (λd=>ari (a5 d)) f a (e++[⟨t.k,(p:Nat),((p+t.w.size:Nat):Int),a,t.n,t.x⟩]) (by omega);obtain⟨ts,i,af,ak,al⟩:=y o a2 _ E _ g a7 (si m C.1 C.2) ad b;refine⟨⟨t.k,(p:Nat),((p+t.w.size:Nat):Int),a,t.n,t.x⟩::ts,i,?_,?_,.cons (λ_=>⟨aK.1.symm,aK.2.symm⟩) al⟩
  .rw[a4,sD,aa (by omega),aa (by rw[ao];exact c),ao,show Lh st t.k=dm st t.k by unfold Lh;rw[ab (by omega)],ab s,ab u,G,K,a3,a8,af];simp
  .exact .tok c j B L ar av rfl ⟨rfl,rfl⟩ ⟨rfl,rfl⟩ ak
 |@sep p q l a9 an us c j a6 B y=>
  intro o f st a e g H m r b;have a0:p<T.size:=aH c;have⟨u,G,v,K⟩:=amF c j;obtain⟨f,rfl⟩:∃d,f=d+1:=⟨f-1,by omega⟩;rw[dw,fdK,show Bz nlW=5 from rfl]at b;have s:(dm st 5).2=O:=by
   by_cases d:(dm st 5).2=O
   .exact d
   .rw[aa d]at b;cases b
  rw[ab s]at b;obtain⟨ad,_⟩:=E4 (t:=5) (by decide) (by decide) st m s r;have ap:∀(z:Tk)(E:Int),z.k=5->sD T (f+1) st p a e=sD T f (dm st 5).1 (blk T (T.size+1) (p+1)) E (e++[z])->∃ts i,sD T (f+1) st (blk T (T.size+1) p) a e=(e++ts++[⟨6,(T.size:Nat),(T.size:Nat),i,0,⟨#[]⟩⟩],g, -1)/\uq T p (nlW::l) ts q/\Smp (an::us) ts:=λz E F J=>by
   obtain⟨ts,i,af,ak,al⟩:=y o f _ E (e++[z]) g (by omega) (si m (by decide) (by decide)) ad b;refine⟨z::ts,i,?_,.sep c j F ak,.cons (λd=>absurd a6 d) al⟩;rw[K,J,af];simp
  rcases j with rfl|rfl
  .rw[ab rfl]at v;have a1:ya T p=7:=by unfold ya;rw[ab u,v]
   exact ap ⟨5,(p:Nat),((db T p).a:Nat),a,(db T p).n,(db T p).x⟩ (a+1) rfl (by rw[sD,aa (by omega),ab a1,ab s,G])
  .rw[aa (by decide)]at v;have F:ya T p=5:=by unfold ya;rw[ab u,v]
   exact ap ⟨5,(p:Nat),((db T p).a:Nat),a,(db T p).n,(db T p).x⟩ a rfl (by rw[sD,aa (by omega),aa (by rw[F];decide),F,show Lh st 5=dm st 5 by unfold Lh;rw[ab (by decide)],ab s,ab u,G])
def alr(h:uq T 0 l us T.size){c:List Int}(e:fdK [100,6] (l.map Bz)=Ak c):∃ts b,mj T=(ts++[⟨6,(T.size:Nat),(T.size:Nat),b,0,⟨#[]⟩⟩],c, -1)/\uq T 0 l ts T.size/\Smp us ts:=by
 obtain⟨ts,b,d,a⟩:=wk h rfl (T.size+1) [100,6] 1 [] c (by omega) (λg f=>by simp at f;omega) ⟨λa=>absurd a (by decide),by decide,λ_ a=>absurd a (by decide),by decide,trivial⟩ e;rw[dI]at d;exact⟨ts,b,d,a⟩
def Nd.bk(N:Nd):Nd:={N.bare with ks:=N.ks}
def wu:∀(a:Fo),a.bare.sz=a.sz
 | .nil=>rfl
 | .cons N k r=>by rw[Fo.bare,Fo.sz,Fo.sz,wu k,wu r]
def G6:∀(a:Fo)(b:Nat),a.bare.tops b=a.tops b
 | .nil,b=>rfl
 | .cons N k r,b=>by rw[Fo.bare,Fo.tops,Fo.tops,wu k,G6 r]
def AL:∀(a:Fo)(b:Nat),a.bare.flat b=(a.flat b).map Nd.bk
 | .nil,b=>rfl
 | .cons N k r,b=>by
  rw[Fo.bare,Fo.flat,Fo.flat,wu,G6,AL k,AL r,eJ,dw];rfl
def sl(ns:List Nd)(a b:Nat):List Nd:=(ns.take b).drop a
def ait(ns:List Nd){b c:Nat}(f:a<=b)(e:b<=c)(g:c<=ns.length):sl ns a b++sl ns b c=sl ns a c:=by
 unfold sl;have d:ns.take c=ns.take b++(ns.take c).drop b:=by
  have:=vA b (ns.take c);rw[List.take_take,vH e]at this;exact this.symm
 conv=>rhs;rw[d]
 rw[List.drop_append_of_le_length (by rw[gJ];omega)]
def ao6{ns:List Nd}(h:i<ns.length):sl ns i (i+1)=[ae ns i]:=by
 unfold sl ae;rw[iC,aw h,List.drop_append_of_le_length (by rw[gJ];omega),lE (by rw[gJ];omega),iF,List.getD,aw h];rfl
structure Szk (ns:List Nd):Prop where
 at_:∀i:Nat,i<ns.length->∃a:Nat,a<=i/\qD (iL ns) (ae ns i).ks.reverse i=Ak (a:Int)/\(iL ns).getD i 0=(i:Int)-a+1
 root:(iL ns).getD (ns.length-1) 0=(ns.length:Int)
def ao7{ns:List Nd}(h:(eG ns).1=0):Szk ns:=by
 have j:=su h;have u:F6 (iL ns):=AH ns λc b g f=>by
  have⟨a,i,r⟩:=iq b;exact(j.kid a c (by rw[aw i,r]) g f).1
 unfold eG at h;by_cases m:iu ns=O
 .rw[ab m]at h;exact absurd h (by decide)
 rw[aa m]at h;have⟨n,s⟩:=aC (jH (fI ns) ns.length 0);rw[s]at h;cases n with
 |some a=>rw[tf2]at h;exact absurd h (by simp)
 |none=>
  rw[tf2]at h;have⟨o,l⟩:=aC (jH (iJ (iL ns)) ns.length 0);rw[l]at h;cases o with
  |some a=>rw[tf3]at h;exact absurd h (by simp)
  |none=>
   have t:=lB l;rw[tf3]at h;refine⟨λa i=>?_,?_⟩
   .have b:ns[a]?=Ak (ae ns a):=by
     unfold ae;rw[iF,List.getD,aw i];rfl
    generalize ae ns a=c at b;have e:=t a (aD _) (by omega);unfold iJ at e;have d:=abr b;rw[d]at e;unfold ov at e d;cases hw:qD ((iL ns).take a) c.ks.reverse a with
    |none=>rw[hw]at e;simp at e
    |some v=>
     rw[hw]at d;simp only at d;rw[EB (iL ns) a _ _ (λg f=>j.kid a c b g (by simpa using f))]at hw;have q:=abo u _ _ _ (λg f=>(j.kid a c b g (by simpa using f)).1) (by omega) hw;obtain⟨p,rfl⟩:=iE q.1;exact⟨p,by omega,hw,d⟩
   .by_cases k:(iL ns).getD (ns.length-1) 0=(ns.length:Int)
    .exact k
    .rw[ab k]at h;exact absurd h (by simp)
def als{ns:List Nd}(d:Wzd ns)(k:Szk ns):∀i:Nat,i<ns.length->∃a:Nat,a<=i/\(iL ns).getD i 0=(i:Int)-a+1/\(Sh ns i).sz=i+1-a/\(Sh ns i).flat a=(sl ns a (i+1)).map Nd.bk/\(Sh ns i).tops a=[(i:Int)]:=by
 intro i
 induction i using Nat.strongRecOn with
 |_ i C=>
  intro g;have⟨a,n,c,y⟩:=k.at_ i g;have H:∀(e:List Int)(b:Nat)(a:Nat),b<=i->(∀h∈e,h∈(ae ns i).ks)->qD (iL ns) e.reverse b=Ak (a:Int)->a<=b/\(qw (Sh ns) e).sz=b-a/\(qw (Sh ns) e).flat a=(sl ns a b).map Nd.bk/\(qw (Sh ns) e).tops a=e:=by
   intro e
   induction e using zq with
   |h0=>
    intro b a A _ c;have x:b=a:=by simp[qD]at c;omega
    subst x;refine⟨ag _,by simp[qw,Fo.sz],?_,rfl⟩;unfold sl;rw[lE (by rw[gJ];omega)];rfl
   |h1 af h E=>
    intro b a A l c;rw[List.reverse_append,List.reverse_cons,List.reverse_nil,dI,sG,qD]at c;by_cases o:h=(b:Int)-1/\(iL ns).getD h.toNat 0≠0
    .rw[ab o]at c;obtain⟨j,rfl,J,K,_⟩:=tE d g (l h (by simp));have⟨f,L,q,r,s,t⟩:=C j J K;rw[show((j:Int)).toNat=j by omega,q,show(b:Int)-((j:Int)-f+1)=(f:Int) by omega]at c;have⟨u,m,v,w⟩:=E f a (by omega) (λI B=>l I (by simp[B])) c;have z:b=j+1:=by omega
     subst z;rw[Jb,li];refine⟨by omega,by rw[Fo.sz_app,m,r];omega,?_,?_⟩
     .rw[Fo.flat_app,m,v,show a+(f-a)=f by omega,s,<-eJ,ait ns u (by omega) (by omega)]
     .rw[Fo.tops_app,m,w,show a+(f-a)=f by omega,t]
    .rw[aa o]at c;cases c
  obtain⟨ad,p,F,G⟩:=H _ i a (ag _) (λh l=>l) c;refine⟨a,n,y,?_,?_,?_⟩
  .rw[uf d g,bz,p];omega
  .rw[uf d g,uD,F,G,<-ait ns n (Nat.le_succ i) (by omega),ao6 g,eJ];rfl
  .rw[uf d g,Kx,p,show a+(i-a)=i by omega]
def alt{ns:List Nd}(h:(eG ns).1=0):(Sh ns ((ns.length-1:Nat):Int)).flat 0=ns.map Nd.bk:=by
 have a:=I9 h;have b:=ao7 h;have i:=a.len;have⟨c,g,d,_,e,_⟩:=als a b (ns.length-1) (by omega);have f:=b.root;rw[d]at f;obtain rfl:c=0:=by omega
 rw[e];unfold sl;rw[kC,dl (by omega)]
section
variable {ns ms : List Nd} {M N : Nd}
def E5(h:M.bk=N.bk):M.k=N.k/\M.op=N.op/\M.n=N.n/\M.x=N.x/\M.nm=N.nm/\M.ks=N.ks:=by
 have a:=congrArg Nd.k h;have b:=congrArg Nd.op h;have c:=congrArg Nd.n h;have d:=congrArg Nd.x h;have e:=congrArg Nd.nm h;have f:=congrArg Nd.ks h;exact⟨a,b,c,d,e,f⟩
def Jg(h:ms.map Nd.bk=ns.map Nd.bk)(i:Nat):(ms.getD i Gk).bk=(ns.getD i Gk).bk:=by
 have a:=congrArg (λb=>b[i]?) h;simp only[cD]at a;rw[aF,aF];cases h1:ms[i]?<;>cases h2:ns[i]?<;>rw[h1,h2]at a<;>simp_all
def E6(h:ms.map Nd.bk=ns.map Nd.bk)(e:M.bk=N.bk)(j:Nat):fl ms M j=fl ns N j:=by
 unfold fl;rw[(E5 e).2.2.2.2.2];exact(E5 (Jg h _)).1
def amI(h:ms.map Nd.bk=ns.map Nd.bk)(e:M.bk=N.bk):∀f j,lj ms M f j=lj ns N f j
 |0,j=>rfl
 |f+1,j=>by rw[lj,lj,E6 h e,amI h e f]
def amJ(h:ms.map Nd.bk=ns.map Nd.bk)(e:M.bk=N.bk):∀f j,C7 ms M f j=C7 ns N f j
 |0,j=>rfl
 |f+1,j=>by rw[C7,C7,E6 h e,amJ h e f]
def amK(h:ms.map Nd.bk=ns.map Nd.bk)(e:M.bk=N.bk):∀f j,C8 ms M f j=C8 ns N f j
 |0,j=>rfl
 |f+1,j=>by rw[C8,C8,E6 h e,amK h e f]
def amL(h:ms.map Nd.bk=ns.map Nd.bk)(e:M.bk=N.bk):∀f j,F4 ms M f j=F4 ns N f j
 |0,j=>rfl
 |f+1,j=>by rw[F4,F4,E6 h e,amL h e f]
def arj(h:ms.map Nd.bk=ns.map Nd.bk)(e:M.bk=N.bk):mJ ms M=mJ ns N:=by
 have⟨a,b,c,d,f,g⟩:=E5 e;unfold mJ stB jj bu fy;simp only[E6 h e,amI h e,amJ h e,amK h e,amL h e,a,b,c,d,f,g]
def ao8:∀(ns ms:List Nd),ms.map Nd.bk=ns.map Nd.bk->iL ms=iL ns:=by
 have g:∀(ns ms:List Nd)(a:List Int),ms.map Nd.bk=ns.map Nd.bk->ms.foldl (λa c=>a++[ov a a.length c.ks]) a=ns.foldl (λa c=>a++[ov a a.length c.ks]) a:=by
  intro ns
  induction ns with
  |nil=>intro ms a b;cases ms with
   |nil=>rfl
   |cons _ _=>simp at b
  |cons c ns f=>
   intro ms a b;cases ms with
   |nil=>simp at b
   |cons h ms=>
    have⟨d,e⟩:=gL b;rw[kG,kG,(E5 d).2.2.2.2.2];exact f ms _ e
 exact λns ms b=>g ns ms [] b
def ao9(h:ms.map Nd.bk=ns.map Nd.bk):C9 ms=C9 ns:=by
 have b:ms.length=ns.length:=by simpa using congrArg List.length h
 unfold C9;rw[b];generalize List.replicate ns.length (0:Int)=D;generalize ns.length=a
 induction a generalizing D with
 |zero=>rfl
 |succ a c=>rw[dpN,dpN,(E5 (Jg h a)).2.2.2.2.2];exact c _
def zC{p:Nat->Bool}:∀{f j:Nat},(∀k,j<=k->k<j+f->p k=Ax)->jH p f j=A3
 |0,j,_=>rfl
 |f+1,j,h=>by
  rw[jH,aa (by rw[h j (ag _) (by omega)];simp)];exact zC λk a b=>h k (by omega) (by omega)
def alu(h:ms.map Nd.bk=ns.map Nd.bk)(a:(eG ns).1=0)(p:∀N∈ms,0<=N.f/\N.f<=N.t/\0<=N.l):eG ms=(0,0):=by
 have j:ms.length=ns.length:=by simpa using congrArg List.length h
 have k:=I9 a;have u:jH (fI ms) ms.length 0=A3:=zC λc _ i=>by
  have i:c<ms.length:=by omega
  have b:=k.nb c (by omega);have e:=Jg h c;have n:ae ns c=ns.getD c Gk:=by unfold ae;rw[iF,aF,aF,aw (by omega)];rfl
  rw[n]at b;have s:ms.getD c Gk∈ms:=by rw[aF,aw i];exact jq _
  have d:=p _ s;unfold fI;unfold jK at b⊢;rw[bB,bB]at b;have q:=aB b.1;have g:=(E5 e).2.2.2.2.2;have m:I2 (ms.getD c Gk)=O:=be ⟨d.1,d.2.1,d.2.2,by rw[g];exact q.2.2.2⟩;rw[m,g,b.2.1,arj h e,b.2.2];rfl
 have r:iu ms=iu ns:=by
  unfold iu;rw[j,(E5 (Jg h _)).1]
 unfold eG at a⊢;rw[r,u,ao8 ns ms h,ao9 h,j];by_cases b:iu ns=O
 .rw[ab b]at a;exact absurd a (by decide)
 rw[aa b]at a⊢;cases hR:jH (fI ns) ns.length 0 with
 |some c=>rw[hR,tf2]at a;exact absurd a (by simp)
 |none=>
  rw[hR]at a;rw[tf2]at a⊢;cases hR2:jH (iJ (iL ns)) ns.length 0 with
  |some c=>rw[hR2,tf3]at a;exact absurd a (by simp)
  |none=>
   rw[hR2]at a;rw[tf3]at a⊢;split at a
   .exact absurd a (by simp)
   .rename_i o;rw[aa o];have:=Lt a;rw[this];rfl
end
def Pln(N:Nd):Prop:=0<=N.f/\N.f<=N.t/\0<=N.l
def ark(Q:Nd->Prop)(tk:Nat->Tk):uE->Nat->Prop
 | .more _ s x,i=>(∃q,q<i/\s=tk q)/\x.all Q
 | .post s B,i=>(∃q,q<i/\s=tk q)/\B.all Q
 | .body s,i=>∃q,q<=i/\s=tk q
 |_,_=>True
section
variable {tk : Nat → Tk} {n : Nat} {Q : Nd → Prop}
def alv(Q:Nd->Prop)(tk:Nat->Tk)(n:Nat):Prop:=∀ ⦃q r:Nat⦄ ⦃k c a:Int⦄ ⦃d:ByteArray⦄ ⦃b:List ByteArray⦄,q<=r->r<n->Q (nd k (tk q) (tk r).t c a d b)
def gi(c:alv Q tk n){q:Nat}{op m:Int}{x:ByteArray}{nm:List ByteArray}(a:q<=r:=by omega)(b:r<n:=by omega):Q (nd k (tk q) (tk r).t op m x nm):=c a b
def alw(c:alv Q tk n){q:Nat}(a:q<=r:=by omega)(b:r<n:=by omega):Q (sn k (tk q) (tk r).t):=by
 unfold sn;split
 .exact c a b
 split
 .exact c a b
 .exact c a b
def P.allq(d:alv Q tk n){t:uE}{j:Nat}{R:Fo}(h:P tk n t i R j):ark Q tk t i->R.all Q:=by
 induction h
 case mgo p s x y R k k1 j h1 h2 h3 h4 h5 e i2=>
  rintro ⟨⟨f,o,rfl⟩,g⟩;have:=h4.pos;simp only[bH]at this;exact i2 ⟨⟨f,by omega,rfl⟩,(cj _ _ _).2 ⟨alw d,(ig _ _ _).2 ⟨g,e trivial⟩⟩⟩
 case ex p i k j x R h1 h2 h3 h4 e i2=>
  intro _;have:=h3.pos;simp only[bH]at this;exact i2 ⟨⟨i,by omega,rfl⟩,e trivial⟩
 case bname i j R h1 h2 h3 ih=>intro _;exact ih ⟨⟨i,by omega,rfl⟩,(cj _ _ _).2 ⟨gi d,trivial⟩⟩
 case bopen i k j N ks R h1 h2 h3 h4 h5 h6 e i2=>
  intro _;have:=h3.pos;simp only[bH]at this;have e:=e trivial;refine i2 ⟨⟨i,by omega,rfl⟩,?_⟩;unfold mh;split
  .exact(cj _ _ _).2 ⟨gi d,e⟩
  .exact e
 case pdot s B R k j h1 h2 h3 h4 ih=>
  rintro ⟨⟨f,o,rfl⟩,g⟩;exact ih ⟨⟨f,by omega,rfl⟩,(cj _ _ _).2 ⟨gi d,g⟩⟩
 case psq s B Y R k k1 j h1 h2 h3 h4 h5 h6 e i2=>
  rintro ⟨⟨f,o,rfl⟩,g⟩;have:=h3.pos;simp only[bH]at this;exact i2 ⟨⟨f,by omega,rfl⟩,(cj _ _ _).2 ⟨gi d,(ig _ _ _).2 ⟨g,e trivial⟩⟩⟩
 case pcall0 s B R k j h1 h2 h3 h4 ih=>
  rintro ⟨⟨f,o,rfl⟩,g⟩;exact ih ⟨⟨f,by omega,rfl⟩,(cj _ _ _).2 ⟨gi d,g⟩⟩
 case pcall s B Y R k k1 j h1 h2 h3 h4 h5 h6 h7 e i2=>
  rintro ⟨⟨f,o,rfl⟩,g⟩;have:=h4.pos;simp only[bH]at this;exact i2 ⟨⟨f,by omega,rfl⟩,(cj _ _ _).2 ⟨gi d,(ig _ _ _).2 ⟨g,e trivial⟩⟩⟩
 case body i k j s nm r B h1 h2 h3 h4 ih=>
  rintro ⟨f,o,rfl⟩;have:=h3.pos;have:=h4.pos;simp only[bH]at this;exact(cj _ _ _).2 ⟨gi d,ih trivial⟩
 case ufn i j R h1 h2 h3 ih=>intro _;exact ih ⟨i,by omega,rfl⟩
 case tfn i j B h1 h2 h3 h4 h5 ih=>
  intro _;have:=h5.pos;simp only[bH]at this;exact(cj _ _ _).2 ⟨gi d,ih ⟨i+2,ag _,rfl⟩⟩
 case mstop h1 h2=>exact λh=>h.2
 case pstop h1 h2=>exact λh=>h.2
 case tlet0 i k ns h1 h2 h3 h4 h5=>intro _;have:=h4.pos;exact(cj _ _ _).2 ⟨gi d,trivial⟩
 case tlet i k j ns E h1 h2 h3 h4 h5 h6 ih=>intro _;have:=h4.pos;have:=h6.pos;simp only[bH]at this;exact(cj _ _ _).2 ⟨gi d,ih trivial⟩
 case tfor i k k1 j ns E b h1 h2 h3 h4 h5 h6 h7 e i2=>intro _;have:=h4.pos;have q:=h6.pos;have m:=h7.pos;simp only[bH]at q m;exact(cj _ _ _).2 ⟨gi d,(ig _ _ _).2 ⟨e trivial,i2 trivial⟩⟩
 case teach i k k1 j ns x b h1 h2 h3 h4 h5 h6 h7 h8 h9 e i2=>intro _;have:=h4.pos;have q:=h6.pos;have v:=h9.pos;simp only[bH]at q v;exact(cj _ _ _).2 ⟨gi d,(ig _ _ _).2 ⟨e trivial,i2 trivial⟩⟩
 case ttry i k k1 j ns a b h1 h2 h3 h4 h5 h6 h7 h8 e i2=>intro _;have:=h7.pos;have c:=h3.pos;have u:=h8.pos;simp only[bH]at c u;exact(cj _ _ _).2 ⟨gi d,(ig _ _ _).2 ⟨e trivial,i2 trivial⟩⟩
 case tset i k k1 j x R E h1 h2 h3 h4 h5 h6 h7 e i2 i3=>intro _;have c:=h3.pos;have l:=h4.pos;have m:=h7.pos;simp only[bH]at c l m;exact(cj _ _ _).2 ⟨gi d,(ig _ _ _).2 ⟨(ig _ _ _).2 ⟨e trivial,i2 trivial⟩,i3 trivial⟩⟩
 case belif i k k1 j x b z h1 h2 h3 h4 h5 h6 h7 e i2 i3=>intro _;have c:=h3.pos;have l:=h4.pos;have m:=h7.pos;simp only[bH]at c l m;exact(cj _ _ _).2 ⟨gi d,(ig _ _ _).2 ⟨(ig _ _ _).2 ⟨e trivial,i2 trivial⟩,i3 trivial⟩⟩
 case belse i k k1 j x b z h1 h2 h3 h4 h5 h6 h7 e i2 i3=>intro _;have c:=h3.pos;have l:=h4.pos;have m:=h7.pos;simp only[bH]at c l m;exact(cj _ _ _).2 ⟨gi d,(ig _ _ _).2 ⟨(ig _ _ _).2 ⟨e trivial,i2 trivial⟩,i3 trivial⟩⟩
 case bno i k k1 x b h1 h2 h3 h4 h5 h6 h7 e i2=>intro _;have c:=h3.pos;have l:=h4.pos;simp only[bH]at c l;exact(cj _ _ _).2 ⟨gi d,(ig _ _ _).2 ⟨e trivial,i2 trivial⟩⟩
 case pair i k j x y h1 h2 h3 h4 h5 h6 h7 e i2=>intro _;have c:=h3.pos;have m:=h7.pos;simp only[bH]at c m;exact(cj _ _ _).2 ⟨gi d,(ig _ _ _).2 ⟨e trivial,i2 trivial⟩⟩
 case twhile i k j x b h1 h2 h3 h4 e i2=>intro _;have c:=h3.pos;have l:=h4.pos;simp only[bH]at c l;exact(cj _ _ _).2 ⟨gi d,(ig _ _ _).2 ⟨e trivial,i2 trivial⟩⟩
 case block i k S h1 h2 h3 h4 h5 ih=>intro _;have c:=h3.pos;simp only[bH]at c;exact(cj _ _ _).2 ⟨gi d,ih trivial⟩
 case utab i j E h1 h2 h3 h4 h5 ih=>intro _;have c:=h3.pos;simp only[bH]at c;exact(cj _ _ _).2 ⟨gi d,ih trivial⟩
 case upre i j x h1 h2 h3 ih=>intro _;have c:=h3.pos;simp only[bH]at c;exact(cj _ _ _).2 ⟨gi d,ih trivial⟩
 case item i j x h1 h2 h3 h4 h5 ih=>intro _;have c:=h5.pos;simp only[bH]at c;exact(cj _ _ _).2 ⟨gi d,ih trivial⟩
 case named i j y h1 h2 h3 h4 h5 ih=>intro _;have c:=h5.pos;simp only[bH]at c;exact(cj _ _ _).2 ⟨gi d,ih trivial⟩
 case tcon i j x h1 h2 h3 h4 h5 ih=>intro _;have c:=h5.pos;simp only[bH]at c;exact(cj _ _ _).2 ⟨gi d,ih trivial⟩
 case tret i j E h1 h2 h3 h4 ih=>intro _;have c:=h4.pos;simp only[bH]at c;exact(cj _ _ _).2 ⟨gi d,ih trivial⟩
 case tthrow i j x h1 h2 h3 ih=>intro _;have c:=h3.pos;simp only[bH]at c;exact(cj _ _ _).2 ⟨gi d,ih trivial⟩
 case tdefer i j x h1 h2 h3 ih=>intro _;have c:=h3.pos;simp only[bH]at c;exact(cj _ _ _).2 ⟨gi d,ih trivial⟩
 case tdo i j x h1 h2 h3 h4 h5 h6 ih=>intro _;have c:=h3.pos;simp only[bH]at c;exact(cj _ _ _).2 ⟨gi d,ih trivial⟩
 all_goals first
  |(intro _;exact(cj _ _ _).2 ⟨gi d,trivial⟩)
  |(intro _;simp_all only[cj,ig,ark,Fo.all,and_self,true_implies,forall_const])
end
def abE{s:ByteArray}{f:Nat}{st:List Int}{l:Int}{j:List Tk}(h:sD s (f+1) st p l j=R)(g:R.2.2= -1)(q:p<s.size):(db s p).ok=O/\((db s p).k=7/\(dm st 5).2=Ax/\sD s f st (blk s (s.size+1) (db s p).a) (l+1) j=R\/
  ∃b i,((db s p).k=7/\b=5/\i=l+1\/((db s p).k==7)=Ax/\b=(db s p).k/\l=i)/\1<=b/\b<=78/\(dm st b).2=O/\sD s f (dm st b).1 (blk s (s.size+1) (db s p).a) i (j++[⟨b,(p:Nat),((db s p).a:Nat),l,(db s p).n,(db s p).x⟩])=R):=by
 rw[sD,aa (by omega)]at h;split at h
 .rename_i c;have⟨e,c⟩:=ak0 s p c;refine⟨e,?_⟩;split at h
  .exact .inr ⟨5,_,.inl ⟨c,rfl,rfl⟩,by decide,by decide,by assumption,h⟩
  .rename_i d;exact .inl ⟨c,by simpa using d,h⟩
 .rename_i c;split at h
  .rename_i d;split at h
   .rename_i e;have o:ya s p=(db s p).k:=by unfold ya;rw[ab e]
    rw[o]at c d h;have m:=ade s p e;unfold Lh at d;rw[ab (by omega)]at d;exact⟨e,.inr ⟨_,_,.inr ⟨by simpa using c,rfl,rfl⟩,m.1,m.2,d,h⟩⟩
   .rw[<-h]at g;simp at g
  .rw[<-h]at g;simp at g
def afl(w:A1)(base mb:Nat)(s:ByteArray)(h:CH w base mb [])(ee:s.size<=70000)(a3:(mj s).2.2= -1):
  Calls A9 36 #[.pointer (Ak ⟨mb,0,A3⟩),A2 s] w (Ll w base mb s (mj s)):=by
 unfold mj at a3⊢;have⟨K,a2⟩:=aC (sD s (s.size+1) [100,6] (blk s (s.size+1) 0) 1 []);rw[a2]at a3⊢;have ei:base<=w.heap.size:=by obtain⟨v,eb,_⟩:=h.ex;have:=ai eb;have:=h.lo;omega
 have c8:=ae0 w base mb h;have m:=λw=>zm s (by omega) 0 (aD _) w;have cx:=ou s (s.size+1) 0 (aD _);have⟨ce,ct⟩:=aC (blk s (s.size+1) 0);rw[ct]at a2 m cx;rw[show(((0:Nat):Int))=0 from rfl]at m;have ca:=gF a2 a3;clear a2 h ct a3;go_in;go_wp2_with fail;refine c8.mono ?_;rintro ak w1 ⟨rfl,dc,en,c⟩;clear c8;have cc:Hid (abn w base mb s K ce [100,6] 1 [(6, -1),(100,0)] 1 [] (s.size+1) (Ad A3 0 0) w1):=by
  refine⟨dc,⟨1,0,rfl,rfl,0, -1,rfl,rfl,rfl⟩,?_,c,fs _ _ _ _,ca.1,⟨by simp,by simp⟩,by simp,⟨by omega,by omega⟩⟩;intro x ek;simp at ek;omega
 clear dc en c;go_wp2_with (go_at_call 68;refine fC (m _) ?_);clear m;have⟨c1,c2,c3,c4,c7⟩:=fh ak2;go_loopw [7,8,9,10] (λeB dn eA b8 wr=>∃(a:Nat) (t:List Int) (n:Int) (l:List (Int×Int)) (f:Int) (r:List Tk) (i:Nat),b8= U V a/\eA= U V f/\eB= U V n/\(∃d8 d9,∃em:Nat,dn= Ad d8 em d9)/\a<=s.size/\s.size<a+i/\Hid (abn w base mb s K a t n l f r i dn wr)) (λ_ _ _ b8 _=>s.size+1-(intOf b8).toNat)
 case atStart=>exact⟨ce,_,1,_,1,[],s.size+1,rfl,rfl,rfl,⟨_,_,_,rfl⟩,cx.2,by omega,cc⟩
 case round=>
  obtain⟨a,t,n,l,f,r,i,rfl,rfl,rfl,⟨bk,bo,a8,rfl⟩,fb,e7,d⟩:=hrel;clear cc;obtain⟨i,rfl⟩:∃E,i=E+1:=⟨i-1,by omega⟩;have⟨eF,e0,ea⟩:=di d.row;cases ea;have cy:=bG ei d.bl.size;have eg:=d.ol;have⟨a8,an⟩:=aC r.length;have y:=am an;rw[an]at eg⊢;by_cases bA:a<s.size
  .have eh:(a:Int)<(s.size:Int):=by omega
   have⟨bD,p⟩:=abE d.eq ca.2 bA;have da:=λw=>abk s ee a bA w;have a6:=nC s a bA bD;have cb:=am bD;clear an bD;go_wp2_with fail;refine(da _).mono ?_;rintro ak w1 ⟨cd,G,C,x,eL,rfl,c0,bv⟩;obtain⟨rfl,rfl,b0,rfl,rfl,_⟩:=c0.yes cb;generalize (db s a).n=C at p⊢;generalize (db s a).x=x at p⊢;generalize (db s a).k=cd at p⊢;have⟨I,cr⟩:=aC ((db s a).a);rw[cr]at p b0 a6;have aK:=d.below bv cy;have el:=bv.size;have a7:=λw=>zm s (by omega) I (by omega) w;have bt:=ou s (s.size+1) I (by omega);have⟨bj,cu⟩:=aC (blk s (s.size+1) I);rw[cu]at p a7 bt;rw[<-b0]at a7 p;have e1:a<I/\I<=s.size:=⟨a6.1,a6.2.1⟩;have bh:=am p;clear da bv d c0 cu cr b0 a6 p cb;have⟨c,bw⟩:=aC w1.heap.size;go_upto_region 8 with fail
   generalize a4:w1.alloc _=L;have a0:fa c L cd a G f C x:=by rw[<-bw,<-a4];exact aA w1 _
   have b:Hid (abn w base mb s K a t n l f r (i+1) (Ad bk r.length bo) L):=by rw[<-a4];exact aK.below (dC w1 _) (by omega)
   have fd:L.heap.size=c+1:=by rw[<-a4,fe,bw]
   have cB:∀E,(Value.slice bk a8 bo).ownBlock=Ak E->E<c:=λE ed=>by
    have cI:=aK.row;rw[y.out]at cI;have:=(cI.lt E ed).2;omega
   have cw:c≠mb:=by
    have⟨dg,A,_⟩:=aK.m.ex;have:=ai A;omega
   have e4:=b.cl.2;have e6:=b.cl.1;have e3:base<=c:=by omega
   have e8:=b.l0;have⟨ep,er,es,et,ev,ew,ey⟩:=bm a0;clear aK bw el cy a4;rcases bh.out with⟨rfl,al,k⟩|⟨e,ff,cq,m,b4,al,k⟩
   .have g:=D6 L base mb l t n 5 b.m b.sk b.o (by omega) (by omega) (by omega);unfold zb at g;rw[al]at g;have bf:=am k;clear k al bh;go_wp2_with fail;refine g.mono ?_;rintro ak H ⟨df,D,rfl,ar,ba,bs,B,af⟩;have q:=B.blk a0 (by decide) cw;have⟨dg,A,_⟩:=b.m.ex;have row3:=B.row A b.row (by decide) (by decide);have d5:Hid (abn w base mb s K bj t n (l++D) (f+1) r i (Ad bk a8 bo) H):=
     ⟨ar,b.sk.app D,b.o,b.bl.trans af,by rw[<-y.out]at *;exact row3,bf,⟨by rw[aG];omega,by rw[aG];omega⟩,by rw[y.out];omega,⟨by omega,by omega⟩⟩
    have⟨dq,ds,dx,d0,d1,d2,d3⟩:=bm q;clear g a0 q row3 A ar ba B af b ep er es et ev ew ey;go_wp2_with (go_at_call 68;refine fC (a7 _) ?_);exact⟨⟨bj,t,n,l++D,f+1,r,i,rfl,by go_num,rfl,⟨_,_,_,rfl⟩,bt.2,by omega,d5⟩,by simp[intOf];omega⟩
   .have g:=D6 L base mb l t n e b.m b.sk b.o m b4 (by omega);have cF:=si b.o m b4;unfold zb at g;rw[al]at g;generalize (dm t e).1=eo at g cF k;have bf:=am k;have d4:Hid (1<=e):=m;clear k al bh m b4;rcases cq with⟨rfl,br,rfl⟩|⟨cq,rfl,rfl⟩;all_goals
     try have b9:Hid (e=5):=br
     try rw[br]at g
     try clear br
     try have e2:0<e:=d4.out
     go_wp2_with fail;refine g.mono ?_;rintro ak H ⟨df,D,rfl,ar,ba,bs,B,af⟩;have q:=B.blk a0 (by decide) cw;have⟨dg,A,_⟩:=b.m.ex;have row3:=B.row A b.row (by decide) (by decide);rw[y.out]at row3;have bd:=kK ba bs (b.bl.trans af);have⟨dq,ds,dx,d0,d1,d2,d3⟩:=bm q;clear g A ba bs B af;go_upto_region 24 with fail
     generalize a5:H.setCell ⟨c,0,A3⟩ _=ad;have a1:fa c ad e a G f C x:=by rw[<-a5];first|exact fa.setKind q _|(rw[b9.out];exact fa.setKind q _)
     have dd:=ar.other (j:=0) (v:= U V e) (show H.heap[c]?=Ak (A0 _ _ _) from q) (by decide) (by decide);have b7:=abm (j:=0) (u:= U V e) row3 cB;have cf:Below base w (H.setCell ⟨c,0,A3⟩ (U V e)):=bd.2.2.setCell (by simp;omega) _;have cn:H.setCell ⟨c,0,A3⟩ (U V e)=ad:=by first|exact a5|(rw[b9.out];exact a5)
     rw[cn]at dd b7 cf;have⟨fu,fv,fz,fA,fB,fF,f0⟩:=bm a1;have z:=am b7;have d6:=am a1;have ec:c<ad.heap.size:=ai a1;clear q a1 ar row3 b7 a5 cn dq ds dx d0 d1 d2 d3;go_wp2_with (first|(at_builtin;refine vz _ rfl _ _ 46 rfl base 49 c1 _ 6 56 Tryz.underlying46 c2 c3 c4 c7 rfl (by decide) _ _ _ rfl (z.alloc _) ⟨ad.heap.size,0,A3⟩ 1 1 [U V e,U V a,U V G,U V f,U V C,A2 x] rfl rfl (World.news_of_block (cs:=#[U V e,U V a,U V G,U V f,U V C,A2 x]) (fr:=(0,0)) (aA ad _)) (by intro u ap;simp at ap;rcases ap with rfl|rfl|rfl|rfl|rfl|rfl<;>rfl) (by unfold maxLen;omega) (by omega) (by simp;omega) ?_;intro ez bb ao F ef;obtain⟨cp,ck,rfl⟩:=Bc ao;have d7:fa c bb e a G f C x:=(F.block c (by simp;omega) (λak=>by have:=cB c ak.symm;omega)).trans ((eI _ _ _ ec).trans d6);obtain⟨fg,fk,fm,fn,fo,fq,ft⟩:=bm d7)|(go_at_call 68;refine fC (a7 _) ?_));have b5:=dd.app z F (by decide) (by decide);have bn:Below base w bb:=(cf.alloc (by omega) _).grown F (by simp;omega) (λb2 bx=>(z.out.lt b2 bx).1);refine⟨⟨bj,eo,df,l++D,_,r++[⟨e,(a:Nat),G,f,C,x⟩],i,rfl,by first|rfl|go_num,rfl,⟨_,_,_,rfl⟩,bt.2,by omega,⟨b5,bd.1,cF,bn,?_,bf.out,?_,?_,?_⟩⟩,by simp[intOf];omega⟩
     .rw[aG,y.out,yI];exact ao
     .have:=b.cl;have:=bd.2;rw[aG];omega
     .rw[aG,y.out];simp;omega
     .have:=b.l0;omega
  .have k:=d.eq;rw[sD,ab (by omega)]at k;have bE:=d.row;rw[an]at bE;have z:=am bE;have J:=am k;have eh:¬(a:Int)<(s.size:Int):=by omega
   clear k an bE;go_wp2_with (at_builtin;refine vz _ rfl _ _ 46 rfl base 49 c1 _ 6 56 Tryz.underlying46 c2 c3 c4 c7 rfl (by decide) _ _ _ rfl (z.alloc _) ⟨wr.heap.size,0,A3⟩ 1 1 [U V 6,U V s.size,U V s.size,U V f,U V 0,A2 ⟨#[]⟩] rfl rfl (World.news_of_block (cs:=#[U V 6,U V s.size,U V s.size,U V f,U V 0,A2 ⟨#[]⟩]) (fr:=(0,0)) (aA wr _)) (by intro u ap;simp at ap;rcases ap with rfl|rfl|rfl|rfl|rfl<;>rfl) (by unfold maxLen;omega) (by omega) (by simp;omega) ?_;intro ez bb ao F ef;obtain⟨cp,ck,rfl⟩:=Bc ao);go_ret3
   have b5:=d.m.app z F (by decide) (by decide);have bn:Below base w bb:=(d.bl.alloc (by omega) _).grown F (by simp;omega) (λb2 bx=>(z.out.lt b2 bx).1);have cz:K.1.length=a8+1:=by rw[<-J.out,aG,y.out];rfl
   refine⟨Ak ⟨cp,0,A3⟩,ck,n,l,?_,?_,b5,?_,?_,bn,d.cl.1,?_⟩
   .rw[cz,<-J.out];rfl
   .rw[cz,<-J.out,yI];exact ao
   .rw[<-J.out];exact d.sk
   .rw[<-J.out];exact d.o
   .have:=d.cl.2;omega
def mz(s:ByteArray)(p q:Nat):Prop:=∀i,p<=i->i<q->aq s i≠10
section
variable {s : ByteArray} {p q r : Nat}
def mz.nlc(h:mz s p q)(b:p<=q):nlc s q=nlc s p:=by
 induction b with
 |refl=>rfl
 |@step q c e=>rw[Go.Proofs.YtbkolnpplhbdmaaGreatDoor.nlc,e λd a f=>h d a (by omega),aa (h q c (by omega)),Int.add_zero]
def mz.app(h:mz s p q)(g:mz s q r):mz s p r:=λb c d=>by
 rcases bg b q with a|a
 .exact h b c a
 .exact g b a d
def mz.one(h:aq s p≠10):mz s p (p+1):=λa b c=>by rw[show a=p by omega];exact h
def mz.run{f:Nat}{c:Int->Bool}(e:c 10=Ax:=by decide):mz s p (ix c s f p):=λg b d a=>by
 have:=ql c s f p g b d;rw[a,e]at this;cases this
def Jh(s:ByteArray):∀(f p:Nat),mz s p (blk s f p)
 |0,p=>λi b a=>by unfold blk at a;omega
 |f+1,p=>by
  rw[blk];split
  .exact λi b a=>by omega
  split
  .rename_i d;exact(mz.one λe=>by rw[e]at d;cases d).app (Jh s f (p+1))
  split
  .exact(mz.run (c:=JB)).app (Jh s f _)
  .exact λi b a=>by omega
def aiu(h:¬ic c<0):c≠10:=λa=>by rw[a]at h;exact h (by decide)
def apa(h:(iG s p).2.2=O):mz s p (iG s p).2.1:=by
 unfold iG at h⊢;split
 .exact .one (by omega)
 rename_i d;rw[aa d]at h;split
 .exact .one (by omega)
 rename_i e;rw[aa e]at h;split
 .exact .one (by omega)
 rename_i f;rw[aa f]at h;split
 .rename_i b;rw[ab b]at h;unfold hexI at h⊢;split
  .rename_i a;rw[ab a]at h;cases h
  rename_i a;rw[aa a]at h;split
  .rename_i c;rw[ab c]at h;cases h
  .rename_i c;exact(mz.one (by omega)).app ((mz.one (aiu a)).app (.one (aiu c)))
 .rename_i b;rw[aa b]at h;cases h
def abF(s:ByteArray):∀(f p:Nat)(a:List Int),(gc s f p a).1=O->mz s p (gc s f p a).2.1
 |0,p,a,h=>by cases h
 |f+1,p,a,h=>by
  rw[gc]at h⊢;split
  .rename_i g;rw[ab g]at h;cases h
  rename_i e;rw[aa e]at h;split
  .exact .one (by omega)
  rename_i i;rw[aa i]at h;split
  .rename_i g;rw[ab g]at h;cases h
  rename_i d;rw[aa d]at h;split
  .rename_i c;rw[ab c]at h;split
   .rename_i b;rw[ab b]at h;exact(mz.one (by omega)).app ((apa b).app (abF s f _ _ h))
   .rename_i b;rw[aa b]at h;cases h
  .rename_i c;rw[aa c]at h;exact(mz.one d).app (abF s f _ _ h)
def apb(h:(dF s p).2=O)(i:cm (aq s p)=O):mz s p (dF s p).1:=by
 have d:aq s p≠10:=λn=>by rw[n]at i;cases i
 have b:∀a,mz s a (rL s a):=λa=> .run;unfold dF at h⊢;split
 .rename_i e;rw[ab e]at h;unfold nB at h⊢;split
  .rename_i o;rw[ab o]at h;cases h
  .exact(mz.one d).app ((mz.one (by omega)).app (.run (c:=nA)))
 .have k:mz s p (nA0 s p):=by
   unfold nA0;split
   .exact .one d
   .exact(mz.one d).app (b _)
  have l:∀a,mz s a (nA1 s a):=λa=>by
   unfold nA1;split
   .rename_i e;exact(mz.one (by omega)).app (b _)
   .exact λj f g=>by omega
  have m:∀a,mz s a (oe s a).1:=λa=>by
   unfold oe;split
   .refine(mz.one (by omega)).app (mz.app ?_ (b _));unfold nA2;split
    .exact .one (by omega)
    .exact λj f g=>by omega
   .exact λj f g=>by omega
  exact(k.app (l _)).app (m _)
def apc:∀k:Fin 79,∀i:Fin 3,k.val=5\/40<=k.val->aq (dK (k.val:Int)) i.val≠10:=by decide+kernel
def arl:∀k:Fin 79,k.val=5\/40<=k.val->(dK (k.val:Int)).size<=3:=by decide+kernel
def arm(r:p<s.size)(b:(db s p).ok=O):((db s p).k=7->(db s p).a=p+1/\aq s p=10)/\((db s p).k≠7->mz s p (db s p).a):=by
 unfold db at b⊢;split
 .exact⟨λc=>absurd c (amx s p),λ_=>by simp only;rw[zv];exact .run⟩
 rename_i j;rw[aa j]at b;split
 .rename_i l;rw[ab l]at b;split
  .rename_i d;exact⟨λc=>absurd c (amy s p),λ_=>apb d l⟩
  .rename_i d;rw[aa d]at b;cases b
 rename_i d;rw[aa d]at b;split
 .rename_i h;rw[ab h]at b;split
  .rename_i e;exact⟨λc=>absurd (show(4:Int)=7 from c) (by decide),λ_=>(mz.one (by omega)).app (abF s _ _ _ e)⟩
  .rename_i e;rw[aa e]at b;cases b
 rename_i h;rw[aa h]at b;have t:=jd s p s.size (ag _);have i:=λf=>Lz s p f;split
 .rename_i e;rw[ab e]at b;cases b
 .rename_i e;have⟨n,g⟩:=ED (s.extract p s.size) (by omega) e;refine⟨λc=>?_,λc f j d=>?_⟩
  .simp only at c⊢;rw[c]at g⊢;have:=g 0 (by decide);rw[i,fL]at this;exact⟨rfl,this⟩
  .simp only at c d;generalize pc (s.extract p s.size)=k at n g c d;have q:0<=k/\k<79:=by omega
   have o:=arl ⟨k.toNat,by omega⟩ (by show k.toNat=5\/40<=k.toNat;omega);have m:=apc ⟨k.toNat,by omega⟩;simp only[show((k.toNat:Nat):Int)=k by omega]at o m;have:=g (f-p) (by omega);rw[i,show p+(f-p)=f by omega]at this;rw[this];exact m ⟨f-p,by omega⟩ (by omega)
def alx(s:ByteArray)(T:Tk):Prop:=0<=T.f/\T.l=1+nlc s T.f.toNat
def abG(c:R.2.2= -1):∀(f:Nat)(st:List Int)(p:Nat)(l:Int)(b:List Tk),p<=s.size->s.size<p+f->l=1+nlc s p->(∀T∈b,alx s T)->sD s f st p l b=R->∀T∈R.1,alx s T
 |0,st,p,l,b,u,v,_,_,_=>by omega
 |f+1,st,p,l,b,u,v,i,j,h=>by
  rcases bg p s.size with hp|hp
  .obtain⟨o,q⟩:=abE h c hp;have w:=nC s p hp o;have e:=ou s (s.size+1) (db s p).a w.2.1;have m:=(Jh s (s.size+1) (db s p).a).nlc e.1;have⟨x,y⟩:=arm hp o;have n:(db s p).k=7->l+1=1+nlc s (blk s (s.size+1) (db s p).a):=λa=>by
    have⟨r,t⟩:=x a;rw[m,r,nlc,ab t];omega
   rcases q with⟨a,_,q⟩|⟨z,A,a,_,_,_,q⟩
   .exact abG c f _ _ _ _ e.2 (by omega) (n a) j q
   .refine abG c f _ _ _ _ e.2 (by omega) ?_ (λT d=>?_) q
    .rcases a with⟨a,_,rfl⟩|⟨a,_,rfl⟩
     .exact n a
     .rw[m,(y (by simpa using a)).nlc (by omega)];exact i
    .rcases List.mem_append.1 d with g|g
     .exact j T g
     .rw[List.mem_singleton.1 g];exact⟨by show(0:Int)<=(p:Nat);omega,by show l=1+nlc s ((p:Nat):Int).toNat;rw[iF];exact i⟩
  .rw[sD,ab hp]at h;rw[<-h];intro T d;rcases List.mem_append.1 d with g|g
   .exact j T g
   .rw[List.mem_singleton.1 g];exact⟨by show(0:Int)<=(s.size:Nat);omega,by show l=1+nlc s ((s.size:Nat):Int).toNat;rw[iF,show s.size=p by omega];exact i⟩
def aly{a:List Tk}{st:List Int}(h:mj s=(a,st, -1)):∀T∈a,alx s T:=by
 have b:=ou s (s.size+1) 0 (aD _);have:=abG (R:=(a,st, -1)) rfl (s.size+1) [100,6] (blk s (s.size+1) 0) 1 [] b.2 (by omega) (by rw[(Jh s (s.size+1) 0).nlc b.1];rfl) (λT c=>by cases c) h;exact this
end
attribute [local go_sem] lG
def afm(n l b mb B:Nat)(s:ByteArray)(ds:s.size<=70000)(c7:b<B)(A:mb≠b)(z:12<=b)
  (I:Nat->Int->A1->Prop) (J:∀p l W m,I p l W->ScX b W->W.grownBy m (Ak b)->I p l m) (bo:∀p q l W,blk s (s.size+1) p=blk s (s.size+1) q->p<=q->q<=s.size->I p l W->I q l W) (cz:∀p l W,I p l W->0<=l/\l<=(p:Int)+1/\p<=s.size)
  (cB:∀p l W,El s p->I p l W->(db s p).ok=O) (h:A1->Prop) (cx:∀W m,KeepsFrom B W m->h W->h m)
  (cI:∀p c W,El s p->(db s p).ok=O->Iw b mb B s I W (db s p).a (c+(db s p).d) p c->h W->YieldAt Fence.wide (n-1) A9 l #[vTk ⟨(db s p).k,(p:Int),((db s p).a:Int),c,(db s p).n,(db s p).x⟩] W λe m=>e= .returned (.bool O)/\Iw b mb B s I m (db s p).a (c+(db s p).d) (db s p).a (c+(db s p).d)/\h m)
  (W:A1) (bv:Nat) (bt:Int) (a7:Iw b mb B s I W bv bt bv bt) (cv:h W):
  CallsIn Fence.wide n A9 26 #[.pointer (Ak ⟨b,0,A3⟩),.func (.yield l) #[] #[]] W λe m=>(∃v,e= .returned v)/\(∃l,Iw b mb B s I m s.size l s.size l)/\h m:=by
 have bd:∀{g bE:A1},g.grownBy bE (Ak b)->h g->h bE:=λdd f=>cx _ _ (KeepsFrom.of_grownBy dd (λbb e=>by cases e;exact c7)) f;refine callsIn_wide.2 ?_;go_in;go_wp2;go_step3
 go_wp2;go_step3
 go_wp2;have E:∀{g:A1}{p:Nat}{c:Int}(q:Nat),Iw b mb B s I g p c p c->Iw b mb B s I (g.drewN q) p c p c:=λq f=>f.gr J A z (by omega) (ur (qI _ b) q) f.sc id;have o:∀{g:A1}(q:Nat),h g->h (g.drewN q):=λq f=>bd (ur (qI _ b) q) f;have d5:∀{g:A1}{p:Nat}{c:Int}(C:Nat),blk s (s.size+1) p=blk s (s.size+1) C->p<=C->C<=s.size->Iw b mb B s I g p c p c->Iw b mb B s I (g.setCell ⟨b,3,A3⟩ (U V (C:Int))) C c C c:=λC da dg d2 f=>f.gr J A z (by omega) (pJ _ b 3 _) (f.sc.setP _) (bo _ _ _ _ da dg d2);have ce:∀{g:A1}(v:Bk),h g->h (g.setCell ⟨b,3,A3⟩ v):=λv f=>bd (pJ _ b 3 v) f;go_loopw [] (λwr=>∃(p:Nat) (c:Int),Iw b mb B s I wr p c p c/\h wr) (λwr=>s.size-Gi b wr)
 case atStart=>exact⟨bv,bt,a7,cv⟩
 case round=>
  obtain⟨p,c,a0,b1⟩:=hrel;have b7:=C1.pos a0.sc;obtain⟨dn,ec,b6⟩:=cz _ _ _ a0.ii;have⟨L,ad,af,ak,al,an,ao,ap⟩:=C1.cells a0.sc;by_cases a3:p<s.size
  .have ee:(p:Int)<(s.size:Int):=by omega
   have d3:=λi=>dG a3 i;have bk:=am b7;go_wp2_with fail;go_quiet (fail)
   go_wp2_with fail;have a8:=E nq a0;have bn:=o nq b1;generalize wr.drewN nq=cn at a8 bn⊢;have⟨L,ad,af,ak,al,an,ao,ap⟩:=C1.cells a8.sc;have a4:∀i,Calls A9 50 #[U .u8 (aq s p)] i (jt i (.bool (ja (aq s p)))):=λi=>(JH _ i).mono λe eg f=>⟨f.1,f.2.symm⟩;cases hbl:ja (aq s p) with
   |true=>
    have a1:=Ay s p a3 hbl;rw[hbl]at a4;generalize aq s p=cr at d3 a4;go_quiet ((go_at_call 50;exact A5 (a4 _)))
    have t:=d5 (p+1) a1 (by omega) (by omega) (E nq a8);have F:=ce (U V ((p+1:Nat):Int)) (o nq bn);rw[show((p+1:Nat):Int)=(p:Int)+1 by omega]at t F;go_wp2;exact⟨⟨p+1,c,t,F⟩,by rw[C1.pos t.sc,bk.out];omega⟩
   |false=>
    rw[hbl]at a4;go_quiet ((go_at_call 50;exact A5 (a4 _)))
    go_wp2_with fail;have t:=E nq a8;have F:=o nq bn;generalize cn.drewN nq=bD at t F⊢;have⟨L,ad,af,ak,al,an,ao,ap⟩:=C1.cells t.sc;have bf:=λi=>ahq s p i;by_cases K:aq s p=45/\aq s (p+1)=45
    .rw[be K]at bf;have a1:=D8 s p K.1 K.2;have ed:=rh s p K.1;go_quiet ((go_at_call 51;exact A5 (bf _)))
     go_wp2_with fail;have u:=E nq t;have av:=o nq F;generalize bD.drewN nq=cp at u av⊢;go_loopw [] (λwq=>∃(k r:Nat),p<=k/\k<=s.size/\s.size<k+r/\amr JB s r k (xL s p)/\Iw b mb B s I wq k c p c/\h wq) (λwq=>s.size-Gi b wq)
     case atStart=>exact⟨p,s.size+1,ag _,b6,by omega,⟨rfl⟩,u,av⟩
     case round=>
      obtain⟨k,r,d0,df,ea,b8,w,b0⟩:=hrel;obtain⟨r,rfl⟩:∃q,r=q+1:=⟨r-1,by omega⟩;have⟨L,ad,af,ak,al,an,ao,ap⟩:=C1.cells w.sc;have y:=b8.out;rw[ix]at y;have d1:=C1.pos w.sc;have cf:=am d1;have bl:∀{g:A1}{q:Nat}(bb:Nat),Iw b mb B s I g q c p c->Iw b mb B s I (g.drewN bb) q c p c:=λbb f=>f.gr J A z (by omega) (ur (qI _ b) bb) f.sc id;have dp:∀{g:A1}{q:Nat}(bw:Nat),Iw b mb B s I g q c p c->Iw b mb B s I (g.setCell ⟨b,3,A3⟩ (U V (bw:Int))) bw c p c:=λbw f=>f.gr J A z (by omega) (pJ _ b 3 _) (f.sc.setP _) id;by_cases b5:k<s.size
      .have eb:(k:Int)<(s.size:Int):=by omega
       have ca:=λi=>dG b5 i;go_wp2_with fail;go_quiet (fail)
       go_wp2_with fail;have H:=bl nq w;have aK:=o nq b0;generalize wr.drewN nq=cq at H aK⊢;obtain⟨L,ad,af,ak,al,an,ao,ap⟩:=C1.cells H.sc;by_cases ar:aq s k=10
       .rw[aa (by rw[ar];decide)]at y;rw[ar]at ca;have a6:=am y;clear y b8 ar;go_quiet (fail)
        go_wp2_with fail;have j:=bl nq H;have G:=o nq aK;rw[<-a6.out]at a1;have a9:Iw b mb B s I (cq.drewN nq) k c k c:=⟨j.sc,j.mp,j.ly,bo _ _ _ _ a1 d0 df j.ii,j.sz⟩;exact⟨⟨k,c,a9,G⟩,by rw[C1.pos j.sc,bk.out];have:=a6.out;omega⟩
       .have dx:JB (aq s k)=O:=by
         have:=jF b5;unfold JB;rw[py];exact⟨ar,by omega⟩
        rw[ab dx]at y;have cu:(aq s k==10)=Ax:=by rw[du];exact ar
        generalize aq s k=cr at ca cu;have ck:amr JB s r (k+1) (xL s p):=⟨y⟩;go_quiet (fail)
        have j:=dp (k+1) (bl nq H);have G:=ce (U V ((k+1:Nat):Int)) (o nq aK);rw[show((k+1:Nat):Int)=(k:Int)+1 by omega]at j G;go_wp2;exact⟨⟨k+1,r,by omega,by omega,by omega,ck,j,G⟩,by rw[C1.pos j.sc,cf.out];omega⟩
      .obtain rfl:k=s.size:=by omega
       rw[aa (by rw[dy (CC _)];decide)]at y;have a6:=am y;have cy:Iw b mb B s I wr s.size c s.size c:=⟨w.sc,w.mp,w.ly,bo _ _ _ _ (by rw[a1,<-a6.out]) b6 (ag _) w.ii,w.sz⟩;go_wp2_with fail;go_quiet (fail)
       go_wp2;rw[Cm];refine aL (jp rfl _ _ _) rfl ?_;exact⟨⟨_,rfl⟩,⟨c,E _ cy⟩,o _ b0⟩
    .have c9:=K;rw[az K]at bf;have c8:¬ja (aq s p)=O:=by rw[hbl];simp
     have bA:El s p:=⟨a3,c8,c9⟩;have bs:=nC s p a3;have d4:=λ(i:A1) (a7:Iw b mb B s I i p c p c) (cs:Int) (dc:iH b i s (.map (Ak mb)) cs p c Ax)=>ae5 s ds b mb i p c a3 dn (by omega) A z dc a7.mp a7.ly;have br:=λW=>cI p c W bA;have a2:=cB p c;go_quiet ((go_at_call 51;exact A5 (bf _)))
     go_wp2_with fail;have u:=E nq t;have av:=o nq F;have⟨ct,b2⟩:=u.sc;have bh:=d4 _ u ct b2;replace a2:=a2 _ bA u.ii;generalize bD.drewN nq=cp at u av bh b2⊢;generalize db s p=cl at bh bs br a2;obtain⟨ef,a5,bx,cb,cc,cd⟩:=cl;simp only at bh bs br a2;subst a2;refine bh.mono ?_;rintro e bj ⟨rfl,b3,ba⟩;have aK:=bd b3 av;have c6:=ai ba;have b7:=bs rfl;have b4:=World.grownBy_alloc bj (A0 #[U V cb,U V p,U V (a5:Int),U V c,U V cc,A2 cd] 49) (Ak b);have H:Iw b mb B s I bj a5 (c+bx) p c:=u.gr J A z (by omega) b3 ⟨_,ba⟩ id;have j:Iw b mb B s I (bj.alloc (A0 #[U V cb,U V p,U V (a5:Int),U V c,U V cc,A2 cd] 49)) a5 (c+bx) p c:=H.gr J A z (by omega) b4 ⟨_,(eI bj _ b c6).trans ba⟩ id;have G:=bd b4 aK;obtain⟨d9,tmps,d7,d8,b9,cF⟩:=br _ rfl j G;unfold vTk at b9;simp only at b9;have⟨L,ad,af,ak,al,an,ao,ap⟩:=ij ba;go_upto_region 8 with fail
     refine(sJ (n:=n)).1 ?_
     gi_wp2
     refine⟨λf=>by simp[Fence.wide]at f,cF.mono ?_⟩;rintro e d6 ⟨rfl,a9,cw⟩
     gi_wp2
     go_wp2;exact⟨⟨a5,c+bx,a9,cw⟩,by rw[C1.pos a9.sc,bk.out];omega⟩
  .obtain rfl:p=s.size:=by omega
   go_wp2_with fail;go_quiet (fail)
   go_wp2;try rw[Exit.noGoto_normal]
   go_end0
   exact⟨⟨_,rfl⟩,⟨c,E _ a0⟩,o _ b1⟩
