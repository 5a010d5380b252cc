import Derived.Test.YtnoojdbdapljoaaGreatDoorHOk45
import Derived.Test.YtnoojdbdapljoaaGreatDoorHOk25
import Derived.Lib.Repeat
import Derived.Sort.LoopGhostIn
import Derived.Test.YtnoojdbdapljoaaGreatDoorHOk40
import Derived.Test.YtnoojdbdapljoaaGreatDoorHOk17
set_option linter.all false
set_option maxRecDepth 100000
set_option maxHeartbeats 12800000
open Go.Lib renaming repeatL->M,asciiSpaceTab->A0,TabIs->A3
open Option renaming some->O,none->S
open Go.Proofs.Tryz renaming prog->Q
open Go.Ending renaming returned->R
open Go.Value renaming int->T,pointer->V,string->Z,bool->Ax,tuple->A1,slice->A5,iface->A6
open Go.IntKind renaming i64->U
open Go renaming World->W,Calls->Y,Value->A2,TypeId->A4
open Go.RowKit renaming Below->X
namespace Go.Proofs.YtnoojdbdapljoaaGreatDoor
open Go.RowKit Go.Maps Go.WideMaps
theorem aiJ(k:Int):fJ k=0\/fJ k=1\/fJ k=2\/fJ k=3\/fJ k=4\/fJ k=5\/fJ k=6:=by
 unfold fJ
 repeat' split
 all_goals simp
theorem aam(w:W)(b:Nat)(N:Nd)(vn y:A2)(z:Int)(u:∃a n c,vn= .slice a n c)(h:fE w b N vn z y):
  Y Q 66 #[gy N.k b] w fun e d=>e= .returned (dj (qp N (fJ N.k)) (aad vn (fJ N.k)) (.slice S 0 0))/\X w.heap.size w d:=by
 obtain⟨A,K,B,rfl⟩:=u;unfold fE at h;unfold gy;have H:=fun w=>ahg b w;have C:=fun w=>asT b w;have E:=fun w=>Ic b w;have x:=fun w=>eK b w;have F:=ax h;have G:b<w.heap.size+1:=by omega
 have I:b≠w.heap.size:=by omega
 have J:b≠w.heap.size+1:=by omega
 have s:∀g i,X w.heap.size w ((w.alloc g).alloc i).drew:=fun g i=>aL (((aj _ w).alloc (ah _) g).alloc (by simp) i);have c:=fun v=>az w b v _ _ _ h;have j:=c 0;have m:=c 1;have o:=c 2;have p:=c 3;have q:=c 6;have r:=c 7;clear c h;unfold dj;rcases aiJ N.k with hc|hc|hc|hc|hc|hc|hc;all_goals
  simp only[hc,exT,lG,qp,aad,fF,fd]at j m o p q r⊢;simp at j m o p q r;go_in;go_wp2_with (go_at_call 234;refine ee (x _) ?_);all_goals
   go_region_held3 (fun d=>d.cell? ⟨b,0,S⟩=O (.int .i64 N.k)/\d.cell? ⟨b,1,S⟩=O (.int .i64 N.f)/\d.cell? ⟨b,2,S⟩=O (.int .i64 N.t)/\d.cell? ⟨b,3,S⟩=O (.int .i64 N.l)) (go_keep) (fail)
   go_wp2_with fail;all_goals exact bB (gi rfl _ _ w.heap.size _ _ _ _ rfl ((dr _ _ _ (by simp)).trans (aw w _)) Tryz.underlying35 rfl (by kernel_rfl)) rfl ⟨by simp[*],s _ _⟩
def sj:Int->ByteArray
 |1=>⟨#[115,116,97,116,42]⟩
 |2=>⟨#[101,120,112,114,42]⟩
 |3=>⟨#[101,120,112,114]⟩
 |4=>⟨#[102,110]⟩
 |6=>⟨#[99,97,108,108]⟩
 |7=>⟨#[101,120,112,114,32,98,108,111,99,107,32,101,108,115,101,63]⟩
 |8=>⟨#[101,120,112,114,32,98,108,111,99,107]⟩
 |9=>⟨#[101,120,112,114,32,101,120,112,114,32,101,120,112,114,63,32,98,108,111,99,107]⟩
 |10=>⟨#[101,120,112,114,32,98,108,111,99,107]⟩
 |11=>⟨#[]⟩
 |12=>⟨#[]⟩
 |13=>⟨#[101,120,112,114,42]⟩
 |14=>⟨#[98,108,111,99,107,32,98,108,111,99,107]⟩
 |15=>⟨#[101,120,112,114]⟩
 |16=>⟨#[99,97,108,108]⟩
 |20=>⟨#[]⟩
 |21=>⟨#[]⟩
 |22=>⟨#[]⟩
 |23=>⟨#[]⟩
 |24=>⟨#[]⟩
 |25=>⟨#[]⟩
 |26=>⟨#[]⟩
 |27=>⟨#[]⟩
 |28=>⟨#[101,120,112,114,32,101,120,112,114]⟩
 |29=>⟨#[101,120,112,114,32,101,120,112,114]⟩
 |30=>⟨#[101,120,112,114]⟩
 |31=>⟨#[101,120,112,114,32,101,120,112,114]⟩
 |32=>⟨#[98,97,115,101,32,101,120,112,114]⟩
 |33=>⟨#[98,97,115,101]⟩
 |34=>⟨#[98,97,115,101,32,101,120,112,114,42]⟩
 |35=>⟨#[101,110,116,114,121,42]⟩
 |36=>⟨#[98,108,111,99,107]⟩
 |37=>⟨#[109,97,110,121]⟩
 |40=>⟨#[101,120,112,114]⟩
 |41=>⟨#[101,120,112,114,32,101,120,112,114]⟩
 |42=>⟨#[101,120,112,114]⟩
 |_=>⟨#[]⟩
def Ip:Int->Option (List (Nat×Nat))
 |1=>O [(0,1)]
 |2=>O [(3,1)]
 |3=>O [(3,0)]
 |4=>O [(8,0)]
 |6=>O [(6,0)]
 |7=>O [(3,0),(1,0),(2,2)]
 |8=>O [(3,0),(1,0)]
 |9=>O [(3,0),(3,0),(3,2),(1,0)]
 |10=>O [(3,0),(1,0)]
 |11=>O []
 |12=>O []
 |13=>O [(3,1)]
 |14=>O [(1,0),(1,0)]
 |15=>O [(3,0)]
 |16=>O [(6,0)]
 |20=>O []
 |21=>O []
 |22=>O []
 |23=>O []
 |24=>O []
 |25=>O []
 |26=>O []
 |27=>O []
 |28=>O [(3,0),(3,0)]
 |29=>O [(3,0),(3,0)]
 |30=>O [(3,0)]
 |31=>O [(3,0),(3,0)]
 |32=>O [(4,0),(3,0)]
 |33=>O [(4,0)]
 |34=>O [(4,0),(3,1)]
 |35=>O [(9,1)]
 |36=>O [(1,0)]
 |37=>O [(7,0)]
 |40=>O [(3,0)]
 |41=>O [(3,0),(3,0)]
 |42=>O [(3,0)]
 |_=>S
def kL:List Int:=[1,2,3,4,6,7,8,9,10,11,12,13,14,15,16,20,21,22,23,24,25,26,27,28,29,30,31,32,33,34,35,36,37,40,41,42]
theorem Dx(k:Int)(h:k ∉ kL):Ip k=S/\sj k=⟨#[]⟩:=by
 simp only[kL,iF,ld,lh,not_or]at h;obtain⟨a,j,v,F,J,K,L,ad,b,c,d,e,f,g,i,l,m,n,o,p,q,r,s,t,u,w,x,y,z,A,B,C,E,G,H,I⟩:=h;constructor
 ·unfold Ip;split<;>first|rfl|contradiction
 ·unfold sj;split<;>first|rfl|contradiction
theorem FJ(k:Int)(h:k∈kL):∃a,Ip k=O a/\Lib.fields (sj k).data.toList=a.map (fun x=>xa x.1 x.2)/\(∀x∈a,x.1<10/\x.2<3)/\(sj k).size<100/\(∀(j:Nat) b,(sj k).data.toList[j]?=O b->b.toNat<128)/\a.length<10:=by
 have d:∀(c:List UInt8),(c.all fun b=>decide (b.toNat<128))=true->∀(j:Nat) b,c[j]?=O b->b.toNat<128:=fun c f j b e=>by simpa using List.all_eq_true.1 f b (bC e)
 simp only[kL,iF,ld,lh]at h;rcases h with rfl|rfl|rfl|rfl|rfl|rfl|rfl|rfl|rfl|rfl|rfl|rfl|rfl|rfl|rfl|rfl|rfl|rfl|rfl|rfl|rfl|rfl|rfl|rfl|rfl|rfl|rfl|rfl|rfl|rfl|rfl|rfl|rfl|rfl|rfl|rfl;all_goals exact⟨_,rfl,rfl,by decide,by decide,d _ (by decide),by decide⟩
theorem adF(k:Int)(w:W)(h:k=1\/k=2\/k=3\/k=4\/k=6\/k=7\/k=8\/k=9\/k=10):Y Q 132 #[T U k] w fun e a=>e= R (A1 #[Z (sj k),Ax true])/\a=w:=by
 rcases h with rfl|rfl|rfl|rfl|rfl|rfl|rfl|rfl|rfl;all_goals
  simp only[sj];go_in;go_wp2;go_ret2;exact⟨rfl,rfl⟩
theorem adG(k:Int)(w:W)(h:k=11\/k=12\/k=13\/k=14\/k=15\/k=16\/k=20\/k=21\/k=22):Y Q 132 #[T U k] w fun e a=>e= R (A1 #[Z (sj k),Ax true])/\a=w:=by
 rcases h with rfl|rfl|rfl|rfl|rfl|rfl|rfl|rfl|rfl;all_goals
  simp only[sj];go_in;go_wp2;go_ret2;exact⟨rfl,rfl⟩
theorem adH(k:Int)(w:W)(h:k=23\/k=24\/k=25\/k=26\/k=27\/k=28\/k=29\/k=30\/k=31):Y Q 132 #[T U k] w fun e a=>e= R (A1 #[Z (sj k),Ax true])/\a=w:=by
 rcases h with rfl|rfl|rfl|rfl|rfl|rfl|rfl|rfl|rfl;all_goals
  simp only[sj];go_in;go_wp2;go_ret2;exact⟨rfl,rfl⟩
theorem adI(k:Int)(w:W)(h:k=32\/k=33\/k=34\/k=35\/k=36\/k=37\/k=40\/k=41\/k=42):Y Q 132 #[T U k] w fun e a=>e= R (A1 #[Z (sj k),Ax true])/\a=w:=by
 rcases h with rfl|rfl|rfl|rfl|rfl|rfl|rfl|rfl|rfl;all_goals
  simp only[sj];go_in;go_wp2;go_ret2;exact⟨rfl,rfl⟩
theorem aan(k:Int)(w:W)(h:k ∉ kL):Y Q 132 #[T U k] w fun e a=>e= R (A1 #[Z ⟨#[]⟩,Ax false])/\a=w:=by
 simp only[kL,iF,ld,lh,not_or]at h;obtain⟨b,m,y,I,ad,af,ak,am,c,d,f,g,i,j,l,n,o,p,q,r,s,t,u,v,x,z,A,B,C,E,F,G,H,J,K,L⟩:=h;go_in;go_wp2;go_ret2;exact⟨rfl,rfl⟩
theorem FL(k:Int)(w:W):Y Q 132 #[T U k] w fun e c=>e= R (A1 #[Z (sj k),Ax (Ip k).isSome])/\c=w:=by
 by_cases h:k∈kL
 ·obtain⟨d,a,_⟩:=FJ k h;rw[a,Option.isSome_some];simp only[kL,iF,ld,lh]at h;rcases(show(k=1\/k=2\/k=3\/k=4\/k=6\/k=7\/k=8\/k=9\/k=10)\/(k=11\/k=12\/k=13\/k=14\/k=15\/k=16\/k=20\/k=21\/k=22)\/(k=23\/k=24\/k=25\/k=26\/k=27\/k=28\/k=29\/k=30\/k=31)\/(k=32\/k=33\/k=34\/k=35\/k=36\/k=37\/k=40\/k=41\/k=42) by omega) with h|h|h|h
  ·exact adF k w h
  ·exact adG k w h
  ·exact adH k w h
  ·exact adI k w h
 ·obtain⟨a,b⟩:=Dx k h;rw[a,b];exact aan k w h
def aj9:ByteArray:=⟨#[116,97,114,103,101,116,32]⟩
def re(q:Nat):ByteArray:=⟨(M [116,97,114,103,101,116,32] q).toArray⟩
theorem rL(q:Nat):(re q).size=7*q:=by
 have a:(re q).size=(M [116,97,114,103,101,116,32] q).length:=by simp[re,ByteArray.size]
 rw[a,Lib.repeatL_length];simp;omega
theorem F3(a b:Nat):re (a+b)=re a++re b:=by
 apply rn;rw[jj];show(M _ (a+b)).toArray=(M _ a).toArray++(M _ b).toArray;rw[Lib.repeatL_add];simp
theorem aao(q d:Nat)(h:d<=q):(re q).extract 0 (7*d)=re d:=by
 obtain⟨b,rfl⟩:=Nat.exists_eq_add_of_le h;rw[F3];apply rn;rw[ByteArray.data_extract,jj];have a:(re d).data.size=7*d:=rL d;rw[<-a];apply Array.ext';simp;apply cw;rw[iq];exact ah _
theorem akB(b:Array A4)(t:A4)(x y z c:Int)(a:W)(h:(if z<(if y<x then y else x) then z else(if y<x then y else x))=c):
  (Builtin.min_ b t #[T U x,T U y,T U z]).run Q a= .ok (T U c) a:=by
 rw[<-h];simp[Builtin.min_,Builtin.min2]
theorem F4(m:Nat)(w:W)(bn:m+2<=200):
  Y Q 130 #[Z ⟨#[116,97,114,103,101,116,32]⟩,T U ((m+2:Nat):Int)] w fun e E=>e= R (Z (re (m+2)))/\X w.heap.size w E:=by
 have o:=Tryz.bits_Mul 7 (m+2) (by omega) (by omega) w;rw[Nat.div_eq_of_lt (by omega:7*(m+2)<18446744073709551616),Nat.mod_eq_of_lt (by omega:7*(m+2)<18446744073709551616)]at o;obtain⟨d,y⟩:=aA (7*(m+2));rw[y]at o;have j:=aq y;have bx:¬(9223372036854775807:Int)<(d:Int):=by omega
 have bA:¬(8192:Int)<(d:Int):=by omega
 have bD:((d:Int)==0)=false:=by rw[bg];omega
 have bE:(d:Int)<=1400:=by omega
 have bF:14<=d:=by omega
 have bs:((m:Int)+2==0)=false:=by rw[bg];omega
 have bt:((m:Int)+2==1)=false:=by rw[bg];omega
 have bw:¬(m:Int)+2<0:=by omega
 clear y;go_in;go_wp2_with (go_at_call 163;refine o.mono ?_;rintro e E ⟨rfl,rfl⟩);obtain⟨a,rfl⟩:∃a,a=E:=⟨_,rfl⟩;have an:=Ff a.heap.size a.heap.size d (a.alloc (.cells #[V S,A5 S 0 0] 68)) (ah _) (aw a _) (by simp) (by omega) (by omega);refine an.mono ?_;rintro e F ⟨rfl,L,ad⟩;have am:X a.heap.size a (a.alloc (.cells #[V S,A5 S 0 0] 68)):=(aj _ a).alloc (ah _) _;have t:X a.heap.size a F:=am.trans ad;have H:Bu a.heap.size a.heap.size ⟨#[]⟩ F:= .inr L;have A:=kJ a.heap.size a.heap.size ⟨#[]⟩ aj9 F H (by decide) t.size;rw[show(⟨#[]⟩:ByteArray)++aj9=re 1 from rfl]at A;have a2:=aq t;clear an L ad am H t o;go_wp2_with fail;refine A.mono ?_;rintro e ao ⟨rfl,I,af⟩;have a0:Hid (Bu a.heap.size a.heap.size (re 1) ao/\X a.heap.size a ao):=⟨I,a2.out.trans af⟩;clear A I af;go_wp2_with fail;go_loopg [] (m+1) (fun K av=>∃b:Nat,1<=b/\b+K=m+2/\Hid (Bu a.heap.size a.heap.size (re b) av/\X a.heap.size a av))
 case atStart=>exact⟨1,ah _,by omega,a0⟩
 case round=>
  obtain⟨b,bo,bp,h⟩:=hrel;have n:=Tryz.Builder_Len_f a.heap.size a.heap.size _ wr h.out.1;rw[Lib.strCells_length,rL]at n;have v:=ta a.heap.size a.heap.size _ wr h.out.1 h.out.2.size;obtain⟨g,p⟩:=aA (7*b);have i:=aq p;rw[p]at n;obtain⟨k,hS⟩:=aA (re b);have r:=aq hS;have a4:k.size=g:=by rw[<-hS,rL,p]
  rw[hS]at v;clear p hS;cases gk with
  |zero=>
   obtain rfl:b=m+2:=by omega
   have a3:¬((g:Int)<(d:Int)):=by have:=j.out;have:=i.out;omega
   go_wp2_with (first|(go_at_call 165;refine n.mono ?_;rintro e a7 ⟨rfl,z⟩;rw[z])|(go_at_call 23;refine v.mono ?_;rintro e ap ⟨rfl,s,q⟩));go_ret;exact⟨by rw[r.out];rfl,h.out.2.trans q⟩
  |succ K=>
   obtain⟨c,a5⟩:=aA (min (m+2-b) b);have bd:1<=c:=by omega
   have a6:c<=b:=by omega
   have bf:b+c<=m+2:=by omega
   obtain⟨f,x⟩:=aA (7*c);have a3:(g:Int)<(d:Int):=by have:=j.out;have:=i.out;omega
   have a9:f<=g:=by have:=i.out;omega
   have br:g+f<=d:=by have:=j.out;have:=i.out;omega
   have bl:∀(C:Array A4)(B:A4)(l:W),(Builtin.min_ C B #[T U ((d:Int)-(g:Int)),T U (g:Int),T U (d:Int)]).run Q l= .ok (T U (f:Int)) l:=fun C B l=>akB C B _ _ _ _ l (by
    have:=j.out;have:=i.out;split<;>split<;>omega)
   have G:Hid (7*c=f/\k.extract 0 f=re c):=⟨x,by rw[<-x,<-r.out];exact aao b c a6⟩;have a8:(0:Int)<=(f:Int):=by omega
   have bb:(f:Int)<=(k.size:Int):=by omega
   clear a5 x;go_wp2_with (first|(go_at_call 165;refine n.mono ?_;rintro e a7 ⟨rfl,z⟩;rw[z])|(go_at_call 23;refine v.mono ?_;rintro e ap ⟨rfl,s,q⟩));rw[G.out.2];have u:=h.out.2.trans q;refine(kJ a.heap.size a.heap.size k (re c) ap s (by rw[a4,rL,G.out.1];omega) u.size).mono ?_;rintro e ar ⟨rfl,J,ak⟩;have a1:Hid (Bu a.heap.size a.heap.size (re (b+c)) ar/\X a.heap.size a ar):=⟨by rw[F3,r.out];exact J,u.trans ak⟩;clear s q J ak u;go_wp2_with fail;go_roundg (m+2-(b+c))
   case measure=>omega
   case rel=>exact⟨b+c,by omega,by omega,a1⟩
theorem Iq(n:Nat)(w:W)(a:n<=200):
  Y Q 130 #[Z ⟨#[116,97,114,103,101,116,32]⟩,T U (n:Int)] w fun e b=>e= R (Z ⟨(M [116,97,114,103,101,116,32] n).toArray⟩)/\X w.heap.size w b:=by
 match n,a with
 |0,_=>
  go_in;go_wp2_with fail;go_ret;exact⟨rfl,aj _ _⟩
 |1,_=>
  go_in;go_wp2_with fail;go_ret;exact⟨rfl,aj _ _⟩
 |m+2,a=>exact F4 m w a
def Bj(n:Nat):List (Nat×Nat):=List.replicate n (5,0)++[(3,0),(3,1)]
def F5(n:Nat):ByteArray:=⟨(M [116,97,114,103,101,116,32] n).toArray⟩++⟨#[101,120,112,114,32,101,120,112,114,42]⟩
theorem wi(n:Nat):(F5 n).data.toList=M [116,97,114,103,101,116,32] n++[101,120,112,114,32,101,120,112,114,42]:=by
 unfold F5;rw[jj];simp
theorem xd:∀n,Lib.fields (M [116,97,114,103,101,116,32] n++[101,120,112,114,32,101,120,112,114,42])=(Bj n).map fun x=>xa x.1 x.2
 |0=>by decide
 |n+1=>by
  have b:=xd n;have a:Lib.fields (M [116,97,114,103,101,116,32] (n+1)++[101,120,112,114,32,101,120,112,114,42])=[116,97,114,103,101,116]::Lib.fields (M [116,97,114,103,101,116,32] n++[101,120,112,114,32,101,120,112,114,42]):=by
   rw[M];rfl
  rw[a,b];rfl
theorem Ir(n:Nat):∀(j:Nat) b,(F5 n).data.toList[j]?=O b->b.toNat<128:=by
 rw[wi];have c:∀(a:List UInt8),(a.all fun b=>decide (b.toNat<128))=true->∀b∈a,b.toNat<128:=fun a d b hb=>by simpa using List.all_eq_true.1 d b hb
 have e:∀n,∀b∈M [116,97,114,103,101,116,32] n,b.toNat<128:=by
  intro n
  induction n with
  |zero=>intro b hb;simp[M]at hb
  |succ n f=>
   intro b hb;rw[M]at hb;rcases List.mem_append.1 hb with hb|hb
   ·exact c _ (by decide) b hb
   ·exact f b hb
 intro j b hb;rcases List.mem_append.1 (bC hb) with h|h
 ·exact e n b h
 ·exact c _ (by decide) b h
theorem aap(n:Nat):(F5 n).size=7*n+10:=by
 have a:=congrArg List.length (wi n);rw[aC,Lib.repeatL_length]at a;simp at a;have b:(F5 n).size=(F5 n).data.size:=rfl;omega
theorem agy(n:Nat):∀x∈Bj n,x.1<10/\x.2<3:=by
 intro x hx;unfold Bj at hx;rcases List.mem_append.1 hx with hx|hx
 ·rw[(List.mem_replicate.1 hx).2];decide
 ·simp at hx;rcases hx with rfl|rfl<;>decide
theorem F6(w:W)(b:Nat)(v u y x z:Int)(n:Nat)(r:n<=200)(vk:A2)(ks:List Int)(h:gq w vk ks)(q:ks.length<=1048576)(k:∀a,X w.heap.size w a->A3 Q a "strings.asciiSpace" .u8 A0)
  (g:w.heap[b]?=O (.cells #[T U v,T U u,T U y,T U x,T U z,vk,T U (n:Int)] 169 (0,0))):
  Y Q 68 #[A6 167 (V (O ⟨b,0,S⟩))] w fun e A=>e= R (Ax (eA (Bj n) ks))/\X w.heap.size w A:=by
 have H:=fun w=>asT b w 167 (by decide);have i:=Iq n w r;have c:=fun a (j:X w.heap.size w a)=>sy a (F5 n) (Bj n) vk ks (by rw[wi];exact xd n) (agy n) (by rw[aap];omega) (Ir n) (k a j) (h.below j) q (by unfold Bj;rw[aC,List.length_replicate];simp;omega);obtain⟨m,o,rfl⟩:=h.form;have d:w.cell? ⟨b,5,S⟩=O (A5 m ks.length o):=by rw[az _ _ _ _ _ _ g];rfl
 have G:w.cell? ⟨b,6,S⟩=O (T U (n:Int)):=by rw[az _ _ _ _ _ _ g];rfl
 have I:((⟨#[101,120,112,114,32,101,120,112,114,42]⟩:ByteArray)).size=10:=rfl;have s:((⟨(M [116,97,114,103,101,116,32] n).toArray⟩:ByteArray)).size=7*n:=by
  have e:((⟨(M [116,97,114,103,101,116,32] n).toArray⟩:ByteArray)).size=(M [116,97,114,103,101,116,32] n).length:=by simp[ByteArray.size]
  rw[e,Lib.repeatL_length];simp;omega
 unfold F5 at c;generalize eA (Bj n) ks=E at c⊢;generalize ks.length=C at c d;generalize (⟨(M [116,97,114,103,101,116,32] n).toArray⟩:ByteArray)=F at c i s;have l:=aq d;clear g h k d;go_in;go_wp2_with fail;refine i.mono ?_;rintro e B ⟨rfl,f⟩;have d:=cell_kept f l.out;have t:=c B f;clear c i;go_wp2_with fail;refine t.mono ?_;rintro e J ⟨rfl,p⟩;go_wp2_with fail;go_ret;exact⟨rfl,f.trans (p.mono f.size)⟩
theorem asS(k:Int)(h:fJ k≠1)(b:Nat)(w:W):(Instr.typeAssert (A6 (lG (fJ k)) (V (O ⟨b,0,S⟩))) 53 167 true).run Q w= .ok (A1 #[V S,Ax false]) w:=by
 have a:=h;rcases wh k with g|g|g|g|g|g|g<;>rw[g]at a⊢;all_goals first|exact absurd rfl a|exact Ic b w _ _ (by decide) (by decide) (by decide)
def rkB(k:Int)(ks:List Int):Bool:=match Ip k with|some a=>eA a ks|none=>false
theorem F7(w:W)(b:Nat)(k:Int)(i:fJ k≠1)(vk:A2)(ks:List Int)(f:gq w vk ks)(v:ks.length<=1048576)(j:A3 Q w "strings.asciiSpace" .u8 A0)
  (E:w.cell? ⟨b,0,S⟩=O (T U k)) (r:w.cell? ⟨b,5,S⟩=O vk):
  Y Q 68 #[gy k b] w fun e y=>e= R (Ax (rkB k ks))/\X w.heap.size w y:=by
 have n:=fun w=>asS k i b w;have o:=fun w=>ma k b w;have p:=fun w=>eK b w;have a:=fun w=>FL k w;unfold gy rkB;by_cases g:k∈kL
 ·obtain⟨q,c,d,l,s,m,t⟩:=FJ k g;have h:=sy w (sj k) q vk ks d l (by omega) m j f v (by omega);rw[c]at a⊢;simp only[Option.isSome_some]at a⊢;obtain⟨C,F,rfl⟩:=f.form;generalize ks.length=z at h r;generalize eA q ks=A at h⊢;generalize sj k=B at h a;generalize lG (fJ k)=x at n o⊢;clear f j d l s m t c g i;go_in;go_wp2_with (first|(go_at_call 234;refine ee (p _) ?_)|(go_at_call 132;refine ee (a _) ?_)|(go_at_call 131;refine h.mono ?_;rintro e G ⟨rfl,u⟩));go_ret;exact⟨rfl,u⟩
 ·obtain⟨c,d⟩:=Dx k g;rw[c,d]at a;rw[c];simp only[Option.isSome_none]at a⊢;generalize lG (fJ k)=x at n o⊢;clear f j g i c d;go_in;go_wp2_with (first|(go_at_call 234;refine ee (p _) ?_)|(go_at_call 132;refine ee (a _) ?_));go_ret;exact⟨rfl,aj _ _⟩
def ffB(N:Nd)(a:Nat):Nat->Bool
 |0=>decide (1<=(N.nm.length:Int)/\(N.nm.length:Int)<=zK N.k)&&qE N.nm N.nm.length 0
 |1=>decide (1<=N.n/\N.n<(a:Int))
 |2=>true
 |3=>txB N.k N.x
 |4=>if N.k=30 then(decide ((19:Int)<=N.op)&&decide (N.op<=22)) else(decide ((1:Int)<=N.op)&&decide (N.op<=18))
 |5=>qE N.nm N.nm.length 0
 |_=>true
theorem Bk(w:W)(lb mb:Nat)(j:A2)(h:Lk w lb mb j)(b:Nat)(N:Nd)(vn:A2)(c:Int)(o:Option Addr)(i ck:Nat)(y:i<=1048576)(q:bu w vn N.nm)(p:N.nm.length<=1048576)(r:∀s∈N.nm,s.size<=1048576)(A:N.x.size<=1048576)(a:fE w b N vn c (A5 o i ck)):
  Y Q 67 #[V (O ⟨lb,0,S⟩),gy N.k b] w fun e d=>e= R (Ax (ffB N i (fJ N.k)))/\X w.heap.size w d:=by
 unfold fE at a;unfold gy;have g:∀{m:Bool},(Y Q 67 #[V (O ⟨lb,0,S⟩),A6 (lG (fJ N.k)) (V (O ⟨b,0,S⟩))] w fun e d=>e= R (Ax m)/\d=w)->(Y Q 67 #[V (O ⟨lb,0,S⟩),A6 (lG (fJ N.k)) (V (O ⟨b,0,S⟩))] w fun e d=>e= R (Ax m)/\X w.heap.size w d):=fun z=>z.mono fun e d ⟨u,v⟩=>⟨u,v ▸ aj _ _⟩;rcases wh N.k with hc|hc|hc|hc|hc|hc|hc
 ·refine g ?_;rw[hc]at a⊢;exact ff0 w lb mb j h b N.k N.f N.t N.l c _ vn N.nm q p r a
 ·rw[hc]at a⊢;exact ff1 w lb b N.k N.f N.t N.l c N.n o i ck y a
 ·refine g ?_;rw[hc]at a⊢;exact ff2 w lb b
 ·rw[hc]at a⊢;exact ff3 w lb mb j h b N.k N.f N.t N.l c _ N.x (by omega) a
 ·refine g ?_;rw[hc]at a⊢;exact ff4 w lb b N.k N.f N.t N.l c N.op _ a
 ·refine g ?_;rw[hc]at a⊢;exact ff5 w lb mb j h b N.k N.f N.t N.l c _ vn (decide (N.op=1)) N.nm q p r a
 ·refine g ?_;rw[hc]at a⊢;exact ff6 w lb b
theorem fE.cells{a:W}{b:Nat}{N:Nd}{vn c:A2}{d:Int}(h:fE a b N vn d c):a.cell? ⟨b,0,S⟩=O (T U N.k)/\a.cell? ⟨b,1,S⟩=O (T U N.f)/\a.cell? ⟨b,2,S⟩=O (T U N.t)/\a.cell? ⟨b,4,S⟩=O (T U d)/\a.cell? ⟨b,5,S⟩=O c/\∀j,a.frozen? ⟨b,j,S⟩=false:=by
 unfold fE at h;refine⟨?_,?_,?_,?_,?_,fun j=>du _ _ _ _ _ h⟩
 ·rw[az _ _ _ _ _ _ h];simp
 ·rw[az _ _ _ _ _ _ h];simp
 ·rw[az _ _ _ _ _ _ h];simp
 ·rw[az _ _ _ _ _ _ h];simp
 ·rw[az _ _ _ _ _ _ h];simp
def kfB(N:Nd)(ks:List Int):Bool:=if fJ N.k=1 then eA (Bj N.n.toNat) ks else rkB N.k ks
theorem F8(w:W)(b:Nat)(N:Nd)(vn d:A2)(m:Int)(ks:List Int)(h:gq w d ks)(i:ks.length<=1048576)(j:∀g,X w.heap.size w g->A3 Q g "strings.asciiSpace" .u8 A0)(c:fE w b N vn m d)(q:fJ N.k=1->0<=N.n/\N.n<=200):
  Y Q 68 #[gy N.k b] w fun e r=>e= R (Ax (kfB N ks))/\X w.heap.size w r:=by
 unfold kfB;by_cases a:fJ N.k=1
 ·rw[ab a];obtain⟨s,u⟩:=q a;unfold fE at c;unfold gy;rw[a]at c⊢;have e:N.n=((N.n.toNat:Nat):Int):=by omega
  refine F6 w b N.k N.f N.t N.l m N.n.toNat (by omega) d ks h i j ?_;rw[<-e];exact c
 ·rw[aa a];obtain⟨o,_,_,_,p,_⟩:=c.cells;exact F7 w b N.k a d ks h i (j w (aj _ _)) o p
