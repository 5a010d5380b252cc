import Derived.Test.YthjpdjibdnecoaaGreatDoorHQk46
import Derived.Test.YthjpdjibdnecoaaGreatDoorHQk33
import Derived.Test.YthjpdjibdnecoaaGreatDoorHQk21
import Derived.Test.YthjpdjibdnecoaaGreatDoorHQk18
set_option linter.all false
set_option maxRecDepth 100000
set_option maxHeartbeats 6400000
open Option renaming some->M,none->S
open Go.Lib renaming repeatL->O,asciiSpaceTab->Ax,TabIs->A3
open Go.Proofs.Tryz renaming prog->Q
open Go.Ending renaming returned->R
open Go.Value renaming pointer->T,int->U,bool->X,string->A0,tuple->A1,iface->A4
open Go.IntKind renaming i64->V
open Go renaming World->Y,Calls->Z,Value->A2
namespace Go.Proofs.YthjpdjibdnecoaaGreatDoor
open Go.RowKit
def uB:Int->ByteArray
 |1=>⟨#[115,116,97,116,42]⟩
 |2=>⟨#[101,120,112,114,42]⟩
 |3=>⟨#[101,120,112,114]⟩
 |4=>⟨#[102,110]⟩
 |6=>⟨#[99,97,108,108]⟩
 |7=>⟨#[101,120,112,114,32,98,108,111,99,107,32,101,108,115,101,63]⟩
 |8=>⟨#[101,120,112,114,32,98,108,111,99,107]⟩
 |9=>⟨#[101,120,112,114,32,101,120,112,114,32,101,120,112,114,63,32,98,108,111,99,107]⟩
 |10=>⟨#[101,120,112,114,32,98,108,111,99,107]⟩
 |11=>⟨#[]⟩
 |12=>⟨#[]⟩
 |13=>⟨#[101,120,112,114,42]⟩
 |14=>⟨#[98,108,111,99,107,32,98,108,111,99,107]⟩
 |15=>⟨#[101,120,112,114]⟩
 |16=>⟨#[99,97,108,108]⟩
 |20=>⟨#[]⟩
 |21=>⟨#[]⟩
 |22=>⟨#[]⟩
 |23=>⟨#[]⟩
 |24=>⟨#[]⟩
 |25=>⟨#[]⟩
 |26=>⟨#[]⟩
 |27=>⟨#[]⟩
 |28=>⟨#[101,120,112,114,32,101,120,112,114]⟩
 |29=>⟨#[101,120,112,114,32,101,120,112,114]⟩
 |30=>⟨#[101,120,112,114]⟩
 |31=>⟨#[101,120,112,114,32,101,120,112,114]⟩
 |32=>⟨#[98,97,115,101,32,101,120,112,114]⟩
 |33=>⟨#[98,97,115,101]⟩
 |34=>⟨#[98,97,115,101,32,101,120,112,114,42]⟩
 |35=>⟨#[101,110,116,114,121,42]⟩
 |36=>⟨#[98,108,111,99,107]⟩
 |37=>⟨#[109,97,110,121]⟩
 |40=>⟨#[101,120,112,114]⟩
 |41=>⟨#[101,120,112,114,32,101,120,112,114]⟩
 |42=>⟨#[101,120,112,114]⟩
 |_=>⟨#[]⟩
def KL:Int->Option (List (Nat×Nat))
 |1=>M [(0,1)]
 |2=>M [(3,1)]
 |3=>M [(3,0)]
 |4=>M [(8,0)]
 |6=>M [(6,0)]
 |7=>M [(3,0),(1,0),(2,2)]
 |8=>M [(3,0),(1,0)]
 |9=>M [(3,0),(3,0),(3,2),(1,0)]
 |10=>M [(3,0),(1,0)]
 |11=>M []
 |12=>M []
 |13=>M [(3,1)]
 |14=>M [(1,0),(1,0)]
 |15=>M [(3,0)]
 |16=>M [(6,0)]
 |20=>M []
 |21=>M []
 |22=>M []
 |23=>M []
 |24=>M []
 |25=>M []
 |26=>M []
 |27=>M []
 |28=>M [(3,0),(3,0)]
 |29=>M [(3,0),(3,0)]
 |30=>M [(3,0)]
 |31=>M [(3,0),(3,0)]
 |32=>M [(4,0),(3,0)]
 |33=>M [(4,0)]
 |34=>M [(4,0),(3,1)]
 |35=>M [(9,1)]
 |36=>M [(1,0)]
 |37=>M [(7,0)]
 |40=>M [(3,0)]
 |41=>M [(3,0),(3,0)]
 |42=>M [(3,0)]
 |_=>S
def mc:List Int:=[1,2,3,4,6,7,8,9,10,11,12,13,14,15,16,20,21,22,23,24,25,26,27,28,29,30,31,32,33,34,35,36,37,40,41,42]
theorem Ga(k:Int)(h:k ∉ mc):KL k=S/\uB k=⟨#[]⟩:=by
 simp only[mc,kG,nh,ny,not_or]at h;obtain⟨a,j,v,F,J,K,L,ad,b,c,d,e,f,g,i,l,m,n,o,p,q,r,s,t,u,w,x,y,z,A,B,C,E,G,H,I⟩:=h;constructor
 ·unfold KL;split<;>first|rfl|contradiction
 ·unfold uB;split<;>first|rfl|contradiction
theorem IL(k:Int)(h:k∈mc):∃a,KL k=M a/\Lib.fields (uB k).data.toList=a.map (fun x=>zG x.1 x.2)/\(∀x∈a,x.1<10/\x.2<3)/\(uB k).size<100/\(∀(j:Nat) b,(uB k).data.toList[j]?=M b->b.toNat<128)/\a.length<10:=by
 have d:∀(c:List UInt8),(c.all fun b=>decide (b.toNat<128))=true->∀(j:Nat) b,c[j]?=M b->b.toNat<128:=fun c f j b e=>by simpa using List.all_eq_true.1 f b (cJ e)
 simp only[mc,kG,nh,ny]at h;rcases h with rfl|rfl|rfl|rfl|rfl|rfl|rfl|rfl|rfl|rfl|rfl|rfl|rfl|rfl|rfl|rfl|rfl|rfl|rfl|rfl|rfl|rfl|rfl|rfl|rfl|rfl|rfl|rfl|rfl|rfl|rfl|rfl|rfl|rfl|rfl|rfl;all_goals exact⟨_,rfl,rfl,by decide,by decide,d _ (by decide),by decide⟩
theorem afj(k:Int)(w:Y)(h:k=1\/k=2\/k=3\/k=4\/k=6\/k=7\/k=8\/k=9\/k=10):Z Q 193 #[U V k] w fun e a=>e= R (A1 #[A0 (uB k),X true])/\a=w:=by
 rcases h with rfl|rfl|rfl|rfl|rfl|rfl|rfl|rfl|rfl;all_goals
  simp only[uB];go_in;go_wp2;go_ret2;exact⟨rfl,rfl⟩
theorem afk(k:Int)(w:Y)(h:k=11\/k=12\/k=13\/k=14\/k=15\/k=16\/k=20\/k=21\/k=22):Z Q 193 #[U V k] w fun e a=>e= R (A1 #[A0 (uB k),X true])/\a=w:=by
 rcases h with rfl|rfl|rfl|rfl|rfl|rfl|rfl|rfl|rfl;all_goals
  simp only[uB];go_in;go_wp2;go_ret2;exact⟨rfl,rfl⟩
theorem afl(k:Int)(w:Y)(h:k=23\/k=24\/k=25\/k=26\/k=27\/k=28\/k=29\/k=30\/k=31):Z Q 193 #[U V k] w fun e a=>e= R (A1 #[A0 (uB k),X true])/\a=w:=by
 rcases h with rfl|rfl|rfl|rfl|rfl|rfl|rfl|rfl|rfl;all_goals
  simp only[uB];go_in;go_wp2;go_ret2;exact⟨rfl,rfl⟩
theorem afm(k:Int)(w:Y)(h:k=32\/k=33\/k=34\/k=35\/k=36\/k=37\/k=40\/k=41\/k=42):Z Q 193 #[U V k] w fun e a=>e= R (A1 #[A0 (uB k),X true])/\a=w:=by
 rcases h with rfl|rfl|rfl|rfl|rfl|rfl|rfl|rfl|rfl;all_goals
  simp only[uB];go_in;go_wp2;go_ret2;exact⟨rfl,rfl⟩
theorem ace(k:Int)(w:Y)(h:k ∉ mc):Z Q 193 #[U V k] w fun e a=>e= R (A1 #[A0 ⟨#[]⟩,X false])/\a=w:=by
 simp only[mc,kG,nh,ny,not_or]at h;obtain⟨b,m,y,I,ad,af,ak,al,c,d,f,g,i,j,l,n,o,p,q,r,s,t,u,v,x,z,A,B,C,E,F,G,H,J,K,L⟩:=h;go_in;go_wp2;go_ret2;exact⟨rfl,rfl⟩
theorem I0(k:Int)(w:Y):Z Q 193 #[U V k] w fun e c=>e= R (A1 #[A0 (uB k),X (KL k).isSome])/\c=w:=by
 by_cases h:k∈mc
 ·obtain⟨d,a,_⟩:=IL k h;rw[a,Option.isSome_some];simp only[mc,kG,nh,ny]at h;rcases(show(k=1\/k=2\/k=3\/k=4\/k=6\/k=7\/k=8\/k=9\/k=10)\/(k=11\/k=12\/k=13\/k=14\/k=15\/k=16\/k=20\/k=21\/k=22)\/(k=23\/k=24\/k=25\/k=26\/k=27\/k=28\/k=29\/k=30\/k=31)\/(k=32\/k=33\/k=34\/k=35\/k=36\/k=37\/k=40\/k=41\/k=42) by omega) with h|h|h|h
  ·exact afj k w h
  ·exact afk k w h
  ·exact afl k w h
  ·exact afm k w h
 ·obtain⟨a,b⟩:=Ga k h;rw[a,b];exact ace k w h
def De(n:Nat):List (Nat×Nat):=List.replicate n (5,0)++[(3,0),(3,1)]
def setB(n:Nat):ByteArray:=⟨(O [116,97,114,103,101,116,32] n).toArray⟩++⟨#[101,120,112,114,32,101,120,112,114,42]⟩
theorem zb(n:Nat):(setB n).data.toList=O [116,97,114,103,101,116,32] n++[101,120,112,114,32,101,120,112,114,42]:=by
 unfold setB;rw[me];simp
theorem zI:∀n,Lib.fields (O [116,97,114,103,101,116,32] n++[101,120,112,114,32,101,120,112,114,42])=(De n).map fun x=>zG x.1 x.2
 |0=>by decide
 |n+1=>by
  have b:=zI n;have a:Lib.fields (O [116,97,114,103,101,116,32] (n+1)++[101,120,112,114,32,101,120,112,114,42])=[116,97,114,103,101,116]::Lib.fields (O [116,97,114,103,101,116,32] n++[101,120,112,114,32,101,120,112,114,42]):=by
   rw[O];rfl
  rw[a,b];rfl
theorem K6(n:Nat):∀(j:Nat) b,(setB n).data.toList[j]?=M b->b.toNat<128:=by
 rw[zb];have c:∀(a:List UInt8),(a.all fun b=>decide (b.toNat<128))=true->∀b∈a,b.toNat<128:=fun a d b hb=>by simpa using List.all_eq_true.1 d b hb
 have e:∀n,∀b∈O [116,97,114,103,101,116,32] n,b.toNat<128:=by
  intro n
  induction n with
  |zero=>intro b hb;simp[O]at hb
  |succ n f=>
   intro b hb;rw[O]at hb;rcases List.mem_append.1 hb with hb|hb
   ·exact c _ (by decide) b hb
   ·exact f b hb
 intro j b hb;rcases List.mem_append.1 (cJ hb) with h|h
 ·exact e n b h
 ·exact c _ (by decide) b h
theorem acf(n:Nat):(setB n).size=7*n+10:=by
 have a:=congrArg List.length (zb n);rw[aH,Lib.repeatL_length]at a;simp at a;have b:(setB n).size=(setB n).data.size:=rfl;omega
theorem ahI(n:Nat):∀x∈De n,x.1<10/\x.2<3:=by
 intro x hx;unfold De at hx;rcases List.mem_append.1 hx with hx|hx
 ·rw[(List.mem_replicate.1 hx).2];decide
 ·simp at hx;rcases hx with rfl|rfl<;>decide
theorem I1(w:Y)(b:Nat)(nk t v u x:Int)(n:Nat)(q:n<=200)(vk:A2)(ks:List Int)(g:gB w vk ks)(p:ks.length<=1048576)(j:∀W,Below w.heap.size w W->A3 Q W "strings.asciiSpace" .u8 Ax)
  (f:w.heap[b]?=M (.cells #[U V nk,U V t,U V v,U V u,U V x,vk,U V (n:Int)] 212 (0,0))):
  Z Q 140 #[A4 210 (T (M ⟨b,0,S⟩))] w fun e y=>e= R (X (eE (De n) ks))/\Below w.heap.size w y:=by
 have F:=fun w=>asT b w 210 (by decide);have h:=J4 n w q;have a:=fun W (i:Below w.heap.size w W)=>vw W (setB n) (De n) vk ks (by rw[zb];exact zI n) (ahI n) (by rw[acf];omega) (K6 n) (j W i) (g.below i) p (by unfold De;rw[aH,List.length_replicate];simp;omega);obtain⟨l,m,rfl⟩:=g.form;have c:w.cell? ⟨b,5,S⟩=M (.slice l ks.length m):=by rw[aq _ _ _ _ _ _ f];rfl
 have E:w.cell? ⟨b,6,S⟩=M (U V (n:Int)):=by rw[aq _ _ _ _ _ _ f];rfl
 have G:((⟨#[101,120,112,114,32,101,120,112,114,42]⟩:ByteArray)).size=10:=rfl;have r:((⟨(O [116,97,114,103,101,116,32] n).toArray⟩:ByteArray)).size=7*n:=by
  have e:((⟨(O [116,97,114,103,101,116,32] n).toArray⟩:ByteArray)).size=(O [116,97,114,103,101,116,32] n).length:=by simp[ByteArray.size]
  rw[e,Lib.repeatL_length];simp;omega
 unfold setB at a;generalize eE (De n) ks=B at a⊢;generalize ks.length=A at a c;generalize (⟨(O [116,97,114,103,101,116,32] n).toArray⟩:ByteArray)=C at a h r;have k:=aw c;clear f g j c;go_in;go_wp2_with fail;refine h.mono ?_;rintro e z ⟨rfl,d⟩;have c:=ai d k.out;have s:=a z d;clear a h;go_wp2_with fail;refine s.mono ?_;rintro e H ⟨rfl,o⟩;go_wp2_with fail;go_ret;exact⟨rfl,d.trans (o.mono d.size)⟩
theorem asS(k:Int)(h:dF k≠1)(b:Nat)(w:Y):(Instr.typeAssert (A4 (nH (dF k)) (T (M ⟨b,0,S⟩))) 102 210 true).run Q w= .ok (A1 #[T S,X false]) w:=by
 have a:=h;rcases Cw k with g|g|g|g|g|g|g<;>rw[g]at a⊢;all_goals first|exact absurd rfl a|exact asF b w _ _ (by decide) (by decide) (by decide)
def rkB(k:Int)(ks:List Int):Bool:=match KL k with|some a=>eE a ks|none=>false
theorem I2(w:Y)(b:Nat)(k:Int)(i:dF k≠1)(vk:A2)(ks:List Int)(f:gB w vk ks)(v:ks.length<=1048576)(j:A3 Q w "strings.asciiSpace" .u8 Ax)
  (E:w.cell? ⟨b,0,S⟩=M (U V k)) (r:w.cell? ⟨b,5,S⟩=M vk):
  Z Q 140 #[ey k b] w fun e y=>e= R (X (rkB k ks))/\Below w.heap.size w y:=by
 have n:=fun w=>asS k i b w;have o:=fun w=>qH k b w;have p:=fun w=>eA b w;have a:=fun w=>I0 k w;unfold ey rkB;by_cases g:k∈mc
 ·obtain⟨q,c,d,l,s,m,t⟩:=IL k g;have h:=vw w (uB k) q vk ks d l (by omega) m j f v (by omega);rw[c]at a⊢;simp only[Option.isSome_some]at a⊢;obtain⟨C,F,rfl⟩:=f.form;generalize ks.length=z at h r;generalize eE q ks=A at h⊢;generalize uB k=B at h a;generalize nH (dF k)=x at n o⊢;clear f j d l s m t c g i;go_in;go_wp2_with (first|(go_at_call 301;refine dK (p _) ?_)|(go_at_call 193;refine dK (a _) ?_)|(go_at_call 192;refine h.mono ?_;rintro e G ⟨rfl,u⟩));go_ret;exact⟨rfl,u⟩
 ·obtain⟨c,d⟩:=Ga k g;rw[c,d]at a;rw[c];simp only[Option.isSome_none]at a⊢;generalize nH (dF k)=x at n o⊢;clear f j g i c d;go_in;go_wp2_with (first|(go_at_call 301;refine dK (p _) ?_)|(go_at_call 193;refine dK (a _) ?_));go_ret;exact⟨rfl,ag _ _⟩
open Go.Maps Go.WideMaps
def ffB(N:Nd)(a:Nat):Nat->Bool
 |0=>decide (1<=(N.nm.length:Int)/\(N.nm.length:Int)<=BE N.k)&&vG N.nm N.nm.length 0
 |1=>decide (1<=N.n/\N.n<(a:Int))
 |2=>true
 |3=>txB N.k N.x
 |4=>if N.k=30 then(decide ((19:Int)<=N.op)&&decide (N.op<=22)) else(decide ((1:Int)<=N.op)&&decide (N.op<=18))
 |5=>vG N.nm N.nm.length 0
 |_=>true
theorem Df(w:Y)(lb mb:Nat)(j:A2)(h:Lk w lb mb j)(b:Nat)(N:Nd)(vn:A2)(c:Int)(o:Option Addr)(i p:Nat)(z:i<=1048576)(r:cH w vn N.nm)(q:N.nm.length<=1048576)(u:∀s∈N.nm,s.size<=1048576)(B:N.x.size<=1048576)(a:fy w b N vn c (.slice o i p)):
  Z Q 139 #[T (M ⟨lb,0,S⟩),ey N.k b] w fun e d=>e= R (X (ffB N i (dF N.k)))/\Below w.heap.size w d:=by
 unfold fy at a;unfold ey;have g:∀{m:Bool},(Z Q 139 #[T (M ⟨lb,0,S⟩),A4 (nH (dF N.k)) (T (M ⟨b,0,S⟩))] w fun e d=>e= R (X m)/\d=w)->(Z Q 139 #[T (M ⟨lb,0,S⟩),A4 (nH (dF N.k)) (T (M ⟨b,0,S⟩))] w fun e d=>e= R (X m)/\Below w.heap.size w d):=fun A=>A.mono fun e d ⟨v,y⟩=>⟨v,y ▸ ag _ _⟩;rcases Cw N.k with hc|hc|hc|hc|hc|hc|hc
 ·refine g ?_;rw[hc]at a⊢;exact ff0 w lb mb j h b N.k N.f N.t N.l c _ vn N.nm r q u a
 ·rw[hc]at a⊢;exact ff1 w lb b N.k N.f N.t N.l c N.n o i p z a
 ·refine g ?_;rw[hc]at a⊢;exact ff2 w lb b
 ·rw[hc]at a⊢;exact ff3 w lb mb j h b N.k N.f N.t N.l c _ N.x (by omega) a
 ·refine g ?_;rw[hc]at a⊢;exact ff4 w lb b N.k N.f N.t N.l c N.op _ a
 ·refine g ?_;rw[hc]at a⊢;exact ff5 w lb mb j h b N.k N.f N.t N.l c _ vn (decide (N.op=1)) N.nm r q u a
 ·refine g ?_;rw[hc]at a⊢;exact ff6 w lb b
theorem fy.cells{W:Y}{b:Nat}{N:Nd}{vn a:A2}{c:Int}(h:fy W b N vn c a):W.cell? ⟨b,0,S⟩=M (U V N.k)/\W.cell? ⟨b,1,S⟩=M (U V N.f)/\W.cell? ⟨b,2,S⟩=M (U V N.t)/\W.cell? ⟨b,4,S⟩=M (U V c)/\W.cell? ⟨b,5,S⟩=M a/\∀j,W.frozen? ⟨b,j,S⟩=false:=by
 unfold fy at h;refine⟨?_,?_,?_,?_,?_,fun j=>cC _ _ _ _ _ h⟩
 ·rw[aq _ _ _ _ _ _ h];simp
 ·rw[aq _ _ _ _ _ _ h];simp
 ·rw[aq _ _ _ _ _ _ h];simp
 ·rw[aq _ _ _ _ _ _ h];simp
 ·rw[aq _ _ _ _ _ _ h];simp
def kfB(N:Nd)(ks:List Int):Bool:=if dF N.k=1 then eE (De N.n.toNat) ks else rkB N.k ks
theorem I3(w:Y)(b:Nat)(N:Nd)(vn d:A2)(j:Int)(ks:List Int)(g:gB w d ks)(h:ks.length<=1048576)(i:∀W,Below w.heap.size w W->A3 Q W "strings.asciiSpace" .u8 Ax)(c:fy w b N vn j d)(p:dF N.k=1->0<=N.n/\N.n<=200):
  Z Q 140 #[ey N.k b] w fun e q=>e= R (X (kfB N ks))/\Below w.heap.size w q:=by
 unfold kfB;by_cases a:dF N.k=1
 ·rw[ab a];obtain⟨r,s⟩:=p a;unfold fy at c;unfold ey;rw[a]at c⊢;have e:N.n=((N.n.toNat:Nat):Int):=by omega
  refine I1 w b N.k N.f N.t N.l j N.n.toNat (by omega) d ks g h i ?_;rw[<-e];exact c
 ·rw[aa a];obtain⟨m,_,_,_,o,_⟩:=c.cells;exact I2 w b N.k a d ks g h (i w (ag _ _)) m o
