import Derived.Test.YtnlhhmlcjbohbaaGreatDoorHNk18
import Derived.Test.YtnlhhmlcjbohbaaGreatDoorHNk20
set_option linter.all false
set_option maxRecDepth 100000
set_option maxHeartbeats 12800000
open Option renaming some->M,none->O
open Go.Proofs.Tryz renaming prog->Q
open Go.RowKit renaming Below->R,Hid->Ck
open Go renaming Value->S,World->X,Calls->A9,TypeId->Ce
open Go.Lib renaming repeatL->T,asciiSpaceTab->V,TabIs->B1
open Go.Ending renaming returned->U
open Go.Value renaming slice->Y,ownBlock->Z,int->Ax,pointer->A5,bool->Br,slice->B0,string->B6,tuple->B7,iface->Cr,nilIface->C2
open Go.IntKind renaming i64->A0
open Go.Obj renaming cells->A2
open Bool renaming false->B3,true->B4
namespace Go.Proofs.YtnlhhmlcjbohbaaGreatDoor
open Go.RowKit
variable{N:Nd}{W W' w0:World}{b bn lb mb p:Nat}{kv vk vn vs:Value}
def wH:Int->ByteArray
 |1=>⟨#[115,116,97,116,42]⟩
 |2=>⟨#[101,120,112,114,42]⟩
 |3=>⟨#[101,120,112,114]⟩
 |4=>⟨#[102,110]⟩
 |6=>⟨#[99,97,108,108]⟩
 |7=>⟨#[101,120,112,114,32,98,108,111,99,107,32,101,108,115,101,63]⟩
 |8=>⟨#[101,120,112,114,32,98,108,111,99,107]⟩
 |9=>⟨#[101,120,112,114,32,101,120,112,114,32,101,120,112,114,63,32,98,108,111,99,107]⟩
 |10=>⟨#[101,120,112,114,32,98,108,111,99,107]⟩
 |11=>⟨#[]⟩
 |12=>⟨#[]⟩
 |13=>⟨#[101,120,112,114,42]⟩
 |14=>⟨#[98,108,111,99,107,32,98,108,111,99,107]⟩
 |15=>⟨#[101,120,112,114]⟩
 |16=>⟨#[99,97,108,108]⟩
 |20=>⟨#[]⟩
 |21=>⟨#[]⟩
 |22=>⟨#[]⟩
 |23=>⟨#[]⟩
 |24=>⟨#[]⟩
 |25=>⟨#[]⟩
 |26=>⟨#[]⟩
 |27=>⟨#[]⟩
 |28=>⟨#[101,120,112,114,32,101,120,112,114]⟩
 |29=>⟨#[101,120,112,114,32,101,120,112,114]⟩
 |30=>⟨#[101,120,112,114]⟩
 |31=>⟨#[101,120,112,114,32,101,120,112,114]⟩
 |32=>⟨#[98,97,115,101,32,101,120,112,114]⟩
 |33=>⟨#[98,97,115,101]⟩
 |34=>⟨#[98,97,115,101,32,101,120,112,114,42]⟩
 |35=>⟨#[101,110,116,114,121,42]⟩
 |36=>⟨#[98,108,111,99,107]⟩
 |37=>⟨#[109,97,110,121]⟩
 |40=>⟨#[101,120,112,114]⟩
 |41=>⟨#[101,120,112,114,32,101,120,112,114]⟩
 |42=>⟨#[101,120,112,114]⟩
 |_=>⟨#[]⟩
def abt:Int->Option (List (Nat×Nat))
 |1=>M [(0,1)]
 |2=>M [(3,1)]
 |3=>M [(3,0)]
 |4=>M [(8,0)]
 |6=>M [(6,0)]
 |7=>M [(3,0),(1,0),(2,2)]
 |8=>M [(3,0),(1,0)]
 |9=>M [(3,0),(3,0),(3,2),(1,0)]
 |10=>M [(3,0),(1,0)]
 |11=>M []
 |12=>M []
 |13=>M [(3,1)]
 |14=>M [(1,0),(1,0)]
 |15=>M [(3,0)]
 |16=>M [(6,0)]
 |20=>M []
 |21=>M []
 |22=>M []
 |23=>M []
 |24=>M []
 |25=>M []
 |26=>M []
 |27=>M []
 |28=>M [(3,0),(3,0)]
 |29=>M [(3,0),(3,0)]
 |30=>M [(3,0)]
 |31=>M [(3,0),(3,0)]
 |32=>M [(4,0),(3,0)]
 |33=>M [(4,0)]
 |34=>M [(4,0),(3,1)]
 |35=>M [(9,1)]
 |36=>M [(1,0)]
 |37=>M [(7,0)]
 |40=>M [(3,0)]
 |41=>M [(3,0),(3,0)]
 |42=>M [(3,0)]
 |_=>O
def nI:List Int:=[1,2,3,4,6,7,8,9,10,11,12,13,14,15,16,20,21,22,23,24,25,26,27,28,29,30,31,32,33,34,35,36,37,40,41,42]
theorem IL(k:Int)(h:k ∉ nI):abt k=O/\wH k=⟨#[]⟩:=by
 simp only[nI,pd,ta,tm,not_or]at h;obtain⟨a,j,v,E,I,J,K,L,b,c,d,e,f,g,i,l,m,n,o,p,q,r,s,t,u,w,x,y,z,n34,A,B,C,F,G,H⟩:=h;constructor
 ·unfold abt;split<;>first|rfl|contradiction
 ·unfold wH;split<;>first|rfl|contradiction
theorem Lu(k:Int)(h:k∈nI):∃a,abt k=M a/\Lib.fields (wH k).data.toList=a.map (fun x=>Bn x.1 x.2)/\(∀x∈a,x.1<10/\x.2<3)/\(wH k).size<100/\(∀(j:Nat) b,(wH k).data.toList[j]?=M b->b.toNat<128)/\a.length<10:=by
 have d:∀(c:List UInt8),(c.all fun b=>decide (b.toNat<128))=B4->∀(j:Nat) b,c[j]?=M b->b.toNat<128:=fun c f j b e=>by simpa using List.all_eq_true.1 f b (cG e)
 simp only[nI,pd,ta,tm]at h;rcases h with rfl|rfl|rfl|rfl|rfl|rfl|rfl|rfl|rfl|rfl|rfl|rfl|rfl|rfl|rfl|rfl|rfl|rfl|rfl|rfl|rfl|rfl|rfl|rfl|rfl|rfl|rfl|rfl|rfl|rfl|rfl|rfl|rfl|rfl|rfl|rfl;all_goals exact⟨_,rfl,rfl,by decide,by decide,d _ (by decide),by decide⟩
theorem ain(k:Int)(w:X)(h:k=1\/k=2\/k=3\/k=4\/k=6\/k=7\/k=8\/k=9\/k=10):A9 Q 192 #[Ax A0 k] w fun e a=>e= U (B7 #[B6 (wH k),Br B4])/\a=w:=by
 rcases h with rfl|rfl|rfl|rfl|rfl|rfl|rfl|rfl|rfl;all_goals
  simp only[wH];go_in;go_wp2;go_ret2;exact⟨rfl,rfl⟩
theorem aio(k:Int)(w:X)(h:k=11\/k=12\/k=13\/k=14\/k=15\/k=16\/k=20\/k=21\/k=22):A9 Q 192 #[Ax A0 k] w fun e a=>e= U (B7 #[B6 (wH k),Br B4])/\a=w:=by
 rcases h with rfl|rfl|rfl|rfl|rfl|rfl|rfl|rfl|rfl;all_goals
  simp only[wH];go_in;go_wp2;go_ret2;exact⟨rfl,rfl⟩
theorem aip(k:Int)(w:X)(h:k=23\/k=24\/k=25\/k=26\/k=27\/k=28\/k=29\/k=30\/k=31):A9 Q 192 #[Ax A0 k] w fun e a=>e= U (B7 #[B6 (wH k),Br B4])/\a=w:=by
 rcases h with rfl|rfl|rfl|rfl|rfl|rfl|rfl|rfl|rfl;all_goals
  simp only[wH];go_in;go_wp2;go_ret2;exact⟨rfl,rfl⟩
theorem aiq(k:Int)(w:X)(h:k=32\/k=33\/k=34\/k=35\/k=36\/k=37\/k=40\/k=41\/k=42):A9 Q 192 #[Ax A0 k] w fun e a=>e= U (B7 #[B6 (wH k),Br B4])/\a=w:=by
 rcases h with rfl|rfl|rfl|rfl|rfl|rfl|rfl|rfl|rfl;all_goals
  simp only[wH];go_in;go_wp2;go_ret2;exact⟨rfl,rfl⟩
theorem ae2(k:Int)(w:X)(h:k ∉ nI):A9 Q 192 #[Ax A0 k] w fun e a=>e= U (B7 #[B6 ⟨#[]⟩,Br B3])/\a=w:=by
 simp only[nI,pd,ta,tm,not_or]at h;obtain⟨b,m,y,H,L,ad,af,ag,c,d,f,g,i,j,l,n,o,p,q,r,s,t,u,v,x,z,A,B,C,n34,E,F,G,I,J,K⟩:=h;go_in;go_wp2;go_ret2;exact⟨rfl,rfl⟩
theorem Lx(k:Int)(w:X):A9 Q 192 #[Ax A0 k] w fun e c=>e= U (B7 #[B6 (wH k),Br (abt k).isSome])/\c=w:=by
 by_cases h:k∈nI
 ·obtain⟨d,a,_⟩:=Lu k h;rw[a,Option.isSome_some];simp only[nI,pd,ta,tm]at h;rcases(show(k=1\/k=2\/k=3\/k=4\/k=6\/k=7\/k=8\/k=9\/k=10)\/(k=11\/k=12\/k=13\/k=14\/k=15\/k=16\/k=20\/k=21\/k=22)\/(k=23\/k=24\/k=25\/k=26\/k=27\/k=28\/k=29\/k=30\/k=31)\/(k=32\/k=33\/k=34\/k=35\/k=36\/k=37\/k=40\/k=41\/k=42) by omega) with h|h|h|h
  ·exact ain k w h
  ·exact aio k w h
  ·exact aip k w h
  ·exact aiq k w h
 ·obtain⟨a,b⟩:=IL k h;rw[a,b];exact ae2 k w h
def E3(n:Nat):List (Nat×Nat):=List.replicate n (5,0)++[(3,0),(3,1)]
def setB(n:Nat):ByteArray:=⟨(T [116,97,114,103,101,116,32] n).toArray⟩++⟨#[101,120,112,114,32,101,120,112,114,42]⟩
theorem AK(n:Nat):(setB n).data.toList=T [116,97,114,103,101,116,32] n++[101,120,112,114,32,101,120,112,114,42]:=by
 unfold setB;rw[oa];simp
theorem Bv:∀n,Lib.fields (T [116,97,114,103,101,116,32] n++[101,120,112,114,32,101,120,112,114,42])=(E3 n).map fun x=>Bn x.1 x.2
 |0=>by decide
 |n+1=>by
  have b:=Bv n;have a:Lib.fields (T [116,97,114,103,101,116,32] (n+1)++[101,120,112,114,32,101,120,112,114,42])=[116,97,114,103,101,116]::Lib.fields (T [116,97,114,103,101,116,32] n++[101,120,112,114,32,101,120,112,114,42]):=by
   rw[T];rfl
  rw[a,b];rfl
theorem abu(n:Nat):∀(j:Nat) b,(setB n).data.toList[j]?=M b->b.toNat<128:=by
 rw[AK];have c:∀(a:List UInt8),(a.all fun b=>decide (b.toNat<128))=B4->∀b∈a,b.toNat<128:=fun a d b hb=>by simpa using List.all_eq_true.1 d b hb
 have e:∀n,∀b∈T [116,97,114,103,101,116,32] n,b.toNat<128:=by
  intro n
  induction n with
  |zero=>intro b hb;simp[T]at hb
  |succ n f=>
   intro b hb;rw[T]at hb;rcases List.mem_append.1 hb with hb|hb
   ·exact c _ (by decide) b hb
   ·exact f b hb
 intro j b hb;rcases List.mem_append.1 (cG hb) with h|h
 ·exact e n b h
 ·exact c _ (by decide) b h
theorem ae3(n:Nat):(setB n).size=7*n+10:=by
 have a:=congrArg List.length (AK n);rw[aB,Lib.repeatL_length]at a;simp at a;omega
theorem alk(n:Nat):∀x∈E3 n,x.1<10/\x.2<3:=by
 intro x hx;unfold E3 at hx;rcases List.mem_append.1 hx with hx|hx
 ·rw[(List.mem_replicate.1 hx).2];decide
 ·simp at hx;rcases hx with rfl|rfl<;>decide
theorem Ly(w:X)(b:Nat)(nk t v u x:Int)(n:Nat)(q:n<=200)(vk:S)(ks:List Int)(g:iq w vk ks)(p:ks.length<=1048576)(j:∀W,R w.heap.size w W->B1 Q W "strings.asciiSpace" .u8 V)
  (f:w.heap[b]?=M (A2 #[Ax A0 nk,Ax A0 t,Ax A0 v,Ax A0 u,Ax A0 x,vk,Ax A0 (n:Int)] 164 (0,0))):
  A9 Q 149 #[Cr 162 (A5 (M ⟨b,0,O⟩))] w fun e y=>e= U (Br (fH (E3 n) ks))/\R w.heap.size w y:=by
 have F:=fun w=>asT b w 162 (by decide);have h:=aa1 n w q;have a:=fun W (i:R w.heap.size w W)=>xg W (setB n) (E3 n) vk ks (by rw[AK];exact Bv n) (alk n) (by rw[ae3];omega) (abu n) (j W i) (g.below i) p (by unfold E3;rw[aB,List.length_replicate];simp;omega);obtain⟨l,m,rfl⟩:=g.form;have c:w.cell? ⟨b,5,O⟩=M (B0 l ks.length m):=by rw[au _ _ _ _ _ _ f];rfl
 have E:w.cell? ⟨b,6,O⟩=M (Ax A0 (n:Int)):=by rw[au _ _ _ _ _ _ f];rfl
 have r:((⟨(T [116,97,114,103,101,116,32] n).toArray⟩:ByteArray)).size=7*n:=by
  have e:((⟨(T [116,97,114,103,101,116,32] n).toArray⟩:ByteArray)).size=(T [116,97,114,103,101,116,32] n).length:=by simp[ByteArray.size]
  rw[e,Lib.repeatL_length];simp;omega
 unfold setB at a;generalize fH (E3 n) ks=B at a⊢;generalize ks.length=A at a c;generalize (⟨(T [116,97,114,103,101,116,32] n).toArray⟩:ByteArray)=C at a h r;have k:=aw c;clear f g j c;go_in;go_wp21
 refine h.mono ?_;rintro e z ⟨rfl,d⟩;have c:=aj d k.out;have s:=a z d;clear a h;go_wp21
 refine s.mono ?_;rintro e G ⟨rfl,o⟩;go_wp21
 go_ret;exact⟨rfl,d.trans (o.mono d.size)⟩
theorem asS(k:Int)(h:ez k≠1)(b:Nat)(w:X):(Instr.typeAssert (Cr (pv (ez k)) (A5 (M ⟨b,0,O⟩))) 72 162 B4).run Q w= .ok (B7 #[A5 O,Br B3]) w:=by
 have a:=h;rcases DA k with g|g|g|g|g|g|g<;>rw[g]at a⊢;all_goals first|exact absurd rfl a|exact asF b w _ _ (by decide) (by decide) (by decide)
def rkB(k:Int)(ks:List Int):Bool:=match abt k with|some a=>fH a ks|none=>B3
theorem Lz(w:X)(b:Nat)(k:Int)(i:ez k≠1)(vk:S)(ks:List Int)(f:iq w vk ks)(v:ks.length<=1048576)(j:B1 Q w "strings.asciiSpace" .u8 V)
  (E:w.cell? ⟨b,0,O⟩=M (Ax A0 k)) (r:w.cell? ⟨b,5,O⟩=M vk):
  A9 Q 149 #[fl k b] w fun e y=>e= U (Br (rkB k ks))/\R w.heap.size w y:=by
 have n:=fun w=>asS k i b w;have o:=fun w=>sD k b w;have p:=fun w=>fx b w;have a:=fun w=>Lx k w;unfold fl rkB;by_cases g:k∈nI
 ·obtain⟨q,c,d,l,s,m,t⟩:=Lu k g;have h:=xg w (wH k) q vk ks d l (by omega) m j f v (by omega);rw[c]at a⊢;simp only[Option.isSome_some]at a⊢;obtain⟨C,F,rfl⟩:=f.form;generalize ks.length=z at h r;generalize fH q ks=A at h⊢;generalize wH k=B at h a;generalize pv (ez k)=x at n o⊢;clear f j d l s m t c g i;go_in;go_wp2_with (first|(go_at_call 285;refine eH (p _) ?_)|(go_at_call 192;refine eH (a _) ?_)|(go_at_call 191;refine h.mono ?_;rintro e G ⟨rfl,u⟩));go_ret;exact⟨rfl,u⟩
 ·obtain⟨c,d⟩:=IL k g;rw[c,d]at a;rw[c];simp only[Option.isSome_none]at a⊢;generalize pv (ez k)=x at n o⊢;clear f j g i c d;go_in;go_wp2_with (first|(go_at_call 285;refine eH (p _) ?_)|(go_at_call 192;refine eH (a _) ?_));go_ret;exact⟨rfl,ah _ _⟩
open Go.Maps Go.WideMaps
def ffB(N:Nd)(a:Nat):Nat->Bool
 |0=>decide (1<=(N.nm.length:Int)/\(N.nm.length:Int)<=DD N.k)&&ve N.nm N.nm.length 0
 |1=>decide (1<=N.n/\N.n<(a:Int))
 |2=>B4
 |3=>txB N.k N.x
 |4=>if N.k=30 then(decide ((19:Int)<=N.op)&&decide (N.op<=22)) else(decide ((1:Int)<=N.op)&&decide (N.op<=18))
 |5=>ve N.nm N.nm.length 0
 |_=>B4
theorem E4(w:X)(lb mb:Nat)(j:S)(h:Lk w lb mb j)(b:Nat)(N:Nd)(vn:S)(c:Int)(o:Option Addr)(i ck:Nat)(y:i<=1048576)(q:dA w vn N.nm)(p:N.nm.length<=1048576)(r:∀s∈N.nm,s.size<=1048576)(A:N.x.size<=1048576)(a:gy w b N vn c (B0 o i ck)):
  A9 Q 148 #[A5 (M ⟨lb,0,O⟩),fl N.k b] w fun e d=>e= U (Br (ffB N i (ez N.k)))/\R w.heap.size w d:=by
 unfold gy at a;unfold fl;have g:∀{m:Bool},(A9 Q 148 #[A5 (M ⟨lb,0,O⟩),Cr (pv (ez N.k)) (A5 (M ⟨b,0,O⟩))] w fun e d=>e= U (Br m)/\d=w)->(A9 Q 148 #[A5 (M ⟨lb,0,O⟩),Cr (pv (ez N.k)) (A5 (M ⟨b,0,O⟩))] w fun e d=>e= U (Br m)/\R w.heap.size w d):=fun z=>z.mono fun e d ⟨u,v⟩=>⟨u,v ▸ ah _ _⟩;rcases DA N.k with hc|hc|hc|hc|hc|hc|hc
 ·refine g ?_;rw[hc]at a⊢;exact ff0 w lb mb j h b N.k N.f N.t N.l c _ vn N.nm q p r a
 ·rw[hc]at a⊢;exact ff1 w lb b N.k N.f N.t N.l c N.n o i ck y a
 ·refine g ?_;rw[hc]at a⊢;exact ff2 w lb b
 ·rw[hc]at a⊢;exact ff3 w lb mb j h b N.k N.f N.t N.l c _ N.x (by omega) a
 ·refine g ?_;rw[hc]at a⊢;exact ff4 w lb b N.k N.f N.t N.l c N.op _ a
 ·refine g ?_;rw[hc]at a⊢;exact ff5 w lb mb j h b N.k N.f N.t N.l c _ vn (decide (N.op=1)) N.nm q p r a
 ·refine g ?_;rw[hc]at a⊢;exact ff6 w lb b
theorem gy.cells{a:Int}(h:gy W b N vn a kv):W.cell? ⟨b,0,O⟩=M (Ax A0 N.k)/\W.cell? ⟨b,1,O⟩=M (Ax A0 N.f)/\W.cell? ⟨b,2,O⟩=M (Ax A0 N.t)/\W.cell? ⟨b,4,O⟩=M (Ax A0 a)/\W.cell? ⟨b,5,O⟩=M kv/\∀j,W.frozen? ⟨b,j,O⟩=B3:=by
 unfold gy at h;refine⟨?_,?_,?_,?_,?_,fun j=>bI _ _ _ _ _ h⟩
 ·rw[au _ _ _ _ _ _ h];simp
 ·rw[au _ _ _ _ _ _ h];simp
 ·rw[au _ _ _ _ _ _ h];simp
 ·rw[au _ _ _ _ _ _ h];simp
 ·rw[au _ _ _ _ _ _ h];simp
def kfB(N:Nd)(ks:List Int):Bool:=if ez N.k=1 then fH (E3 N.n.toNat) ks else rkB N.k ks
theorem LA(w:X)(b:Nat)(N:Nd)(vn d:S)(j:Int)(ks:List Int)(g:iq w d ks)(h:ks.length<=1048576)(i:∀W,R w.heap.size w W->B1 Q W "strings.asciiSpace" .u8 V)(c:gy w b N vn j d)(p:ez N.k=1->0<=N.n/\N.n<=200):
  A9 Q 149 #[fl N.k b] w fun e q=>e= U (Br (kfB N ks))/\R w.heap.size w q:=by
 unfold kfB;by_cases a:ez N.k=1
 ·rw[ab a];obtain⟨r,s⟩:=p a;unfold gy at c;unfold fl;rw[a]at c⊢;have e:N.n=((N.n.toNat:Nat):Int):=by omega
  refine Ly w b N.k N.f N.t N.l j N.n.toNat (by omega) d ks g h i ?_;rw[<-e];exact c
 ·rw[aa a];obtain⟨m,_,_,_,o,_⟩:=c.cells;exact Lz w b N.k a d ks g h (i w (ah _ _)) m o
structure Im where
 N:Nd
 b:Nat
 vn:S
 kv:S
def nV(x:Im):S:=fl x.N.k x.b
def qx(a:List Im)(ks:List Int):List S:=ks.map fun c=>match a[c.toNat]? with|some b=>nV b|none=> C2
structure mq (W:X) (base:Nat) (vs:S) (L:List Im):Prop where
 row:W.ownsRow base 72 1 vs L.length (L.map nV)
 box:∀(i:Nat) x,L[i]?=M x->gy W x.b x.N x.vn i x.kv
 kid:∀(i:Nat) x,L[i]?=M x->W.ownsRow base 72 1 x.kv x.N.ks.length (qx (L.take i) x.N.ks)
 far:∀x∈L,x.kv.ownBlock=O\/x.kv.ownBlock≠vs.ownBlock
 rng:∀(i:Nat) x z,L[i]?=M x->z∈x.N.ks->0<=z/\z<(i:Int)
theorem gy.below{a:Int}(h:gy W b N vn a kv)(c:R W.heap.size W W'):gy W' b N vn a kv:=(c.block _ (ai h)).trans h
theorem mq.below{base:Nat}{e:List Im}(h:mq W base vs e)(a:R W.heap.size W W'):mq W' base vs e:=
 ⟨bJ h.row a,fun c d b=>(h.box c d b).below a,fun c d b=>bJ (h.kid c d b) a,h.far,h.rng⟩
theorem rK{a:Nat}{f g:Array S}{d e:Ce}{h i:Nat×Nat}(j:W.heap[a]?=M (A2 f d h))(k:W.heap[b]?=M (A2 g e i))(l:d≠e):a≠b:=by
 rintro rfl;have c:=j.symm.trans k;simp only[eA,jw]at c;exact l c.2.1
theorem qy(c:Nat):wu c≠72/\wu c≠178/\wu c≠111:=by
 unfold wu;split<;>decide
theorem Eu{cs:Array S}{t:Ce}{f:Nat×Nat}(h:W.ownsMap Q 9 (plainElem (H:=Unit) Q 3) mb 22 (yA 22))(c:W.heap[b]?=M (A2 cs t f)):mb≠b:=by
 rintro rfl;obtain⟨e,d,a,g⟩:=h;rw[c]at a;cases a
def adn(W:X)(g:Nat):Prop:=∃a,W.heap[g]?=M (A2 a 72 (0,0))
theorem pH{base n g:Nat}{v:S}{i:List S}(h:W.ownsRow base 72 1 v n i)(b:v.ownBlock=M g):adn W g/\base<=g:=by
 rcases bq h with⟨_,rfl⟩|⟨d,j,rfl⟩
 ·simp[Z]at b
 ·obtain rfl:d=g:=by simpa [Z] using b
  rcases h.2 with⟨a,_⟩|⟨l,k,c,a,e,f,_⟩
  ·cases a
  ·cases a;exact⟨⟨c,f⟩,e⟩
structure BH (w0:X) (lb mb p bn:Nat) (vs:S) (L:List Im) (N:Nd) (vn vk kv:S) (j:Nat) (W:X):Prop where
 lk:Lk W lb mb vs
 ns:mq W w0.heap.size vs L
 rb:qJ p W 111 N vn vk
 bx:gy W bn N vn L.length kv
 kr:W.ownsRow w0.heap.size 72 1 kv j (qx L (N.ks.take j))
 fr:kv.ownBlock=O\/kv.ownBlock≠vs.ownBlock
 fo:∀x∈L,x.kv.ownBlock=O\/x.kv.ownBlock≠kv.ownBlock
 bl:R w0.heap.size w0 W
 lo:w0.heap.size<=lb/\w0.heap.size<=bn/\w0.heap.size<=p
theorem BH.below{b:List Im}{j:Nat}(h:BH w0 lb mb p bn vs b N vn vk kv j W)(a:R W.heap.size W W'):BH w0 lb mb p bn vs b N vn vk kv j W':=
 ⟨h.lk.below a,h.ns.below a,h.rb.below a,h.bx.below a,bJ h.kr a,h.fr,h.fo,h.bl.trans (a.mono h.bl.size),h.lo⟩
theorem BH.kid{l:List Im}{j:Nat}(am:oE w0)(h:BH w0 lb mb p bn vs l N vn vk kv j W)(t:W.grownBy W' kv.ownBlock){g f H:Nat}(w:W'.ownsRow w0.heap.size 72 1 (B0 (M ⟨g,0,O⟩) (j+1) f) (j+1) (qx l (N.ks.take (j+1))))(al:kv.ownBlock=M g\/g=H)(ap:W.heap.size=H):
  gy W' bn N vn l.length kv/\BH w0 lb mb p bn vs l N vn vk (B0 (M ⟨g,0,O⟩) (j+1) f) (j+1) (W'.setCell ⟨bn,5,O⟩ (B0 (M ⟨g,0,O⟩) (j+1) f)):=by
 have B:∀a,kv.ownBlock=M a->adn W a/\w0.heap.size<=a:=fun a u=>pH h.kr u;have y:∀{q:Nat}{r:Array S}{k:Ce},W.heap[q]?=M (A2 r k (0,0))->k≠72->W'.heap[q]?=M (A2 r k (0,0)):=fun d C=>
  (t.block _ (ai d) (fun e=>by obtain⟨⟨v,s⟩,_⟩:=B _ e.symm;exact rK d s C rfl)).trans d
 have n:gy W' bn N vn l.length kv:=y h.bx (qy _).1;have af:R w0.heap.size w0 W':=h.bl.grown t h.bl.size (fun a u=>(B a u).2);have I:R w0.heap.size w0 (W'.setCell ⟨bn,5,O⟩ (B0 (M ⟨g,0,O⟩) (j+1) f)):=af.setCell h.lo.2.1 _;have set:∀{q:Nat}{r:Array S}{k:Ce},W'.heap[q]?=M (A2 r k (0,0))->k≠wu (ez N.k)->(W'.setCell ⟨bn,5,O⟩ (B0 (M ⟨g,0,O⟩) (j+1) f)).heap[q]?=M (A2 r k (0,0)):=fun d C=>
  (aC _ _ _ _ (fun e=>by exact rK d n C e)).trans d
 have E:∀{K:S}{J:Nat}{ad:List S},W'.ownsRow w0.heap.size 72 1 K J ad->(W'.setCell ⟨bn,5,O⟩ (B0 (M ⟨g,0,O⟩) (j+1) f)).ownsRow w0.heap.size 72 1 K J ad:=fun w=>
  w.kept (row:=M bn) ⟨rfl,rfl,rfl,by simp[World.setCell],fun a u o=>aC _ _ _ _ (fun e=>o (by rw[e]))⟩ (by
   cases hv:Z _ with
   |none=>exact .inl rfl
   |some a=>exact .inr (fun e=>by obtain⟨⟨v,s⟩,_⟩:=pH w hv;obtain rfl:=bu e;exact rK n s (qy _).1 rfl))
 have L:vs.ownBlock=O\/vs.ownBlock≠kv.ownBlock:=by
  rcases h.fr with e|e
  ·cases hv:vs.ownBlock with
   |none=>exact .inl rfl
   |some a=>rw[e];exact .inr (by simp)
  ·exact .inr (dz e)
 have F:∀a,a<W.heap.size->kv.ownBlock≠M a->M g≠M a:=fun a u o e=>by
  obtain rfl:=bu e;rcases al with e2|e2
  ·exact o e2
  ·omega
 refine⟨n,⟨⟨set (y h.lk.b (by decide)) (dz (qy _).2.1),?_,am.keep I⟩,⟨E (h.ns.row.kept t L),?_,?_,h.ns.far,h.ns.rng⟩,set (y h.rb (by decide)) (dz (qy _).2.2),?_,E w,?_,?_,I,h.lo⟩⟩
 ·have G:=ub h.lk.m (t.block _ h.lk.m.lt (fun e=>by obtain⟨⟨v,s⟩,_⟩:=B _ e.symm;exact Eu h.lk.m s rfl));exact ub G (aC _ _ _ _ (fun e=>by exact Eu G n e))
 ·intro i b c;have d:=y (h.ns.box i b c) (qy _).1;by_cases o:b.b=bn
  ·exfalso;have z:=h.ns.box i b c;have e2:=h.bx;unfold gy at z e2;rw[o,e2]at z;have ag:=congrArg (fun ao=>match ao with|some (Obj.cells v _ _)=>v[4]?|_=>O) z;simp at ag;have ar:i<l.length:=(List.getElem?_eq_some_iff.1 c).1;omega
  ·exact(aC _ _ _ _ o).trans d
 ·intro i b c;exact E ((h.ns.kid i b c).kept t (h.fo b (cG c)))
 ·unfold gy at n⊢;have:=aL W' bn 5 _ _ (B0 (M ⟨g,0,O⟩) (j+1) f) n;rw[this];simp
 ·refine .inr fun e=>?_;have x:=e.symm;have A:=(h.ns.row.lt g x).2;exact F g A (by rcases L with e2|e2;rw[e2]at x;cases x;rw[x]at e2;exact dz e2) rfl
 ·intro b c;cases hxk:b.kv.ownBlock with
  |none=>exact .inl rfl
  |some a=>
   refine .inr fun e=>?_;obtain⟨i,an,ak⟩:=il c;have A:=((h.ns.kid i b (by rw[aE an,ak])).lt a hxk).2;refine F a A ?_ e.symm;rcases h.fo b c with e2|e2
   ·rw[hxk]at e2;cases e2
   ·rw[hxk]at e2;exact dz e2
theorem BH.start{w:X}{a:List Im}(v:oE w0)(t:mq w w0.heap.size vs a)(C:w.heap.size<=bn)(x:lb≠bn)(y:p≠bn)(lk:Lk W lb mb vs)(ns:mq W w0.heap.size vs a)(z:qJ p W 111 N vn vk)(e:gy W bn N vn 0 (B0 O 0 0))(s:R w0.heap.size w0 W)(lo:w0.heap.size<=lb/\w0.heap.size<=bn/\w0.heap.size<=p):
  BH w0 lb mb p bn vs a N vn vk (B0 O 0 0) 0 (W.setCell ⟨bn,4,O⟩ (Ax A0 a.length)):=by
 have k:R w0.heap.size w0 (W.setCell ⟨bn,4,O⟩ (Ax A0 a.length)):=s.setCell lo.2.1 _;have g:∀{h:Nat},h≠bn->(W.setCell ⟨bn,4,O⟩ (Ax A0 a.length)).heap[h]?=W.heap[h]?:=fun i=>aC _ _ _ _ i;have o:∀{q:S}{n:Nat}{r:List S},W.ownsRow w0.heap.size 72 1 q n r->(W.setCell ⟨bn,4,O⟩ (Ax A0 a.length)).ownsRow w0.heap.size 72 1 q n r:=fun j=>
  j.kept (row:=M bn) ⟨rfl,rfl,rfl,by simp[World.setCell],fun l B i=>aC _ _ _ _ (fun c=>i (by rw[c]))⟩ (by
   cases hv:Z _ with
   |none=>exact .inl rfl
   |some l=>exact .inr (fun c=>by obtain⟨⟨A,u⟩,_⟩:=pH j hv;obtain rfl:=bu c;exact rK e u (qy _).1 rfl))
 refine⟨⟨(g x).trans lk.b,ub lk.m (g (fun c=>Eu lk.m e c)),v.keep k⟩,⟨o ns.row,fun f b d=>?_,fun f b d=>o (ns.kid f b d),ns.far,ns.rng⟩,(g y).trans z,?_,?_,.inl rfl,fun b d=>?_,k,lo⟩
 ·have:=ai (t.box f b d);exact(g (by omega)).trans (ns.box f b d)
 ·unfold gy at e⊢;have:=aL W bn 4 _ _ (Ax A0 a.length) e;rw[this];simp
 ·rw[Gn];exact cE _ _ _ _
 ·cases b.kv.ownBlock with
  |none=>exact .inl rfl
  |some l=>exact .inr (by simp[Z])
theorem vA(g m:Nat):(⟨g,0,O⟩:Addr).add m=⟨g,m,O⟩:=by unfold Addr.add;split<;>simp_all
theorem BH.done{a:List Im}(ak:oE w0)(h:BH w0 lb mb p bn vs a N vn vk kv N.ks.length W)(ao:∀z∈N.ks,0<=z/\z<(a.length:Int)){b:S}(t:W.grownBy W' vs.ownBlock)(n:W'.ownsRow w0.heap.size 72 1 b (a.length+1) (a.map nV++[fl N.k bn]))(ag:b.ownBlock=vs.ownBlock\/b.ownBlock=M W.heap.size):
  W'.heap[lb]?=M (A2 #[.map (M mb),vs] 178 (0,0))/\
  Lk (W'.setCell ⟨lb,1,O⟩ b) lb mb b/\mq (W'.setCell ⟨lb,1,O⟩ b) w0.heap.size b (a++[⟨N,bn,vn,kv⟩])/\gy (W'.setCell ⟨lb,1,O⟩ b) bn N vn a.length kv/\R w0.heap.size w0 (W'.setCell ⟨lb,1,O⟩ b):=by
 have A:∀k,vs.ownBlock=M k->adn W k/\w0.heap.size<=k:=fun k x=>pH h.ns.row x;have E:∀{o:Nat}{q:Array S}{l:Ce},W.heap[o]?=M (A2 q l (0,0))->l≠72->W'.heap[o]?=M (A2 q l (0,0)):=fun f B=>
  (t.block _ (ai f) (fun e=>by obtain⟨⟨H,s⟩,_⟩:=A _ e.symm;exact rK f s B rfl)).trans f
 have u:=E h.lk.b (by decide);have ad:R w0.heap.size w0 W':=h.bl.grown t h.bl.size (fun k x=>(A k x).2);have K:R w0.heap.size w0 (W'.setCell ⟨lb,1,O⟩ b):=ad.setCell h.lo.1 _;have set:∀{o:Nat}{q:Array S}{l:Ce},W'.heap[o]?=M (A2 q l (0,0))->l≠178->(W'.setCell ⟨lb,1,O⟩ b).heap[o]?=M (A2 q l (0,0)):=fun f B=>
  (aC _ _ _ _ (fun e=>by exact rK f u B e)).trans f
 have F:∀{d:S}{v:Nat}{w:List S},W'.ownsRow w0.heap.size 72 1 d v w->(W'.setCell ⟨lb,1,O⟩ b).ownsRow w0.heap.size 72 1 d v w:=fun n=>
  n.kept (row:=M lb) ⟨rfl,rfl,rfl,by simp[World.setCell],fun k x an=>aC _ _ _ _ (fun e=>an (by rw[e]))⟩ (by
   cases C:Z _ with
   |none=>exact .inl rfl
   |some k=>exact .inr (fun e=>by obtain⟨⟨H,s⟩,_⟩:=pH n C;obtain rfl:=bu e;exact rK u s (by decide) rfl))
 have G:gy (W'.setCell ⟨lb,1,O⟩ b) bn N vn a.length kv:=set (E h.bx (qy _).1) (qy _).2.1;have J:=ub h.lk.m (t.block _ h.lk.m.lt (fun e=>by obtain⟨⟨H,s⟩,_⟩:=A _ e.symm;exact Eu h.lk.m s rfl));have al:qx a (N.ks.take N.ks.length)=qx a N.ks:=by rw[Cd]
 have y:=h.kr;rw[al]at y;have I:∀{d:S}{v:Nat}{w:List S},W.ownsRow w0.heap.size 72 1 d v w->(d.ownBlock=O\/d.ownBlock≠vs.ownBlock)->(d.ownBlock=O\/d.ownBlock≠b.ownBlock):=fun n C=>by
  rcases C with e|e
  ·exact .inl e
  ·rename_i d v w;cases f:d.ownBlock with
   |none=>exact .inl rfl
   |some k=>
    have:=(n.lt k f).2;rcases ag with e2|e2
    ·rw[e2,<-f];exact .inr e
    ·rw[e2];exact .inr (by simp only[ne_eq,eA];omega)
 refine⟨u,⟨aL W' lb 1 _ _ _ u,ub J (aC _ _ _ _ (fun e=>by exact Eu J u e)),ak.keep K⟩,⟨?_,?_,?_,?_,?_⟩,G,K⟩
 ·rw[aB,eB];exact F n
 ·intro c i hx;rcases aH c a.length with g|g
  ·rw[ia g]at hx;exact set (E (h.ns.box c i hx) (qy _).1) (qy _).2.1
  ·rw[fy g]at hx;obtain⟨r,j⟩:=List.getElem?_eq_some_iff.1 hx;simp at r j;subst j;obtain rfl:c=a.length:=by omega
   exact G
 ·intro c i hx;rcases aH c a.length with g|g
  ·rw[ia g]at hx;rw[List.take_append_of_le_length (by omega)];exact F ((h.ns.kid c i hx).kept t (h.ns.far i (cG hx)))
  ·rw[fy g]at hx;obtain⟨r,j⟩:=List.getElem?_eq_some_iff.1 hx;simp at r j;subst j;obtain rfl:c=a.length:=by omega
   rw[List.take_left];exact F (y.kept t h.fr)
 ·intro i hx;rcases List.mem_append.1 hx with hx|hx
  ·obtain⟨c,am,af⟩:=il hx;exact I (h.ns.kid c i (by rw[aE am,af])) (h.ns.far i hx)
  ·obtain rfl:=List.mem_singleton.1 hx;exact I y h.fr
 ·intro c i z hx L;rcases aH c a.length with g|g
  ·rw[ia g]at hx;exact h.ns.rng c i z hx L
  ·rw[fy g]at hx;obtain⟨r,j⟩:=List.getElem?_eq_some_iff.1 hx;simp at r j;subst j;obtain rfl:c=a.length:=by omega
   exact ao z L
def kinds(ns:List Nd)(ks:List Int):List Int:=ks.map fun a=>(ns.getD a.toNat zNd).k
theorem mq.kids{base:Nat}{a:List Im}(h:mq W base vs a){ns:List Nd}(t:a.map Im.N=ns.take a.length){i:Nat}{x:Im}(k:a[i]?=M x):iq W x.kv (kinds ns x.N.ks):=by
 have f:=h.kid i x k;have o:(kinds ns x.N.ks).length=x.N.ks.length:=by simp[kinds]
 have y:i<a.length:=(List.getElem?_eq_some_iff.1 k).1;rcases bq f with⟨A,g⟩|⟨r,q,g⟩
 ·exact .inl ⟨nK (by omega),_,_,g⟩
 ·rw[g]at f⊢;refine .inr ⟨⟨r,0,O⟩,q,by rw[o],?_,fun m B d=>?_⟩
  ·rw[o];rcases f.2 with⟨j,_⟩|⟨w,u,v,j,_,_,s,_⟩
   ·cases j
   ·cases j;exact s
  ·unfold kinds at d;rw[bK]at d;cases hz:x.N.ks[m]? with
   |none=>rw[hz]at d;cases d
   |some e=>
    rw[hz]at d;obtain rfl:=bu d;obtain⟨z0,C⟩:=h.rng i x e k (cG hz);obtain⟨c,l⟩:∃c,a[e.toNat]?=M c:=⟨a[e.toNat]'(by omega),aE _⟩;have p:(ns.getD e.toNat zNd)=c.N:=by
     have n:(a.map Im.N)[e.toNat]?=M c.N:=by rw[bK,l];rfl
     rw[t,mu,ab (by omega)]at n;rw[aK,n];rfl
    have z:m<x.N.ks.length:=(List.getElem?_eq_some_iff.1 hz).1;refine⟨c.b,?_,?_⟩
    ·rw[vA,f.cellAt m (by omega)];unfold qx;rw[bK,hz];simp only[tj];rw[mu,ab (by omega),l,p];rfl
    ·show W.cell? ⟨c.b,0,O⟩=M (Ax A0 (ns.getD e.toNat zNd).k);rw[p];exact(h.box _ c l).cells.1
theorem ae4:(Tryz.prog.info? 72).map (fun i=>(i.zero,i.size,i.bytes))=M (M C2,1,16):=by kernel_rfl
def E5(N:Nd):Bool:=decide (0<=N.f/\N.f<=N.t/\0<=N.l/\N.ks.length<=200/\N.nm.length<=200)
def E6(ns:List Nd)(i:Nat)(N:Nd):Bool:=
 E5 N&&(Bl (ny N (ez N.k)) N&&(Jc N.ks i N.ks.length 0&&(ffB N N.ks.length (ez N.k)&&kfB N (kinds ns N.ks))))
def I0(c:X)(lb mb:Nat)(a:List Im)(ns:List Nd)(N:Nd)(vn:S)(e:Ending)(b:X):Prop:=
 e= U (Br (E6 ns a.length N))/\R c.heap.size c b/\(E6 ns a.length N=B4->∃f d,d.N=N/\d.vn=vn/\Lk b lb mb f/\mq b c.heap.size f (a++[d]))
theorem ae5(w:X)(lb:Nat)(N:Nd)(vn vk:S)(g:dA w vn N.nm)(f:dm w vk N.ks)(d:jC N)(h:E5 N=B3):
  A9 Q 95 #[A5 (M ⟨lb,0,O⟩),jo N vn vk] w fun e p=>e= U (Br B3)/\R w.heap.size w p:=by
 have b:∀c,R w.heap.size w (w.alloc c):=fun c=>(ah _ w).alloc (ae _) c;obtain⟨q,s,rfl⟩:=g.form;obtain⟨r,t,rfl⟩:=f.form;have l:=d.l1;have m:=d.l2;unfold E5 at h;have a:=jg h;unfold jo;generalize N.nm.length=j at l a⊢;generalize N.ks.length=k at m a⊢;clear g f d h;obtain⟨A,i,o,n,F,C,G,E,B⟩:=N;simp only at a⊢;by_cases u:i<0
 ·clear a;go_in;go_wp2;go_ret;exact⟨rfl,b _⟩
 by_cases v:o<i
 ·clear a;go_in;go_wp2;go_ret;exact⟨rfl,b _⟩
 by_cases x:n<0
 ·clear a;go_in;go_wp2;go_ret;exact⟨rfl,b _⟩
 by_cases y:(200:Int)<(k:Int)
 ·clear a;go_in;go_wp2;go_ret;exact⟨rfl,b _⟩
 have z:(200:Int)<(j:Int):=by omega
 clear a;go_in;go_wp2;go_ret;exact⟨rfl,b _⟩
theorem LB(c:R W.heap.size W W'){a:Addr}(b:a.block<W.heap.size){r:Bool}(h:W.frozen? a=r):W'.frozen? a=r:=by
 rw[<-h];exact World.frozen?_of_block (c.block _ b)
theorem ar5{w:X}(h:dA w vn N.nm)(k:Int):dA w (uo vn (ez k)) (ny N (ez k)).nm:=by
 rcases DA k with hc|hc|hc|hc|hc|hc|hc
 ·rw[hc];exact h
 ·rw[hc];exact .inl ⟨rfl,_,_,rfl⟩
 ·rw[hc];exact .inl ⟨rfl,_,_,rfl⟩
 ·rw[hc];exact .inl ⟨rfl,_,_,rfl⟩
 ·rw[hc];exact .inl ⟨rfl,_,_,rfl⟩
 ·rw[hc];exact h
 ·rw[hc];exact .inl ⟨rfl,_,_,rfl⟩
theorem air(k:Int)(h:N.nm.length<=1048576):(ny N (ez k)).nm.length<=1048576:=by
 rcases DA k with hc|hc|hc|hc|hc|hc|hc
 ·rw[hc];exact h
 ·rw[hc];exact aF _
 ·rw[hc];exact aF _
 ·rw[hc];exact aF _
 ·rw[hc];exact aF _
 ·rw[hc];exact h
 ·rw[hc];exact aF _
theorem ais(e w:X)(H:oE e)(J:R e.heap.size e w)(lb mb:Nat)(hh:e.heap.size<=lb)(cf:S)(i:List Im)(h:Lk w lb mb cf)(e1:mq w e.heap.size cf i)(N:Nd)(vn vk:S)(cr:dA e vn N.nm)(bb:dm e vk N.ks)(L:jC N)(g0:i.length<=3000)(ns:List Nd)(fb:i.map Im.N=ns.take i.length)(ap:ns[i.length]?=M N)(ar:∀W,R e.heap.size e W->B1 Q W "strings.asciiSpace" .u8 V)(cq:E5 N=B4):
  A9 Q 95 #[.pointer (M ⟨lb,0,O⟩),jo N vn vk] w (I0 e lb mb i ns N vn):=by
 have ce:=fun W (c5:R w.heap.size w W)=>aaJ W N vn vk (by obtain⟨cF,bs,m⟩:=cr.form;exact⟨_,_,_,m⟩) (by obtain⟨cF,bs,m⟩:=bb.form;exact⟨_,_,_,m⟩);obtain⟨bj,b7⟩:=aA (E6 ns i.length N);unfold I0;rw[b7];unfold E6 at b7;rw[cq,fI]at b7;obtain⟨p,q,rfl⟩:=cr.form;obtain⟨a5,a8,rfl⟩:=bb.form;unfold E5 at cq;obtain⟨gf,gn,gp,gr,gt⟩:=aG cq;have z:Ck (Lk w lb mb cf/\mq w e.heap.size cf i/\dA e (.slice p N.nm.length q) N.nm/\dm e (.slice a5 N.ks.length a8) N.ks/\jC N/\i.map Im.N=ns.take i.length/\(∀W,R e.heap.size e W->B1 Q W "strings.asciiSpace" .u8 V)/\oE e/\R e.heap.size e w/\ns[i.length]?=M N):=⟨h,e1,cr,bb,L,fb,ar,H,J,ap⟩;have et:=aw b7;have h9:¬N.f<0:=by omega
 have ih:¬N.t<N.f:=by omega
 have ii:¬N.l<0:=by omega
 unfold jo at ce⊢;obtain⟨o,c6⟩:=aA N.nm.length;obtain⟨r,c7⟩:=aA N.ks.length;have ch:=dC c6 c7;rw[c6]at ce z gt⊢;rw[c7]at ce z gr⊢;have iv:¬(200:Int)<(r:Int):=by omega
 have iy:¬(200:Int)<(o:Int):=by omega
 have i8:lb<w.heap.size:=ai z.1.b;clear c6 c7 cr bb L fb ar H J h e1 b7 cq gf gn gp ap;go_in;go_wp2_with fail;generalize e3:w.alloc _=ew;obtain⟨cw,dc,ht⟩:=al1 e3;replace cw:qJ w.heap.size ew 111 N (.slice p o q) (.slice a5 r a8):=cw;clear e3;refine(ce ew dc).mono ?_;rintro m C ⟨rfl,b8,c9⟩;rw[ht]at b8⊢;obtain⟨j,hb⟩:=aA (w.heap.size+1+1+1);rw[hb]at b8⊢;have el:=cw.below c9;have bk:R w.heap.size w C:=dc.trans (c9.mono (by omega));obtain⟨bt,bw,bE,b0,b1,b2,b3,b4,b5,gd⟩:=ci el;have cI:R C.heap.size C C.drew:=dJ (ah _ C);have dn:dA C.drew (.slice p o q) N.nm:=((z.2.2.1.below z.2.2.2.2.2.2.2.2.1).below bk).below cI;have ag:=F9 C.drew j N (.slice p o q) (.slice O 0 0) 0 ⟨_,_,_,rfl⟩ (b8.below cI);have a0:=fun W (c5:R C.drew.heap.size C.drew W)=>Dv W (ny N (ez N.k)) N (uo (.slice p o q) (ez N.k)) (.slice O 0 0) (.slice p o q) (.slice a5 r a8) ((ar5 dn N.k).below c5) (dn.below c5) ⟨_,_,_,rfl⟩ ⟨_,_,_,rfl⟩ (air _ z.2.2.2.2.1.l1) z.2.2.2.2.1.l1;obtain⟨h3,j0,h4,fd⟩:∃cF hE bs,uo (.slice p o q) (ez N.k)= .slice cF hE bs:=by
  unfold uo;split<;>exact⟨_,_,_,rfl⟩
 rw[fd]at ag a0;unfold jo at ag a0;obtain⟨hH,ea⟩:=aA (Bl (ny N (ez N.k)) N);rw[ea]at a0;have cl:=aw ea;obtain⟨h1,dx⟩:=aA (ny N (ez N.k));rw[dx]at ag a0 cl;clear ea dn fd ce cw dc c9;have hp:=fun w=>sD N.k j w;have hx:=fun w=>fx j w;unfold fl at ag⊢;have h0:Ck (pv (ez N.k)=pv (ez N.k)):=rfl;generalize eb:pv (ez N.k)=em at ag hp⊢;go_wp2_with fail;cases hH with
 |false=>
  have G:Ck (B3=bj):=by have:=et.out;rw[dx,cl.out,eI]at this;exact this
  go_region_held3 (fun n=>n.cell? ⟨w.heap.size,0,O⟩=M (.int .i64 N.k)/\n.cell? ⟨w.heap.size,1,O⟩=M (.int .i64 N.f)/\n.cell? ⟨w.heap.size,2,O⟩=M (.int .i64 N.t)/\n.cell? ⟨w.heap.size,3,O⟩=M (.int .i64 N.l)/\n.cell? ⟨w.heap.size,4,O⟩=M (.int .i64 N.op)/\n.cell? ⟨w.heap.size,5,O⟩=M (.int .i64 N.n)/\n.cell? ⟨w.heap.size,6,O⟩=M (.string N.x)/\n.cell? ⟨w.heap.size,7,O⟩=M (.slice p o q)/\n.cell? ⟨w.heap.size,8,O⟩=M (.slice a5 r a8)) (first|go_keep|exact⟨aj k (aj a bt),aj k (aj a bw),aj k (aj a bE),aj k (aj a b0),aj k (aj a b1),aj k (aj a b2),aj k (aj a b3),aj k (aj a b4),aj k (aj a b5)⟩|exact⟨aj a bt,aj a bw,aj a bE,aj a b0,aj a b1,aj a b2,aj a b3,aj a b4,aj a b5⟩) (first|(go_at_call 59;refine ag.mono ?_;rintro m hK ⟨rfl,a⟩)|(go_at_call 147;refine(a0 _ a).mono ?_;rintro m a4 ⟨rfl,k⟩))
  go_wp2_with fail;go_ret;have g9:R w.heap.size w a4:=bk.trans (((dJ (ah _ C)).trans (a.trans (k.mono a.size))).mono bk.size);exact⟨by rw[<-G.out];rfl,z.2.2.2.2.2.2.2.2.1.trans (g9.mono z.2.2.2.2.2.2.2.2.1.size),fun h=>by rw[<-G.out]at h;cases h⟩
 |true=>
  have fF:Ck ((Jc N.ks i.length N.ks.length 0&&(ffB N N.ks.length (ez N.k)&&kfB N (kinds ns N.ks)))=bj):=by have:=et.out;rw[dx,cl.out,fI]at this;exact this
  go_region_held3 (fun n=>n.cell? ⟨w.heap.size,0,O⟩=M (.int .i64 N.k)/\n.cell? ⟨w.heap.size,1,O⟩=M (.int .i64 N.f)/\n.cell? ⟨w.heap.size,2,O⟩=M (.int .i64 N.t)/\n.cell? ⟨w.heap.size,3,O⟩=M (.int .i64 N.l)/\n.cell? ⟨w.heap.size,4,O⟩=M (.int .i64 N.op)/\n.cell? ⟨w.heap.size,5,O⟩=M (.int .i64 N.n)/\n.cell? ⟨w.heap.size,6,O⟩=M (.string N.x)/\n.cell? ⟨w.heap.size,7,O⟩=M (.slice p o q)/\n.cell? ⟨w.heap.size,8,O⟩=M (.slice a5 r a8)) (first|go_keep|exact⟨aj k (aj a bt),aj k (aj a bw),aj k (aj a bE),aj k (aj a b0),aj k (aj a b1),aj k (aj a b2),aj k (aj a b3),aj k (aj a b4),aj k (aj a b5)⟩|exact⟨aj a bt,aj a bw,aj a bE,aj a b0,aj a b1,aj a b2,aj a b3,aj a b4,aj a b5⟩) (first|(go_at_call 59;refine ag.mono ?_;rintro m hK ⟨rfl,a⟩)|(go_at_call 147;refine(a0 _ a).mono ?_;rintro m a4 ⟨rfl,k⟩))
  have cn:R C.heap.size C a4:=(dJ (ah _ C)).trans (a.trans (k.mono a.size));have cm:R w.heap.size w a4:=bk.trans (cn.mono bk.size);obtain⟨lk,bd,ct,dd,L,cu,ar,H,J,ap⟩:=z.out;have ex:R e.heap.size e a4:=J.trans (cm.mono J.size);have eh:=lk.below cm;have ek:=bd.below cm;have fv:=el.below cn;have br:=b8.below cn;have hv:=J.size;have d:=BH.start H bd (by omega) (by omega) (by omega) eh ek fv br ex ⟨hh,by omega,hv⟩;obtain⟨am,an,be⟩:=cj ek.row;have e0:a4.cell? ⟨lb,1,O⟩=M (.slice am i.length an):=by rw[<-be,au _ _ _ _ _ _ eh.b];rfl
  have c0:=br.cells.2.2.2.1;have c4:=br.cells.2.2.2.2.2;have ha:j<a4.heap.size:=ai br;have bh:=aw d;obtain⟨g,dq⟩:=aA i.length;rw[dq]at e0 bh g0;have I:=aw dq;clear d eh ek fv br cn lk bd ct dd L cu ar H J ap bt bw bE b0 b1 b2 b3 b4 b5 gd ag a0 b8 el cI cl dq;go_wp2_with (go_at_call 285;refine(hx _).mono ?_;rintro m u ⟨rfl,rfl⟩);obtain⟨fp,e7,fk,fm,fn⟩:=dD ae4;clear e0 c0 c4 cm ex ha be;go_loopw [54] (fun eq wr=>∃(c:Nat) (fq:S),eq= .int .i64 c/\c<=r/\Ck ((Jc N.ks g (r-c) c&&(ffB N r (ez N.k)&&kfB N (kinds ns N.ks)))=bj)/\Ck (∀s∈N.ks.take c,0<=s/\s<(g:Int))/\Ck (BH e lb mb w.heap.size j cf i N (.slice p o q) (.slice a5 r a8) fq c wr)) (fun eq _=>r-(intOf eq).toNat)
  case atStart=>
   refine⟨0,_,rfl,aF _,?_,fun s K=>by simp at K,bh⟩;have:=fF.out;rw[I.out,ch.out.2]at this;exact this
  case round=>
   obtain⟨c,fq,rfl,i4,cg,ev,bf⟩:=hrel;clear bh;have d:=bf.out;have F:=cg.out;by_cases hm:c<r
   ·obtain⟨s,K⟩:=co ch.2 hm;obtain⟨h2,g7,i3⟩:=(z.2.2.2.1.below d.bl).get K;subst g7;have i6:(c:Int)<(r:Int):=by omega
    have i5:(0:Int)<=(c:Int):=by omega
    have c0:=d.bx.cells.2.2.2.1;rw[I.out]at c0;rw[show r-c=(r-(c+1))+1 by omega,Jc,aK,K,gj]at F;by_cases a9:0<=s/\s<(g:Int)
    ·obtain⟨ei,rfl⟩:=gl a9.1;have gv:ei<g:=by omega
     obtain⟨al,ec⟩:=co I.out gv;have cc:=d.ns.row;rw[I.out]at cc;rcases bq cc with⟨ji,_⟩|⟨b6,cs,be⟩
     ·omega
     subst be;have gb:wr.cell? ⟨lb,1,O⟩=M (.slice (M ⟨b6,0,O⟩) g cs):=by rw[au _ _ _ _ _ _ d.lk.b];rfl
     have eF:wr.cell? ⟨b6,ei,O⟩=M (.iface (pv (ez al.N.k)) (.pointer (M ⟨al.b,0,O⟩))):=by
      rw[cc.cellAt ei (by omega),bK,ec];rfl
     obtain⟨v,y,dg⟩:=cj d.kr;subst dg;have ge:=d.bx.cells.2.2.2.2.1;have c4:=d.bx.cells.2.2.2.2.2 5;have e9:=d.kr;have cB:Ck (qx i (N.ks.take (c+1))=qx i (N.ks.take c)++[.iface (pv (ez al.N.k)) (.pointer (M ⟨al.b,0,O⟩))]):=by
      show _=_;rw[iw,K];unfold qx;rw[eB];simp[ec,nV,fl]
     have fB:Ck ((Jc N.ks g (r-(c+1)) (c+1)&&(ffB N r (ez N.k)&&kfB N (kinds ns N.ks)))=bj):=by
      rw[bv a9,fI]at F;exact F
     have f8:Ck (∀s∈N.ks.take (c+1),0<=s/\s<(g:Int)):=fun s fo=>by
      rw[iw,K]at fo;rcases List.mem_append.1 fo with h|h
      ·exact ev s h
      ·simp at h;subst h;exact a9
     have hC:lb<wr.heap.size:=ai d.lk.b;have hD:j<wr.heap.size:=ai d.bx;have jv:b6<wr.heap.size:=(cc.lt b6 rfl).2;have eg:∀ee,(Y v c y).ownBlock=M ee->adn wr ee:=fun ee bb=>(pH e9 bb).1;have j1:M lb≠(Y v c y).ownBlock:=fun m=>by obtain⟨bs,b9⟩:=eg lb m.symm;exact rK d.lk.b b9 (by decide) rfl
     have fu:M j≠(Y v c y).ownBlock:=fun m=>by obtain⟨bs,b9⟩:=eg j m.symm;exact rK d.bx b9 (qy _).1 rfl
     have j2:M b6≠(Y v c y).ownBlock:=fun m=>by
      rcases d.fr with e2|e2
      ·rw[e2]at m;cases m
      ·exact e2 m.symm
     have hw:e.heap.size<=wr.heap.size:=d.bl.size;have f7:Ck (pv (ez al.N.k)=pv (ez al.N.k)):=rfl;generalize pv (ez al.N.k)=en at eF cB f7;generalize al.b=es at eF cB;have bo:∀E,R wr.heap.size wr (wr.alloc E).drew:=fun E=>dJ ((ah _ wr).alloc (ae _) E);clear d F ec K a9 cc eg;go_wp2_with fail;go_region_law (refine step_append_lies _ (by rfl) _ _ _ (by rfl) e.heap.size 72 fp _ 1 16 Tryz.underlying113 e7 fk fm fn rfl (by omega) (.slice v c y) c (qx i (N.ks.take c)) (by rfl) ((e9.alloc _).drew) ⟨wr.heap.size,0,O⟩ 1 1 [.iface en (.pointer (M ⟨es,0,O⟩))] (by rfl) (by rfl) (World.news_of_block (cs:=#[.iface en (.pointer (M ⟨es,0,O⟩))]) (t:=72) (fr:=(0,0)) (ay wr _)) (by simp[Value.oneCell']) (by omega) (by unfold maxLen;omega) (by omega) (by simp;omega) (wr.heap.size+1) (by simp) ?_;intro h8 h5 u cb ca c8 i7;have h6:=(ca.cell_far ⟨j,5,O⟩ (by simp;omega) fu).trans (aj (bo _) ge);have h7:=(ca.frozen_far ⟨j,5,O⟩ (by simp;omega) fu).trans (LB (bo _) hD c4))
     all_goals
      go_wp2_with fail;obtain⟨_,bd,_,_,_,_,_,H,_,_⟩:=z.out;have hJ:=bf.below (bo (.cells #[.iface en (.pointer (M ⟨es,0,O⟩))] 72));rw[<-cB.out]at cb;obtain⟨_,stB⟩:=hJ.kid H ca cb c8 (by simp);exact⟨⟨c+1,_,by go_num,by omega,fB,f8,stB⟩,by simp[intOf];omega⟩
    ·have G:Ck (B3=bj):=by rw[aD a9,eI,eI]at F;exact F
     have e6:=d.bl;by_cases i1:s<0
     ·clear F d bf cg K;go_wp2_with fail;go_ret;exact⟨by rw[<-G.out];rfl,e6,fun h=>by rw[<-G.out]at h;cases h⟩
     ·have i2:¬s<(g:Int):=by omega
      clear F d bf cg K a9;go_wp2_with fail;go_ret;exact⟨by rw[<-G.out];rfl,e6,fun h=>by rw[<-G.out]at h;cases h⟩
   ·obtain rfl:c=r:=by omega
    rw[eD,Jc,fI]at F;obtain⟨v,y,dg⟩:=cj d.kr;subst dg;obtain⟨am,an,be⟩:=cj d.ns.row;subst be;rw[I.out];have gb:wr.cell? ⟨lb,1,O⟩=M (.slice am g an):=by rw[<-I.out,au _ _ _ _ _ _ d.lk.b];rfl
    have d9:=d.ns.row;rw[I.out]at d9;have hw:e.heap.size<=wr.heap.size:=d.bl.size;have hC:lb<wr.heap.size:=ai d.lk.b;have bo:∀E,R wr.heap.size wr (wr.alloc E):=fun E=>(ah _ wr).alloc (ae _) E;have bh:=aw d;have f0:=aw F;have f6:=aw d9;clear F d bf cg d9;obtain⟨_,bd,ct,dd,L,cu,ar,H,J,ap⟩:=z.out;have fA:Ck (∀E u B A,(wr.alloc E).grownBy u (Y am g an).ownBlock->u.ownsRow e.heap.size 72 1 (.slice (M ⟨B,0,O⟩) (g+1) A) (g+1) (i.map nV++[.iface em (.pointer (M ⟨j,0,O⟩))])->((Y (M ⟨B,0,O⟩) (g+1) A).ownBlock=(Y am g an).ownBlock\/(Y (M ⟨B,0,O⟩) (g+1) A).ownBlock=M (wr.alloc E).heap.size)->
      u.heap[lb]?=M (.cells #[.map (M mb),.slice am g an] 178 (0,0))/\Lk (u.setCell ⟨lb,1,O⟩ (.slice (M ⟨B,0,O⟩) (g+1) A)) lb mb (.slice (M ⟨B,0,O⟩) (g+1) A)/\mq (u.setCell ⟨lb,1,O⟩ (.slice (M ⟨B,0,O⟩) (g+1) A)) e.heap.size (.slice (M ⟨B,0,O⟩) (g+1) A) (i++[⟨N,j,.slice p o q,.slice v c y⟩])/\gy (u.setCell ⟨lb,1,O⟩ (.slice (M ⟨B,0,O⟩) (g+1) A)) j N (.slice p o q) g (.slice v c y)/\R e.heap.size e (u.setCell ⟨lb,1,O⟩ (.slice (M ⟨B,0,O⟩) (g+1) A))):=by
     intro E u B A hd hq c8;have hI:=bh.below (bo E);have ds:=I.out;have dk:=ch.2;subst dk;subst ds;have hs:∀s∈N.ks,0<=s/\s<(i.length:Int):=by
      have:=ev.out;rw[Cd]at this;exact this
     refine hI.done H hs hd ?_ c8;unfold fl;rw[eb];exact hq
    clear bd J H;go_wp2_with (at_builtin;refine wpList_append_own_at _ rfl _ _ 113 rfl e.heap.size 72 fp _ 1 16 Tryz.underlying113 e7 fk fm fn rfl (by decide) _ _ _ rfl (f6.alloc _) ⟨wr.heap.size,0,O⟩ 1 1 [.iface em (.pointer (M ⟨j,0,O⟩))] rfl rfl (World.news_of_block (cs:=#[.iface em (.pointer (M ⟨j,0,O⟩))]) (fr:=(0,0)) (ay wr _)) (by intro j3 ff;simp at ff;subst ff;rfl) (by unfold maxLen;omega) (by omega) (by simp;omega) ?_;intro j4 u cb ca i9 g8;obtain⟨B,A,rfl⟩:=ownsRow_succ cb;obtain⟨fs,cy,cz,cp,a6⟩:=fA.out _ u B A ca cb g8;have j6:u.cell? ⟨lb,1,O⟩=M (.slice am g an):=by {rw[au _ _ _ _ _ _ fs];rfl};have j7:u.frozen? ⟨lb,1,O⟩=B3:=bI _ _ _ _ _ fs);generalize u.setCell ⟨lb,1,O⟩ (.slice (M ⟨B,0,O⟩) (g+1) A)=f9 at cy cz cp a6⊢;have ds:=I.out;have dk:=ch.2;have fg:(i++[⟨N,j,.slice p o q,.slice v c y⟩])[g]?=M ⟨N,j,.slice p o q,.slice v c y⟩:=by rw[<-ds];simp
    have fc:(i++[(⟨N,j,.slice p o q,.slice v c y⟩:Im)]).map Im.N=ns.take (i++[(⟨N,j,.slice p o q,.slice v c y⟩:Im)]).length:=by
     rw[eB,cu,aB,yj,iw,ap];rfl
    have e8:=cz.kids fc fg;have af:=E4 f9 lb mb _ cy j N (.slice p o q) g v c y (by omega) (ct.below a6) L.l1 L.ls L.lx cp;unfold fl at af;rw[eb]at af;have ad:=f0.out;cases hfb:ffB N c (ez N.k) with
    |false=>
     rw[hfb]at af ad;rw[eI]at ad;have G:=aw ad;refine af.mono ?_;rintro m fz ⟨rfl,ao⟩;have a7:=a6.trans (ao.mono a6.size);clear ad hfb af;go_wp2_with fail;go_ret;exact⟨by rw[<-G.out];rfl,a7,fun h=>by rw[<-G.out]at h;cases h⟩
    |true=>
     rw[hfb]at af ad;rw[fI]at ad;have fa:ez N.k=1->0<=N.n/\N.n<=200:=fun b9=>by
      rw[b9]at hfb;have:=aG (show decide (1<=N.n/\N.n<(c:Int))=B4 from hfb);omega
     refine af.mono ?_;rintro m fz ⟨rfl,ao⟩;have a7:=a6.trans (ao.mono a6.size);have hA:=cy.below ao;have hG:=cz.below ao;have hl:(kinds ns N.ks).length<=1048576:=by unfold kinds;rw[cA,dk];omega
     have cx:=LA fz j N (.slice p o q) (.slice v c y) g (kinds ns N.ks) (e8.below ao) hl (fun W g6=>ar W (a7.trans (g6.mono a7.size))) (cp.below ao) fa;rw[ad]at cx;unfold fl at cx;rw[eb]at cx;clear ad hfb af fa e8 fg fc cy cz cp ap cu ar L ct dd;go_wp2_with (go_at_call 149;refine cx.mono ?_;rintro m j5 ⟨rfl,da⟩);go_ret;exact⟨rfl,a7.trans (da.mono a7.size),fun _=>⟨_,_,rfl,rfl,hA.below da,hG.below da⟩⟩
theorem ait(a w:X)(m:oE a)(c:R a.heap.size a w)(lb mb:Nat)(o:a.heap.size<=lb)(d:S)(b:List Im)(h:Lk w lb mb d)(k:mq w a.heap.size d b)(N:Nd)(vn vk:S)(g:dA a vn N.nm)(f:dm a vk N.ks)(i:jC N)(j:b.length<=3000)(ns:List Nd)(p:b.map Im.N=ns.take b.length)(n:ns[b.length]?=M N)(q:∀W,R a.heap.size a W->B1 Q W "strings.asciiSpace" .u8 V):
  A9 Q 95 #[A5 (M ⟨lb,0,O⟩),jo N vn vk] w (I0 a lb mb b ns N vn):=by
 cases hf:E5 N with
 |true=>exact ais a w m c lb mb o d b h k N vn vk g f i j ns p n q hf
 |false=>
  refine cJ (ae5 w lb N vn vk (g.below c) (f.below c) i hf) fun r l=>?_;have e:E6 ns b.length N=B3:=by unfold E6;rw[hf,eI]
  exact⟨by rw[e],c.trans (l.mono c.size),fun h=>by rw[e]at h;cases h⟩
