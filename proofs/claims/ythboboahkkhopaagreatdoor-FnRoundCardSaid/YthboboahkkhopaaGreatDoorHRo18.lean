import Derived.Test.YthboboahkkhopaaGreatDoorRows
import Derived.LaidMore
import Derived.LaidSub
import Derived.OpenVars
import Derived.Stop.Joined
import Derived.Test.YthboboahkkhopaaGreatDoorHRo16
import Derived.Test.YthboboahkkhopaaGreatDoorHRo17
set_option linter.all false
set_option maxRecDepth 100000
set_option maxHeartbeats 25600000
open Go.Proofs.Tryz
open Go.Value renaming slice->O,int->A0,string->A9,string->Br,int->B7,bool->E1,pointer->E2,ownBlock->E3,agg->F0,slice->G3,tuple->Hm
open Option renaming some->U,none->A2
open Go.IntKind renaming i64->Ax
open Go.Proofs.Tryz renaming prog->A5
open Go.Obj renaming cells->B0
open Go renaming Value->B1,World->B2,Calls->B6,maxLen->F1,wp_region_held_drew->F2,wpAnyH_ready->G0,ownsRow_succ->G2,TypeId->H0
open Go.Ending renaming returned->B3
open List renaming set->B4
open Go.RowKit renaming Hid->Ce,intOf->E0,Below->H1
open Go.World renaming setCell->Ck,news_of_block->Ex
open Bool renaming false->C2,true->Fs
namespace Go.Proofs.YthboboahkkhopaaGreatDoor
open Go.ChangeShapes Go.WideShapes Go.ChangeAt Go.WideMaps Go.WideElems Go.RowKit
variable{L M c ck cn i n:Nat}{N:Nd}{W W' w w0:World}{a:Act}{ak an:Option Addr}{ks:List Int}{o:Oper}{ops:Array Oper}{v v7 v8 vk vn:Value}{z:Int}
def F8{H:Type}{enc:H0×B1->H}{P:Program}{base:Nat}{z:Nat->Bool}{s:Bool}{fuel:Nat}{t e:H0}{cs:List B1}{ls:List (List UInt8)}{p:List MemPlace}
  (ht:P.underlying t=U (.array n e)) (q:P.underlying e=U .string) (l:P.cellsOf e=1) (o:P.cellsOf t=n)
  (h:DataW.trod enc P w base z s fuel t cs=U (.agg (ls.map λb=> .lit (.string b)),p)):cs=ls.map λb=>A9 ⟨b.toArray⟩:=by
 obtain⟨A,C,rfl,d,v,y,r⟩:=DataW.trod_array ht h;simp only[jJ,DataW.agg.injEq]at d;have x:ls.length=n:=by have:=congrArg List.length d.1;simpa [y] using this
 apply List.ext_getElem (by simp[v,o,x]);intro a k B;have u:a<n:=by omega
 have f:=r a u;rw[l,uf,az (by omega)]at f;have⟨g,i,j,_⟩:=DataW.trod_string q f;have m:cs[a]= .string g:=by
  have:((cs.drop a).take 1)[0]?=U (.string g):=by rw[i];rfl
  simpa [lp,rj,az k] using this
 have c:(A.map (·.1))[a]?=(ls.map λb=>(DataW.lit (.string b):DataW H))[a]?:=by rw[d.1]
 rw[ci,ci,az (by omega),az (by omega)]at c;simp only[ug,fI]at c;rw[j]at c;simp only[DataW.lit.injEq,Lit.string.injEq]at c;rw[m,List.getElem_map,<-c]
def own:ownKnob Tryz.prog.godebug=A2:=by kernel_rfl
def ads:laidOutB A5=Fs:=by kernel_rfl
end Go.Proofs.YthboboahkkhopaaGreatDoor
namespace Go.Proofs.YthboboahkkhopaaGreatDoor
open Go.RowKit Go.Maps Go.WideMaps
variable{L M c ck cn i n:Nat}{N:Nd}{W W' w w0:World}{a:Act}{ak an:Option Addr}{ks:List Int}{o:Oper}{ops:Array Oper}{v v7 v8 vk vn:Value}{z:Int}
def afr(w:B2)(j k:B1)(l:List Int)(g:dh w j l)(h:dh w k l)(s:l.length<=1048576):
  B6 A5 96 #[j,k] w (gy w (E1 Fs)):=by
 obtain⟨n,p,rfl⟩:=g.form;obtain⟨o,q,rfl⟩:=h.form;have⟨b,d⟩:=aJ l.length;have m:=am d;have f:Ce (dh w (O n b p) l/\dh w (O o b q) l):=by rw[<-d];exact⟨g,h⟩
 rw[d]at s⊢;go_in;go_wp21
 go_loopw [13] (λe wr=>∃a:Nat,a<=b/\e= A0 Ax a/\be w wr) (λe _=>b-(E0 e).toNat)
 case atStart=>exact⟨0,by omega,rfl,ah _ _⟩
 case round=>
  obtain⟨a,z,rfl,c⟩:=hrel;by_cases t:a<b
  .obtain⟨A,i⟩:=cA m.out t;obtain⟨u,rfl,x⟩:=(f.1.below c).get i;obtain⟨v,rfl,y⟩:=(f.2.below c).get i;have r:(a:Int)<(b:Int):=by omega
   go_wp21
   go_quiet (fail)
   go_wp21
   exact⟨⟨a+1,by omega,by go_num,mG c _⟩,by simp[E0];omega⟩
  .obtain rfl:a=b:=by omega
   have r:¬(a:Int)<(a:Int):=by omega
   go_wp21
   go_ret;exact⟨rfl,c⟩
def abK(w:B2)(j k:B1)(l:List ByteArray)(g:bi w j l)(h:bi w k l)(s:l.length<=1048576):
  B6 A5 95 #[j,k] w (gy w (E1 Fs)):=by
 obtain⟨n,p,rfl⟩:=g.form;obtain⟨o,q,rfl⟩:=h.form;have⟨b,d⟩:=aJ l.length;have m:=am d;have f:Ce (bi w (O n b p) l/\bi w (O o b q) l):=by rw[<-d];exact⟨g,h⟩
 rw[d]at s⊢;go_in;go_wp21
 go_loopw [13] (λe wr=>∃a:Nat,a<=b/\e= A0 Ax a/\be w wr) (λe _=>b-(E0 e).toNat)
 case atStart=>exact⟨0,by omega,rfl,ah _ _⟩
 case round=>
  obtain⟨a,z,rfl,c⟩:=hrel;by_cases t:a<b
  .obtain⟨A,i⟩:=cA m.out t;obtain⟨u,rfl,x⟩:=(f.1.below c).get i;obtain⟨v,rfl,y⟩:=(f.2.below c).get i;have r:(a:Int)<(b:Int):=by omega
   go_wp21
   go_quiet (fail)
   go_wp21
   exact⟨⟨a+1,by omega,by go_num,mG c _⟩,by simp[E0];omega⟩
  .obtain rfl:a=b:=by omega
   have r:¬(a:Int)<(a:Int):=by omega
   go_wp21
   go_ret;exact⟨rfl,c⟩
def dy.rd{a:Addr}{k:Nat}{l:List Nd}(h:dy W (O (U a) n c) l)(g:l[k]?=U N):
  ∃an d cn ak b ck,(W.cell? (a.add (k*9))=U (A0 Ax N.k)/\W.cell? ⟨(a.add (k*9)).block,(a.add (k*9)).off+1,A2⟩=U (A0 Ax N.f)/\W.cell? ⟨(a.add (k*9)).block,(a.add (k*9)).off+2,A2⟩=U (A0 Ax N.t)/\W.cell? ⟨(a.add (k*9)).block,(a.add (k*9)).off+3,A2⟩=U (A0 Ax N.l)/\W.cell? ⟨(a.add (k*9)).block,(a.add (k*9)).off+4,A2⟩=U (A0 Ax N.op)/\W.cell? ⟨(a.add (k*9)).block,(a.add (k*9)).off+5,A2⟩=U (A0 Ax N.n)/\W.cell? ⟨(a.add (k*9)).block,(a.add (k*9)).off+6,A2⟩=U (Br N.x)/\W.cell? ⟨(a.add (k*9)).block,(a.add (k*9)).off+7,A2⟩=U (O an d cn)/\W.cell? ⟨(a.add (k*9)).block,(a.add (k*9)).off+8,A2⟩=U (O ak b ck))/\N.ks.length=b/\dh W (O ak b ck) N.ks/\bi W (O an d cn) N.nm:=by
 have⟨i,e,m,j,h⟩:=h.get g;cases e;obtain⟨an,cn,rfl⟩:=h.hn.form;obtain⟨ak,ck,rfl⟩:=h.hk.form;exact⟨an,_,cn,ak,_,ck,⟨h.c0,h.c1,h.c2,h.c3,h.c4,h.c5,h.c6,h.c7,h.c8⟩,rfl,h.hk,h.hn⟩
def ck9{V:B2}(E:be W V){a b c d e f g i j:Addr}{p l r s t u x m:B1}(h:W.cell? a=U p/\W.cell? b=U l/\W.cell? c=U r/\W.cell? d=U s/\W.cell? e=U t/\W.cell? f=U u/\W.cell? g=U v/\W.cell? i=U x/\W.cell? j=U m):
  V.cell? a=U p/\V.cell? b=U l/\V.cell? c=U r/\V.cell? d=U s/\V.cell? e=U t/\V.cell? f=U u/\V.cell? g=U v/\V.cell? i=U x/\V.cell? j=U m:=by
 obtain⟨n,o,q,w,y,z,A,B,C⟩:=h;have k:=λ{a v}=>ag E (a:=a) (v:=v);exact⟨k n,k o,k q,k w,k y,k z,k A,k B,k C⟩
def afs(w:B2)(N:Nd)(g e h f:B1)(m:bi w g N.nm)(j:dh w e N.ks)(n2:bi w h N.nm)(k:dh w f N.ks)(x:N.nm.length<=1048576)(y:N.ks.length<=1048576):
  B6 A5 29 #[jG N g e,jG N h f] w (gy w (E1 Fs)):=by
 have ks:=λb (a:be w b)=>abK b g h N.nm (m.below a) (n2.below a) x;have l:=λb (a:be w b)=>afr b e f N.ks (j.below a) (k.below a) y;obtain⟨B,E,rfl⟩:=m.form;obtain⟨C,F,rfl⟩:=n2.form;obtain⟨o,r,rfl⟩:=j.form;obtain⟨p,s,rfl⟩:=k.form;unfold jG;generalize N.nm.length=A at ks⊢;generalize N.ks.length=i at l⊢;go_in;go_wp2_with fail;generalize v:(w.alloc _).alloc _=n;obtain⟨t,u,d, -⟩:=If v;refine gL (ks n d) λw1 c=>?_;have G:w1.cell? ⟨w.heap.size,8,A2⟩=U (O o i r):=ag c ((aj _ _ _ _ _ _ t).trans rfl);have H:w1.cell? ⟨w.heap.size+1,8,A2⟩=U (O p i s):=ag c ((aj _ _ _ _ _ _ u).trans rfl);have a:=d.trans (c.mono d.size);have z:=l w1 a;go_wp2_with (go_at_call 96;refine gL z λI q=>?_);go_ret;exact⟨rfl,a.trans (q.mono a.size)⟩
def G7(w:B2)(x y:B1)(l:List Nd)(k:dy w x l)(m:dy w y l)(I:l.length<=1048576)(G:∀N∈l,N.nm.length<=1048576/\N.ks.length<=1048576):
  B6 A5 11 #[F0 #[x],F0 #[y]] w (gy w (E1 Fs)):=by
 obtain⟨z,B,rfl⟩:=k.form;obtain⟨A,C,rfl⟩:=m.form;have⟨b,u⟩:=aJ l.length;rw[u]at k m I⊢;have c:=Dl u k m G;go_in;go_wp2_with fail;generalize H:(w.alloc _).alloc _=j;obtain⟨E,F,r, -⟩:=If H;have n:j.cell? ⟨w.heap.size,0,A2⟩=U (O z b B):=(aj _ _ _ _ _ _ E).trans rfl;have o:j.cell? ⟨w.heap.size+1,0,A2⟩=U (O A b C):=(aj _ _ _ _ _ _ F).trans rfl;have e:=mo r n o;go_loopw [16] (λp wr=>∃a:Nat,a<=b/\p= A0 Ax a/\be j wr) (λp _=>b-(E0 p).toNat)
 case atStart=>exact⟨0,aH _,rfl,ah _ _⟩
 case round=>
  obtain⟨a,a5,rfl,f⟩:=hrel;have n:=ag f e.2.1;have o:=ag f e.2.2;have h:=e.1.trans (f.mono e.1.size);by_cases J:a<b
  .obtain⟨N,d⟩:=cA c.1 J;have⟨ao,ap⟩:=c.2.2.2 N (cG d);obtain⟨a0,rfl, -⟩:=c.2.1.get d;obtain⟨r,rfl, -⟩:=c.2.2.1.get d;have⟨ba,ar,bf,bc,au,bj,al,a3,K,ad⟩:=(c.2.1.below h).rd d;have⟨bb,av,bh,bd,ax,bk,an,a4,L,ak⟩:=(c.2.2.1.below h).rd d;have v:=afs wr.drew N _ _ _ _ ad K ak L ao ap;unfold jG at v;have a7:(a:Int)<(b:Int):=by omega
   have a6:(0:Int)<=(a:Int):=by omega
   have t:be wr wr.drew:=aw (ah _ wr);have a8:=λi (g:be wr i)=>(⟨⟨ag g n,ag g o⟩,ck9 g al,ck9 g an⟩:(_/\_)/\_/\_);have q:=iK h f;go_wp2_with fail;go_region_held3 (λi=>be wr i) (first|exact t.trans s|exact t) ((go_at_call 29;refine gL v λa9 s=>?_))
   go_wp2;exact⟨⟨a+1,by omega,by go_num,(aw q.2).trans (s.mono q.2.size)⟩,by simp[E0];omega⟩
  .obtain rfl:a=b:=by omega
   go_wp2;go_ret;exact⟨rfl,h⟩
structure RoC (w:B2) (T:B2->B1->Prop) (L ms ks:List Nd) (s:ByteArray):Prop where
 tb:∀W W' v,T W v->be W W'->T W' v
 tn:∀W v,T W v->dy W v L
 n:1<=L.length/\L.length<=1048576
 s0:1<L.length->s.size≠0
 ip:∀W v,be w W->T W v->B6 A5 5 #[.agg #[v]] W (gy W (.string s))
 sp:∀W v,T W v->B6 A5 6 #[.agg #[v]] W (gy W (.string s))
 io:∀W v,be w W->T W v->B6 A5 7 #[.agg #[v]] W (gy W (.agg #[.int .i64 0,.int .i64 0]))
 so:∀W v,T W v->B6 A5 8 #[.agg #[v]] W (gy W (.agg #[.int .i64 0,.int .i64 0]))
 ps:∀W,be w W->B6 A5 9 #[.string s] W λe w'=>∃v,e= .returned (.agg #[.int .i64 0,.int .i64 0,v])/\dy w' v ms/\be W w'
 al:∀W u v,dy W u ms->dy W v L->B6 A5 10 #[.agg #[u],.agg #[v]] W (gy W (.bool Fs))
 ib:∀W u,dy W u ms->B6 A5 12 #[.agg #[u]] W λe w'=>∃v,e= .returned (.agg #[v])/\dy w' v ks/\be W w'
 sb:∀W u,dy W u L->B6 A5 13 #[.agg #[u]] W λe w'=>∃v,e= .returned (.agg #[v])/\dy w' v ks/\be W w'
 wt:∀W u v,dy W u ks->dy W v ks->B6 A5 11 #[.agg #[u],.agg #[v]] W (gy W (.bool Fs))
 td:∀W,be w W->B6 A5 14 #[.string s] W (gy W (.string s))
def aqm(w:B2):(binOp .neq 29 (F0 #[A0 Ax 0,A0 Ax 0]) (F0 #[A0 Ax 0,A0 Ax 0])).run A5 w= .ok (E1 C2) w:=by kernel_rfl
def abL{bk:Option Addr}{bb bw:Nat}{T:B2->B1->Prop}{L ms ks:List Nd}{s:ByteArray}(bh:B6 A5 4 #[O bk bb bw] w λe w'=>∃v,e= B3 (F0 #[v])/\T w' v/\be w w')(H:RoC w T L ms ks s)(cI:¬(1048576:Int)<(bb:Int)):
  B6 A5 3 #[O bk bb bw] w (gy w (E1 Fs)):=by
 have a:=am H;obtain⟨g,a6⟩:=aJ L.length;have cs:=H.n;have a7:=H.s0;rw[a6]at cs a7;have ce:=am a6;clear H a6;go_in;go_wp2_with fail;refine bh.mono ?_;rintro e w1 ⟨v,rfl,bd,bn⟩;obtain⟨l,n,rfl⟩:∃cf ck,v= O cf g ck:=by have:=(a.out.tn _ _ bd).form;rw[ce.out]at this;exact this
 have I:=iK bd bn;clear bh bd bn;go_wp2_with fail;generalize bE:w1.alloc _=bj;obtain⟨bA,ar, -⟩:=al1 bE;have ax:bj.cell? ⟨w1.heap.size,0,A2⟩=U (O l g n):=(aj _ _ _ _ _ _ bA).trans rfl;have a3:=I.2.trans (ar.mono I.2.size);have b0:=a.out.ip bj _ a3 (a.out.tb _ _ _ I.1 ar);have A:=mo (a.out.tb _ _ _ I.1 ar) a3 ax;generalize w1.heap.size=an at ax A⊢;clear bE bA ar a3 I;go_wp2_with fail;refine gL b0 λa1 ak=>?_;have br:=ag ak ax;have C:be a1 a1.drew:=aw (ah _ a1);have h:=iK (a.out.tb _ _ _ (a.out.tb _ _ _ A.1 ak) C) ((A.2.1.trans (ak.mono A.2.1.size)).trans (C.mono (by have:=A.2.1.size;have:=ak.size;omega)));have a8:=λd (z:T d (O l g n))=>a.out.sp d _ z;have a9:=λd (a5:be w d) (z:T d (O l g n))=>a.out.io d _ a5 z;have ba:=λd (z:T d (O l g n))=>a.out.so d _ z;have p:a1.drew.cell? ⟨an,0,A2⟩=U (O l g n):=br;have cl:=aqm;clear b0 ax br ak A C;go_wp2_with fail;have a5:(decide ((1:Int)<(g:Int))=Fs/\s.toList.isEmpty=C2)\/decide ((1:Int)<(g:Int))=C2:=by
  by_cases z:1<g
  .exact .inl ⟨aI (by omega),by rw[ja,<-Ib,List.isEmpty_iff];exact λe=>a7 z (by have:=congrArg List.length e;simpa using this)⟩
  .exact .inr (aE (by omega))
 clear a7;rcases a5 with⟨g1,cF⟩|g1
 case' inl=>
  have g1:=aG g1;go_region_held3 (λx=>x.cell? ⟨an,0,A2⟩=U (O l g n)) (first|go_keep|exact ag y (ag m (ag f p))|exact ag m (ag f p)|exact ag f p) (first|(go_at_call 6;refine gL (a8 _ h.1) λct f=>?_)|(go_at_call 7;refine gL (a9 _ (h.2.trans (f.mono h.2.size)) (a.out.tb _ _ _ h.1 f)) λcw m=>?_)|(go_at_call 8;refine gL (ba _ (a.out.tb _ _ _ (a.out.tb _ _ _ h.1 f) m)) λcd y=>?_))
 case' inr=>
  have g1:=mh g1;refine F2 (S:=λx=>x.cell? ⟨an,0,A2⟩=U (O l g n)) (by kernel_rfl) p (λhS=>?_);simp only[jo,bB,fs,Nat.reduceAdd,jI,kG,kH,dI,ed];refine dB 0 (Br s) rfl rfl hS (λw' k=>by go_simp) ?_;simp only[B4];refine dB 1 (F0 #[O l g n]) rfl rfl hS (λw' k=>by go_simp) ?_;simp only[B4];refine G0 (rs:=[2]) (by kernel_rfl) (by simp) (AllReadyH.cons rfl (λG t=>?_) AllReadyH.nil);go_simp;refine gL (a8 _ h.1) λct f=>?_;refine t _ _ (ag f p) (λhS=>?_);clear t G;try simp only[Act.put,fe,fl,fG]
  refine dB 3 (E1 C2) rfl rfl hS (λw' k=>by go_simp) ?_;simp only[B4];refine dB 4 (E1 C2) rfl rfl hS (λw' k=>by go_simp) ?_;simp only[B4];refine dB 5 (F0 #[O l g n]) rfl rfl hS (λw' k=>by go_simp) ?_;simp only[B4];refine dB 7 (F0 #[O l g n]) rfl rfl hS (λw' k=>by go_simp) ?_;simp only[B4];refine G0 (rs:=[6]) (by kernel_rfl) (by simp) (AllReadyH.cons rfl (λG t=>?_) AllReadyH.nil);go_simp;refine gL (a9 _ (h.2.trans (f.mono h.2.size)) (a.out.tb _ _ _ h.1 f)) λcw m=>?_;refine t _ _ (ag m (ag f p)) (λhS=>?_);clear t G;try simp only[Act.put,fe,fl,fG]
  refine G0 (rs:=[8]) (by kernel_rfl) (by simp) (AllReadyH.cons rfl (λG t=>?_) AllReadyH.nil);go_simp;refine gL (ba _ (a.out.tb _ _ _ (a.out.tb _ _ _ h.1 f) m)) λcd y=>?_;refine t _ _ (ag y (ag m (ag f p))) (λhS=>?_);clear t G;try simp only[Act.put,fe,fl,fG]
  refine dB 9 (E1 C2) rfl rfl hS (λw' k=>by go_simp) ?_;simp only[B4];refine dB 10 (E1 C2) rfl rfl hS (λw' k=>by go_simp) ?_;simp only[B4];refine dB 11 (E1 C2) rfl rfl hS (λw' k=>by go_simp) ?_;simp only[B4];refine dB 12 (E2 (U ⟨an,0,A2⟩)) rfl rfl hS (λw' k=>by go_simp) ?_;simp only[B4];refine dB 13 (O l g n) rfl rfl hS (λw' k=>by go_simp) ?_;simp only[B4];refine dB 14 (A0 Ax g) rfl rfl hS (λw' k=>by go_simp) ?_;simp only[B4];refine dB 15 (E1 C2) rfl rfl hS (λw' k=>by go_simp) ?_;simp only[B4];refine dB 16 (E1 C2) rfl rfl hS (λw' k=>by go_simp) ?_;simp only[B4];refine uJ 17 rfl rfl hS ?_;simp only[B4];refine uJ 18 rfl rfl hS ?_;simp only[B4];refine dB 19 (E1 C2) rfl rfl hS (λw' k=>by go_simp) ?_;simp only[B4];refine dB 20 (E1 C2) rfl rfl hS (λw' k=>by go_simp) ?_;simp only[B4];refine wpAnyH_done (by kernel_rfl) ?_ _
 all_goals
  have bs:=ag y (ag m (ag f p));have J:=iK (a.out.tb _ _ _ (a.out.tb _ _ _ (a.out.tb _ _ _ h.1 f) m) y) (((h.2.trans (f.mono h.2.size)).trans (m.mono (by have:=h.2.size;have:=f.size;omega))).trans (y.mono (by have:=h.2.size;have:=f.size;have:=m.size;omega)));have b9:=a.out.ps cd J.2;clear f m y p h a8 a9 ba cl;go_wp2_with fail;refine b9.mono ?_;rintro e a2 ⟨u,rfl,bc,av⟩;obtain⟨bl,bx,rfl⟩:=bc.form;have bv:=ag av bs;have B:=mo (a.out.tb _ _ _ J.1 av) (J.2.trans (av.mono J.2.size)) bc;clear b9 bc av bs J;generalize ms.length=ca at B⊢;go_wp2_with fail;generalize bF:a2.alloc _=K;obtain⟨a4,r, -⟩:=al1 bF;have C:be K K.drew:=aw (ah _ K);have r:=r.trans (C.mono r.size);have E:K.drew.cell? ⟨a2.heap.size,0,A2⟩=U (A0 Ax 0):=(aj _ _ _ _ _ _ a4).trans rfl;have F:K.drew.cell? ⟨a2.heap.size,2,A2⟩=U (O bl ca bx):=(aj _ _ _ _ _ _ a4).trans rfl;have ao:=ag r bv;have i:=mo (a.out.tn _ _ (a.out.tb _ _ _ B.1 r)) (B.2.1.trans (r.mono B.2.1.size)) (B.2.2.below r);generalize a2.heap.size=bo at E F⊢;clear bF a4 r bv B C;have cm:=λd u v q bf=>a.out.al d u v q bf;have cn:=λd u q=>a.out.ib d u q;have cp:=λd u q=>a.out.sb d u q;have cq:=λd u v q bf=>a.out.wt d u v q bf;have cr:=λd q=>a.out.td d q;go_region_held3 (λx=>x.cell? ⟨an,0,A2⟩=U (O l g n)/\x.cell? ⟨bo,0,A2⟩=U (A0 Ax 0)/\x.cell? ⟨bo,2,A2⟩=U (O bl ca bx)) (first|go_keep|exact⟨ag ap (ag o (ag j (ag c (ag b ao)))),ag ap (ag o (ag j (ag c (ag b E)))),ag ap (ag o (ag j (ag c (ag b F))))⟩|exact⟨ag o (ag j (ag c (ag b ao))),ag o (ag j (ag c (ag b E))),ag o (ag j (ag c (ag b F)))⟩|exact⟨ag j (ag c (ag b ao)),ag j (ag c (ag b E)),ag j (ag c (ag b F))⟩|exact⟨ag c (ag b ao),ag c (ag b E),ag c (ag b F)⟩|exact⟨ag b ao,ag b E,ag b F⟩) (first|(go_at_call 10;refine gL (cm _ _ _ i.2.2 i.1) λc4 b=>?_)|(go_at_call 12;refine(cn _ _ (i.2.2.below b)).mono ?_;rintro e c9 ⟨c0,rfl,cb,c⟩;obtain⟨cx,cz,rfl⟩:=cb.form)|(go_at_call 13;refine(cp _ _ ((i.1.below b).below c)).mono ?_;rintro e da ⟨c1,rfl,cc,j⟩;obtain⟨cy,cB,rfl⟩:=cc.form)|(go_at_call 11;refine gL (cq _ _ _ (cb.below j) cc) λdc o=>?_)|(go_at_call 14;refine gL (cr _ ((((i.2.1.trans (b.mono i.2.1.size)).trans (c.mono (by have:=i.2.1.size;have:=b.size;omega))).trans (j.mono (by have:=i.2.1.size;have:=b.size;have:=c.size;omega))).trans (o.mono (by have:=i.2.1.size;have:=b.size;have:=c.size;have:=j.size;omega)))) λdd ap=>?_))
  go_wp2;go_ret;exact⟨rfl,((((i.2.1.trans (b.mono i.2.1.size)).trans (c.mono (by have:=i.2.1.size;have:=b.size;omega))).trans (j.mono (by have:=i.2.1.size;have:=b.size;have:=c.size;omega))).trans (o.mono (by have:=i.2.1.size;have:=b.size;have:=c.size;have:=j.size;omega))).trans (ap.mono (by have:=i.2.1.size;have:=b.size;have:=c.size;have:=j.size;have:=o.size;omega))⟩
def afu(op:Int):4<=(qL op).2/\(qL op).2<=11:=by
 unfold qL
 (repeat' split)
 all_goals exact⟨by decide,by decide⟩
def adt(k op:Int):2<=rL k op/\rL k op<=11:=by
 have:=afu op;unfold rL
 (repeat' split)
 all_goals omega
abbrev Cel(W:B2)(b:Nat)(N:Nd)(c a:B1):Prop:=W.cell? ⟨b,0,A2⟩=U (A0 Ax N.k)/\W.cell? ⟨b,1,A2⟩=U (A0 Ax N.f)/\W.cell? ⟨b,2,A2⟩=U (A0 Ax N.t)/\W.cell? ⟨b,3,A2⟩=U (A0 Ax N.l)/\W.cell? ⟨b,4,A2⟩=U (A0 Ax N.op)/\W.cell? ⟨b,5,A2⟩=U (A0 Ax N.n)/\W.cell? ⟨b,6,A2⟩=U (Br N.x)/\W.cell? ⟨b,7,A2⟩=U c/\W.cell? ⟨b,8,A2⟩=U a
def ak4{g:Addr}{h tab:Nat}(ad:N.k≠29->N.k≠28->1<=N.op/\N.op<=18)(R:NdR w0 g i N an M cn ak L ck)(av:N.ks.length=2){al r:Nat}(A:N.ks[0]?=U (al:Int))(j:N.ks[1]?=U (r:Int)){e:Int}(a3:0<=e/\e<=50){sign E F:ByteArray}(x:Ce (Wr w0 (O (U g) n h) tab 80 #[pW w0,A0 Ax (al:Int),A0 Ax (wh N e)] E))(ar:Ce (Wr w0 (O (U g) n h) tab 80 #[pW w0,A0 Ax (r:Int),A0 Ax (rL N.k N.op)] F)):
  Wr w0 (O (U g) n h) tab 132 #[pW w0,jG N (O an M cn) (O ak L ck),Br sign,A0 Ax e] (E++sign++F):=by
 intro I C z ax;have K:=z.lt;have a2:=adt N.k N.op;obtain⟨b,rfl⟩:=R.ks.ptr;obtain rfl:L=2:=by have:=R.hL;omega
 have c:=am R;have w:=am λa1 a0=>Lc N a1 a0 ad;unfold jG at w⊢;unfold wh at x;generalize rL N.k N.op=Rr at *;simp only[aq]at ax;have a:=am (Bx.new z N (O an M cn) (O (U b) 2 ck));have⟨l,m,o,p,q,s,t,u,v⟩:=a.cells;have ao:=a.kid0 c.ks A;have ap:=a.kid c.ks j (by decide);have B:Ce (∀{I:ByteArray}{d:B2},Bx w0 (O (U g) n h) tab C N (O an M cn) (O (U b) 2 ck) I d->Cel d C.heap.size N (O an M cn) (O (U b) 2 ck)/\d.cell? ⟨b.block,b.off+1,A2⟩=U (A0 Ax (r:Int))):=λa=>⟨a.cells,a.kid c.ks j (by decide)⟩;clear z R ad av;by_cases f:Rr=e;all_goals
  first|have au:=kqs f|have au:(Rr==e)=C2:=by simpa using f
  first|rw[ae f]at x|rw[aa f]at x
  clear f;go_in
  repeat (go_wp2_with fail;(first|(go_at_call 181;refine gL (w _ _ _) λd y=>?_;have a:=am (a.below y);clear l m o p q s t u v;obtain⟨l,m,o,p,q,s,t,u,v⟩:=a.cells;have ao:=a.kid0 c.ks A;have ap:=a.kid c.ks j (by decide))|(refine Bx.stp a (ah _ _) (by with_reducible first|exact am (Eo _)|assumption) K (by(try simp only[aq]);omega) ?_;intro d a;have a:=am a;clear l m o p q s t u v;obtain⟨l,m,o,p,q,s,t,u,v⟩:=a.cells;have ao:=a.kid0 c.ks A;have ap:=a.kid c.ks j (by decide))))
  go_wp2_with fail;go_region_held3 (λJ=>Cel J C.heap.size N (O an M cn) (O (U b) 2 ck)/\J.cell? ⟨b.block,b.off+1,A2⟩=U (A0 Ax (r:Int))) (first|exact B H|exact B G|exact B (a.below (aw (ah _ _)))|go_keep) (first|(go_at_call 181;refine gL (w _ _ _) λd y=>?_;have G:=(a.below (aw (ah _ _))).below y)|(go_at_call 80;refine Bx.stp (am G) (ah _ _) ar K (by(try simp only[aq]);omega) ?_;intro d H))
  go_wp2_with fail;go_end0
  exact Bx.fin (am H) (by simp only[aK])
def ahx{f:Addr}{p:Nat}{tab:Nat}(K:n<=1048576)(F:i<n)(e:N.k=31->1<=N.op/\N.op<=18)(R:NdR w0 f i N an M cn ak L ck)(c:N.k=31){least:Int}(J:¬ij N.k N.op<least)(ad:(Am (60+N.op)).size<=4){o:ByteArray}(l:Ce (Wr w0 (O (U f) n p) tab 132 #[pW w0,jG N (O an M cn) (O ak L ck),Br (⟨#[32]⟩++Am (60+N.op)++⟨#[32]⟩),A0 Ax (ij N.k N.op)] o)):
  Wr w0 (O (U f) n p) tab 80 #[pW w0,A0 Ax (i:Int),A0 Ax least] o:=by
 intro A r b I;have u:=b.lt;have⟨z0,y,z⟩:=b.cells;have⟨al,ao,ap,ar,au,av,ax,a0,a1,_,_⟩:=R.rd r b.bel;have a:=am (Bx.new b N (O an M cn) (O ak L ck));have G:(i:Int)<(n:Int):=by omega
 have H:(0:Int)<=(i:Int):=by omega
 have a5:=kqf c;have E:=kqs c;have j:=am λx w=>Bv N x w e;have s:=am (aa8 (60+N.op));have⟨a2,a3⟩:=e c;have v:IntKind.i64.wrap (60+N.op)=60+N.op:=by rw[fh];omega
 generalize Am (60+N.op)=q at *;have B:¬9223372036854775807<1+q.size:=by omega
 have C:¬9223372036854775807<1+q.size+1:=by omega
 unfold jG at j l;generalize ij N.k N.op=a4 at *;clear b R c e z y;go_in;go_wp2_with (go_at_call 131;refine gL (j _ _ _) λm d=>?_;have a:=am (a.below d);obtain⟨a6,a7,a8,a9,ba,bb,bc,bd,bf⟩:=a.cells);go_region_held3 (λt=>Cel t r.heap.size N (O an M cn) (O ak L ck)) (first|exact h.cells|exact g.cells|exact(a.below (aw (ah _ _))).cells|go_keep) (first|(go_at_call 133;(try rw[v]);refine gL (s _) λm d=>?_;have g:=(a.below (aw (ah _ _))).below d)|(go_at_call 132;refine Bx.stp (am g) (ah _ _) l u (by omega) ?_;intro m h))
 go_wp2_with fail;go_end0
 exact Bx.fin (am h) rfl
section
variable (w0 : World) (vt : Value) (t : Nat)
inductive G8 (p1:Addr) (n i:Nat) (ns:List Nd) (N:Nd) (vn vk:Value):FuncId->Array Value->ByteArray->Prop
 |blk {Y:ByteArray}:Hid (N.k=1)->Hid (WB w0 vt t i Y)->G8 p1 n i ns N vn vk 19 #[pW w0,.int .i64 (i:Int)] (Y)
 |let0:N.nm.length<=200->Hid (N.k=2)->N.ks.length=0->G8 p1 n i ns N vn vk 19 #[pW w0,.int .i64 (i:Int)] (⟨#[108,101,116,32]⟩++bK N.nm)
 |let1 {X:ByteArray}:N.nm.length<=200->Hid (N.k=2)->0<N.ks.length->Hid (WX w0 vt t N.ks X)->G8 p1 n i ns N vn vk 19 #[pW w0,.int .i64 (i:Int)] (⟨#[108,101,116,32]⟩++bK N.nm++(⟨#[32,61,32]⟩++X))
 |cst {s E:ByteArray}{q:Nat}:Hid (N.k=3)->N.ks.length=1->N.nm.length=1->N.nm[0]?=some s->N.ks[0]?=some (q:Int)->Hid (WE w0 vt t q E)->G8 p1 n i ns N vn vk 19 #[pW w0,.int .i64 (i:Int)] (⟨#[99,111,110,115,116,32]⟩++s++⟨#[32,61,32]⟩++E)
 |fns {s Y:ByteArray}{q:Nat}:Hid (N.k=4)->N.ks.length=1->N.nm.length=1->N.nm[0]?=some s->N.ks[0]?=some (q:Int)->Hid (WD w0 vt t q Y)->G8 p1 n i ns N vn vk 19 #[pW w0,.int .i64 (i:Int)] (⟨#[102,110,32]⟩++s++Y)
 |set {X Z:ByteArray}{m:Nat}:Hid (N.k=5)->1<=m/\m<N.ks.length->Hid (N.n=(m:Int))->Hid (WX w0 vt t (N.ks.take m) X)->Hid (WX w0 vt t (N.ks.drop m) Z)->G8 p1 n i ns N vn vk 19 #[pW w0,.int .i64 (i:Int)] (X++⟨#[32,61,32]⟩++Z)
 |one {E:ByteArray}{q:Nat}:Hid (N.k=6)->N.ks.length=1->N.ks[0]?=some (q:Int)->Hid (WE w0 vt t q E)->G8 p1 n i ns N vn vk 19 #[pW w0,.int .i64 (i:Int)] (E)
 |iff {Y:ByteArray}:Hid (N.k=7)->Hid (Wr w0 vt t 82 #[pW w0,jG N vn vk,.string ⟨#[105,102,32]⟩] Y)->G8 p1 n i ns N vn vk 19 #[pW w0,.int .i64 (i:Int)] (Y)
 |whl {E Y:ByteArray}{q r:Nat}:Hid (N.k=8)->N.ks.length=2->N.ks[0]?=some (q:Int)->N.ks[1]?=some (r:Int)->Hid (WE w0 vt t q E)->Hid (WB w0 vt t r Y)->G8 p1 n i ns N vn vk 19 #[pW w0,.int .i64 (i:Int)] (⟨#[119,104,105,108,101,32]⟩++E++⟨#[32]⟩++Y)
 |fr {X Y Z:ByteArray}{k q:Nat}:N.nm.length<=200->Hid (N.k=9)/\Z=⟨#[32,61,32]⟩/\(k=2\/k=3)\/Hid (N.k=10)/\Z=⟨#[32,105,110,32]⟩/\k=1->N.ks.length=k+1->N.ks[k]?=some (q:Int)->Hid (WX w0 vt t (N.ks.take k) X)->Hid (WB w0 vt t q Y)->G8 p1 n i ns N vn vk 19 #[pW w0,.int .i64 (i:Int)] (⟨#[102,111,114,32]⟩++bK N.nm++Z++X++⟨#[32]⟩++Y)
 |brk:Hid (N.k=11)->G8 p1 n i ns N vn vk 19 #[pW w0,.int .i64 (i:Int)] (⟨#[98,114,101,97,107]⟩)
 |nxt:Hid (N.k=12)->G8 p1 n i ns N vn vk 19 #[pW w0,.int .i64 (i:Int)] (⟨#[110,101,120,116]⟩)
 |ret0:Hid (N.k=13)->N.ks.length=0->G8 p1 n i ns N vn vk 19 #[pW w0,.int .i64 (i:Int)] (⟨#[114,101,116,117,114,110]⟩)
 |ret1 {X:ByteArray}:Hid (N.k=13)->0<N.ks.length->Hid (WX w0 vt t N.ks X)->G8 p1 n i ns N vn vk 19 #[pW w0,.int .i64 (i:Int)] (⟨#[114,101,116,117,114,110]⟩++(⟨#[32]⟩++X))
 |try_ {X Y:ByteArray}{q r:Nat}:N.nm.length<=200->Hid (N.k=14)->N.ks.length=2->N.ks[0]?=some (q:Int)->N.ks[1]?=some (r:Int)->Hid (WB w0 vt t q X)->Hid (WB w0 vt t r Y)->G8 p1 n i ns N vn vk 19 #[pW w0,.int .i64 (i:Int)] (⟨#[116,114,121,32]⟩++X++⟨#[32,99,97,116,99,104,32]⟩++bK N.nm++⟨#[32]⟩++Y)
 |thr {E:ByteArray}{q:Nat}:Hid (N.k=15)->N.ks.length=1->N.ks[0]?=some (q:Int)->Hid (WE w0 vt t q E)->G8 p1 n i ns N vn vk 19 #[pW w0,.int .i64 (i:Int)] (⟨#[116,104,114,111,119,32]⟩++E)
 |dfr {E:ByteArray}{q:Nat}:Hid (N.k=16)->N.ks.length=1->N.ks[0]?=some (q:Int)->Hid (WE w0 vt t q E)->G8 p1 n i ns N vn vk 19 #[pW w0,.int .i64 (i:Int)] (⟨#[100,101,102,101,114,32]⟩++E)
 |bod {Y Z:ByteArray}{q:Nat}:N.nm.length<=200->(N.op≠1/\Z=ByteArray.empty\/Hid (N.op=1)/\(N.nm.length=0/\Z=⟨#[46,46,46]⟩\/0<N.nm.length/\Z=⟨#[44,32]⟩++⟨#[46,46,46]⟩))->N.ks.length=1->N.ks[0]?=some (q:Int)->Hid (WB w0 vt t q Y)->G8 p1 n i ns N vn vk 81 #[pW w0,.int .i64 (i:Int)] (⟨#[40]⟩++bK N.nm++Z++⟨#[41,32]⟩++Y)
 |br2 {word E Y:ByteArray}{q r:Nat}:N.ks.length=2->N.ks[0]?=some (q:Int)->N.ks[1]?=some (r:Int)->Hid (WE w0 vt t q E)->Hid (WB w0 vt t r Y)->G8 p1 n i ns N vn vk 82 #[pW w0,jG N vn vk,.string word] (word++E++⟨#[32]⟩++Y)
end
def ab0{e:B2}{g:Addr}{n m:Nat}{ns:List Nd}(bf:dy e (O (U g) n m) ns)(bn:Ep e g ns)(bv:ns.length=n)(bt:n<=1048576){tab i:Nat}(bo:i<n){N:Nd}(bs:N.ks.length<=1048576){s r:Option Addr}{M o L ck:Nat}(R:NdR e g i N s M o r L ck){f:FuncId}{args:Array B1}{x:ByteArray}(K:G8 e (O (U g) n m) tab g n i ns N (O s M o) (O r L ck) f args x):
  Wr e (O (U g) n m) tab f args x:=by
 intro v a6 k t;have ap:=k.lt;have⟨z0,bD,bE⟩:=k.cells;have I:=R.hL;have J:=R.hM;have bh:=R.cap;have a:=am (Bx.new k N (O s M o) (O r L ck));have⟨au,av,ax,a0,a1,a2,a3,a4,a5,_,_⟩:=R.rd a6 k.bel;have bp:(i:Int)<(n:Int):=by omega
 have br:(0:Int)<=(i:Int):=by omega
 cases K
 case' let1|ret1=>have ar:(0:Int)<(L:Int):=by omega
 case' let1 hX=>have q:=am (hX _ R.ks)
 case' ret1 hX=>have q:=am (hX _ R.ks)
 case' iff hX=>unfold jG at hX
 case' set b _ hm _ hX hZ=>
  obtain⟨l,rfl⟩:=R.ks.ptr;have q:=am (hX (O (U l) b ck) (R.ks.take b (by omega)));have bb:=am (hZ (O (U (l.add b)) (L-b) (ck-b)) (R.ks.drop b _ (by omega) (by omega)));have ad:¬ck=0:=by omega
  have al:(b:Int)<=(ck:Int):=by omega
  have bj:(b:Int)<=(L:Int):=by omega
  have bk:¬ck=b:=by omega
  have bl:(0:Int)<=(b:Int):=by omega
 case' fr u _ _ d _ _ hX _=>
  obtain⟨l,rfl⟩:=R.ks.ptr;have q:=am (hX (O (U l) u ck) (R.ks.take u (by omega)));have ad:¬ck=0:=by omega
  have al:(u:Int)<=(ck:Int):=by omega
  obtain⟨d,rfl,rfl|rfl⟩|⟨d,rfl,rfl⟩:=d
 case' bod d _ _ _=>
  obtain⟨d,rfl⟩|⟨d,⟨ao,rfl⟩|⟨ao,rfl⟩⟩:=d;all_goals first|have H:=kqs d.out|have H:(N.op==1)=C2:=by simpa using d
  all_goals try have ar:(0:Int)<(M:Int):=by omega
 all_goals
  try simp only[aq]at t
  try (have h:=R.ks.ptr;obtain⟨l,rfl⟩:=h)
  try (have h:=R.nm.ptr;obtain⟨bw,rfl⟩:=h)
  try have bc:Ce (Wr e (O (U g) n m) tab 78 #[pW e,O _ M o] (bK N.nm)):=λv w k t=>aeH e _ _ N.nm v tab w k R.nm (by omega) t
  have c:=am R;try have bx:=kqf (by with_reducible assumption:Ce (N.k=_)).out
  try have bd:=kqs (by with_reducible assumption:Ce (N.k=_)).out
  try (have h:=I.symm.trans (by with_reducible assumption:N.ks.length=_);subst h)
  try (have h:=J.symm.trans (by with_reducible assumption:N.nm.length=_);subst h)
  have⟨y,z,A,B,C,p,E,F,G⟩:=a.cells
  (try have a7:=a.kid0 c.ks (by with_reducible assumption))
  (try have a8:=a.kid c.ks (j:=1) (by with_reducible assumption) (by decide))
  (try have a9:=a.kid c.ks (j:=2) (by with_reducible assumption) (by decide))
  (try have ba:=a.kid c.ks (j:=3) (by with_reducible assumption) (by decide))
  (try rw[(by with_reducible assumption:Ce (N.n=_)).out]at p)
  try have bA:=a.name0 c.nm (by with_reducible assumption)
  try unfold jG
  go_in
  repeat (go_wp2_with fail;refine Bx.stp a (ah _ _) (by with_reducible first|exact am (Eo _)|assumption) ap (by(try simp only[aq]);omega) ?_;intro w a;have a:=am a;clear y z A B C p E F G;(try clear au av ax a0 a1 a2 a3 a4 a5 z0);obtain⟨y,z,A,B,C,p,E,F,G⟩:=a.cells;(try have a7:=a.kid0 c.ks (by with_reducible assumption));(try have a8:=a.kid c.ks (j:=1) (by with_reducible assumption) (by decide));(try have a9:=a.kid c.ks (j:=2) (by with_reducible assumption) (by decide));(try have ba:=a.kid c.ks (j:=3) (by with_reducible assumption) (by decide));(try rw[(by with_reducible assumption:Ce (N.n=_)).out]at p))
  go_wp2_with fail;first|go_end0|refine bH (fK rfl _ _ _) rfl ?_
  exact Bx.fin a (by simp only[aK,ByteArray.empty_append])
section
variable (w0 : World) (vt : Value) (t : Nat)
inductive ExO (n i:Nat) (ns:List Nd) (N:Nd) (vn vk:Value):FuncId->Array Value->ByteArray->Prop
 |par {Y:ByteArray}{least:Int}:ij N.k N.op<least->Hid (WE w0 vt t i Y)->ExO n i ns N vn vk 80 #[pW w0,.int .i64 (i:Int),.int .i64 least] (⟨#[40]⟩++Y++⟨#[41]⟩)
 |inf {S Y:ByteArray}{least:Int}:Hid (N.k=28)/\S=⟨#[32,97,110,100,32]⟩\/Hid (N.k=29)/\S=⟨#[32,111,114,32]⟩->¬ij N.k N.op<least->Hid (Wr w0 vt t 132 #[pW w0,jG N vn vk,.string S,.int .i64 (ij N.k N.op)] Y)->ExO n i ns N vn vk 80 #[pW w0,.int .i64 (i:Int),.int .i64 least] (Y)
 |nod {f:FuncId}{Y:ByteArray}{least:Int}:Hid (N.k=30)/\f=134\/Hid (N.k=35)/\f=136\/(20<=N.k/\N.k<=27)/\f=137->¬ij N.k N.op<least->Hid (Wr w0 vt t f #[pW w0,jG N vn vk] Y)->ExO n i ns N vn vk 80 #[pW w0,.int .i64 (i:Int),.int .i64 least] (Y)
 |idx {Y E:ByteArray}{q r:Nat}{least:Int}:Hid (N.k=32)->¬ij N.k N.op<least->N.ks.length=2->N.ks[0]?=some (q:Int)->N.ks[1]?=some (r:Int)->Hid (WA w0 vt t q Y)->Hid (WE w0 vt t r E)->ExO n i ns N vn vk 80 #[pW w0,.int .i64 (i:Int),.int .i64 least] (Y++⟨#[91]⟩++E++⟨#[93]⟩)
 |fld {Y:ByteArray}{q:Nat}{least:Int}:Hid (N.k=33)->¬ij N.k N.op<least->N.ks.length=1->N.ks[0]?=some (q:Int)->Hid (WA w0 vt t q Y)->ExO n i ns N vn vk 80 #[pW w0,.int .i64 (i:Int),.int .i64 least] (Y++(⟨#[46]⟩++N.x))
 |cal {Y X:ByteArray}{q:Nat}{least:Int}:Hid (N.k=34)->¬ij N.k N.op<least->0<N.ks.length->N.ks[0]?=some (q:Int)->Hid (WA w0 vt t q Y)->Hid (WX w0 vt t (N.ks.drop 1) X)->ExO n i ns N vn vk 80 #[pW w0,.int .i64 (i:Int),.int .i64 least] (Y++⟨#[40]⟩++X++⟨#[41]⟩)
 |fn {Y:ByteArray}{least:Int}:Hid (N.k=36)->¬ij N.k N.op<least->Hid (WD w0 vt t i Y)->ExO n i ns N vn vk 80 #[pW w0,.int .i64 (i:Int),.int .i64 least] (⟨#[102,110]⟩++Y)
 |one {E:ByteArray}{q:Nat}{least:Int}:Hid (N.k=37)->¬ij N.k N.op<least->N.ks.length=1->N.ks[0]?=some (q:Int)->Hid (WE w0 vt t q E)->ExO n i ns N vn vk 80 #[pW w0,.int .i64 (i:Int),.int .i64 least] (⟨#[40]⟩++E++⟨#[41]⟩)
 |un {A E:ByteArray}{q:Nat}:Hid (N.op=21)/\A=⟨#[110,111,116,32]⟩\/Hid (N.op=22)/\A=⟨#[35]⟩\/Hid (N.op=20)/\A=⟨#[126]⟩->N.ks.length=1->N.ks[0]?=some (q:Int)->Hid (Wr w0 vt t 80 #[pW w0,.int .i64 (q:Int),.int .i64 11] E)->ExO n i ns N vn vk 134 #[pW w0,jG N vn vk] (A++E)
end
def ahy{g:B2}{e:Addr}{n y:Nat}{ns:List Nd}(bb:dy g (O (U e) n y) ns)(bh:Ep g e ns)(bp:ns.length=n)(bo:n<=1048576){tab i:Nat}(bj:i<n){N:Nd}(bn:N.ks.length<=1048576)(au:N.k=31->1<=N.op/\N.op<=18){w v:Option Addr}{M z L ck:Nat}(R:NdR g e i N w M z v L ck){f:FuncId}{args:Array B1}{E:ByteArray}(al:ExO g (O (U e) n y) tab n i ns N (O w M z) (O v L ck) f args E):
  Wr g (O (U e) n y) tab f args E:=by
 intro ba a9 d ap;have ar:=d.lt;have⟨z0,bv,bw⟩:=d.cells;have ad:=R.hL;have bc:=R.cap;have a:=am (Bx.new d N (O w M z) (O v L ck));have⟨av,ax,a0,a1,a2,a3,a4,a5,a6,_,_⟩:=R.rd a9 d.bel;have bk:(i:Int)<(n:Int):=by omega
 have bl:(0:Int)<=(i:Int):=by omega
 have C:=am λa8 a7=>Bv N a8 a7 au;unfold jG at C;cases al
 case' inf b _ hX=>obtain⟨b,rfl⟩|⟨b,rfl⟩:=b
 case' nod b _ hX=>obtain⟨b,rfl⟩|⟨b,rfl⟩|⟨b,rfl⟩:=b
 case' un b _ _ _=>obtain⟨b,rfl⟩|⟨b,rfl⟩|⟨b,rfl⟩:=b
 case' cal A _ _ _ _ hX=>
  obtain⟨h,rfl⟩:=R.ks.ptr;have bf:(1:Int)<=(L:Int):=by omega
  have bd:1<=L:=by omega
  have bs:(0:Int)<(L:Int):=by omega
  by_cases ao:ck=1
  case' pos=>
   subst ao;obtain rfl:L=1:=by omega
   have H:=am (hX (O (U h) 0 0) (.inl ⟨by rw[List.drop_eq_nil_iff];omega,_,_,rfl⟩))
  case' neg=>have H:=am (hX (O (U ⟨h.block,h.off+1,A2⟩) (L-1) (ck-1)) (R.ks.drop 1 _ (by omega) (by omega)))
 all_goals
  generalize br:ij N.k N.op=bt at *;try unfold jG at *
  try simp only[aq]at ap
  try (have B:=R.ks.ptr;obtain⟨h,rfl⟩:=B)
  have c:=am R;first|have A:=kqf (by with_reducible assumption:Ce (N.k=_)).out;have K:=kqs (by with_reducible assumption:Ce (N.k=_)).out|have A:=kqf (by with_reducible assumption:Ce (N.op=_)).out;have K:=kqs (by with_reducible assumption:Ce (N.op=_)).out|have A:∀x:Int,28<=x->(N.k==x)=C2:=λx d=>by simp;omega|skip
  try (have B:=ad.symm.trans (by with_reducible assumption:N.ks.length=_);subst B)
  have⟨l,m,o,p,q,r,s,t,u⟩:=a.cells
  (try have F:=a.kid0 c.ks (by with_reducible assumption))
  (try have G:=a.kid c.ks (j:=1) (by with_reducible assumption) (by decide))
  go_in
  repeat (go_wp2_with fail;(first|(go_at_call 131;refine gL (C _ _ _) λI J=>?_;have a:=am (a.below J);clear l m o p q r s t u;obtain⟨l,m,o,p,q,r,s,t,u⟩:=a.cells;(try have F:=a.kid0 c.ks (by with_reducible assumption));(try have G:=a.kid c.ks (j:=1) (by with_reducible assumption) (by decide)))|(refine Bx.stp a (ah _ _) (by with_reducible first|exact am (Eo _)|assumption) ar (by(try simp only[aq]);omega) ?_;intro I a;have a:=am a;clear l m o p q r s t u;(try clear av ax a0 a1 a2 a3 a4 a5 a6 z0);obtain⟨l,m,o,p,q,r,s,t,u⟩:=a.cells;(try have F:=a.kid0 c.ks (by with_reducible assumption));(try have G:=a.kid c.ks (j:=1) (by with_reducible assumption) (by decide)))))
  go_wp2_with fail;first|go_end0|refine bH (fK rfl _ _ _) rfl ?_
  exact Bx.fin a (by simp only[aK,ByteArray.empty_append])
section
variable (w0 : World) (vt : Value) (t : Nat)
inductive BrO (p1:Addr) (n i:Nat) (ns:List Nd) (N:Nd) (vn vk:Value):FuncId->Array Value->ByteArray->Prop
 |br3 {word E Y Z:ByteArray}{q r c:Nat}:N.ks.length=3->N.ks[0]?=some (q:Int)->N.ks[1]?=some (r:Int)->N.ks[2]?=some (c:Int)->Hid (WE w0 vt t q E)->Hid (WB w0 vt t r Y)->c<n/\(ab ns c).k≠7->Hid (WB w0 vt t c Z)->BrO p1 n i ns N vn vk 82 #[pW w0,jG N vn vk,.string word] (word++E++⟨#[32]⟩++Y++⟨#[32,101,108,115,101,32]⟩++Z)
 |bre {word E Y Z:ByteArray}{q r c:Nat}:N.ks.length=3->N.ks[0]?=some (q:Int)->N.ks[1]?=some (r:Int)->N.ks[2]?=some (c:Int)->Hid (WE w0 vt t q E)->Hid (WB w0 vt t r Y)->c<n/\(ab ns c).k=7->Hid (∀an M cn ak L ck,NdR w0 p1 c (ab ns c) an M cn ak L ck->Wr w0 vt t 82 #[pW w0,jG (ab ns c) (.slice an M cn) (.slice ak L ck),.string ⟨#[32,101,108,105,102,32]⟩] Z)->BrO p1 n i ns N vn vk 82 #[pW w0,jG N vn vk,.string word] (word++E++⟨#[32]⟩++Y++Z)
 |neg {A E:ByteArray}{c:Nat}:N.ks.length=1->N.ks[0]?=some (c:Int)->Hid (N.op=19)->c<n/\((ab ns c).k=30/\((ab ns c).op=19/\A=⟨#[45]⟩++⟨#[32]⟩\/(ab ns c).op≠19/\A=⟨#[45]⟩)\/(ab ns c).k≠30/\A=⟨#[45]⟩)->Hid (Wr w0 vt t 80 #[pW w0,.int .i64 (c:Int),.int .i64 11] E)->BrO p1 n i ns N vn vk 134 #[pW w0,jG N vn vk] (A++E)
end
def Eu{c:Addr}{m:Nat}{ns:List Nd}(w:dy w0 (O (U c) n m) ns)(x:Ep w0 c ns)(bh:ns.length=n)(br:n<=1048576){tab:Nat}(R:NdR w0 c i N an M cn ak L ck){f:FuncId}{args:Array B1}{a5:ByteArray}(bd:BrO w0 (O (U c) n m) tab c n i ns N (O an M cn) (O ak L ck) f args a5):
  Wr w0 (O (U c) n m) tab f args a5:=by
 intro bk a7 a1 bf;have a6:=a1.lt;have bc:=R.hL;have bn:=R.cap;have a:=am (Bx.new a1 N (O an M cn) (O ak L ck));cases bd
 case' br3 b _ _ _ _ _ _ g hX=>
  have⟨s,q,u,r,p,t,l⟩:=zv w x (show b<ns.length by omega);obtain⟨g,v⟩:=g;have a0:((ab ns b).k==7)=C2:=by simpa using v
 case' bre b _ _ _ _ _ _ g hX=>
  obtain⟨s,q,u,r,p,t,l⟩:=zv w x (show b<ns.length by omega);obtain⟨g,v⟩:=g;have a0:=kqs v;clear v;have a9:=am (hX _ _ _ _ _ _ l);unfold jG at a9;clear hX
 case' neg b _ _ ho g hX=>
  obtain⟨s,q,u,r,p,t,l⟩:=zv w x (show b<ns.length by omega);have bl:=kqf ho.out;obtain⟨g,⟨y,⟨z,rfl⟩|⟨z,rfl⟩⟩|⟨y,rfl⟩⟩:=g;all_goals first|have a0:=kqs y|have a0:((ab ns b).k==30)=C2:=by simpa using y
  all_goals first|have bb:=kqs z|have bb:((ab ns b).op==19)=C2:=by simpa using z|skip
  all_goals clear y;try clear z
 all_goals
  try simp only[aq]at bf
  have bp:(b:Int)<(n:Int):=by omega
  have bo:(0:Int)<=(b:Int):=by omega
  generalize ab ns b=a4 at *;have ax:=am l;obtain⟨o,rfl⟩:=R.ks.ptr;have d:=am R;have bj:=bc.symm.trans (by with_reducible assumption:N.ks.length=_);subst bj;obtain⟨K,ad,al,ao,ap,ar,au,av,h⟩:=a.cells;have a2:=a.kid0 d.ks (by with_reducible assumption)
  (try have a8:=a.kid d.ks (j:=1) (by with_reducible assumption) (by decide))
  (try have a3:=a.kid d.ks (j:=2) (by with_reducible assumption) (by decide))
  obtain⟨A,B,C,E,F,G,H,I,J,_,_⟩:=ax.rd _ a.pr.bel;have z0:=a.pr.cells.1;clear a1 R l w x bh;unfold jG;go_in
  repeat (go_wp2_with fail;refine Bx.stp a (by first|exact ah _ _|exact aw (gc _ _)) (by with_reducible first|exact am (Eo _)|assumption) a6 (by(try simp only[aq]);omega) ?_;intro ba a;have a:=am a;clear K ad al ao ap ar au av h;obtain⟨K,ad,al,ao,ap,ar,au,av,h⟩:=a.cells;have a2:=a.kid0 d.ks (by with_reducible assumption);(try have a8:=a.kid d.ks (j:=1) (by with_reducible assumption) (by decide));(try have a3:=a.kid d.ks (j:=2) (by with_reducible assumption) (by decide));obtain⟨A,B,C,E,F,G,H,I,J,_,_⟩:=ax.rd _ a.pr.bel;have z0:=a.pr.cells.1)
  go_wp2_with fail;first|go_region_held3 (λe=>e.cell? ⟨w0.heap.size,0,A2⟩=U (O (U c) n m)/\e.cell? ⟨a7.heap.size,8,A2⟩=U (O (U o) 1 ck)/\e.cell? o=U (A0 Ax (b:Int))/\NdC e (c.add (b*9)) a4 (O s q u) (O r p t)) (first|exact⟨z0,h,a2,A,B,C,E,F,G,H,I,J⟩|((repeat' refine And.intro ?_ ?_)<;>go_keep)) (fail)|go_region_held3 (λe=>e.cell? ⟨w0.heap.size,0,A2⟩=U (O (U c) n m)/\e.cell? ⟨a7.heap.size,8,A2⟩=U (O (U o) 3 ck)/\e.cell? ⟨o.block,o.off+2,A2⟩=U (A0 Ax (b:Int))/\NdC e (c.add (b*9)) a4 (O s q u) (O r p t)) (first|exact⟨z0,h,a3,A,B,C,E,F,G,H,I,J⟩|((repeat' refine And.intro ?_ ?_)<;>go_keep)) (fail)
  repeat (go_wp2_with fail;refine Bx.stp a (by first|exact ah _ _|exact aw (gc _ _)) (by with_reducible first|exact am (Eo _)|assumption) a6 (by(try simp only[aq]);omega) ?_;intro ba a;have a:=am a;clear K ad al ao ap ar au av h;obtain⟨K,ad,al,ao,ap,ar,au,av,h⟩:=a.cells;have a2:=a.kid0 d.ks (by with_reducible assumption);(try have a8:=a.kid d.ks (j:=1) (by with_reducible assumption) (by decide));(try have a3:=a.kid d.ks (j:=2) (by with_reducible assumption) (by decide));obtain⟨A,B,C,E,F,G,H,I,J,_,_⟩:=ax.rd _ a.pr.bel;have z0:=a.pr.cells.1)
  go_wp2_with fail;first|go_end0|refine bH (fK rfl _ _ _) rfl ?_
  exact Bx.fin a (by simp only[aK])
def ahz(ns:List Nd)(B:Nat)(ls:List Int):Prop:=∀z∈ls,∃a:Nat,z=(a:Int)/\a<B/\a<ns.length/\fy (ab ns a).k=Fs
def afv(c:B2)(k v:B1)(ns:List Nd)(E:Int->ByteArray)(t:Int)(B:Nat)(ak:OkE c k ns E t B)(ls:List Int)(G:dh c v ls)(ad:ahz ns B ls)(ao:ls.length<=1048576)(T:ByteArray)(w:B2)(h:Pr c k T t w)(al:T.size+(bK (ls.map E)).size<=140737488355328):
  B6 A5 79 #[E2 (U ⟨c.heap.size,0,A2⟩),v] w λe w'=>e= B3 (Hm #[])/\Pr c k (T++bK (ls.map E)) t w'/\Kq c.heap.size w w':=by
 have i:=Dl h G ad ak;obtain⟨a1,a2,rfl⟩:=G.form;have⟨j,F⟩:=aJ ls.length;rw[F]at ao i⊢;have A:=am F;have⟨b,q⟩:=aJ (ls.map E);rw[q]at al⊢;have z:Ce (ls.map E=b/\b.length=j):=⟨q,by rw[<-q,bC];exact A⟩;go_in;go_wp2;go_loopw [8] (λs wr=>∃a:Nat,a<=j/\s= A0 Ax a/\Ce (Pr c k (T++bK (b.take a)) t wr/\Kq c.heap.size w wr)) (λs _=>j-(E0 s).toNat)
 case atStart=>exact⟨0,by omega,rfl,by rw[show T++bK (b.take 0)=T from ByteArray.append_empty];exact i.1,Kq.refl _ _⟩
 case round=>
  obtain⟨a,a4,rfl,d⟩:=hrel;by_cases an:a<j
  .obtain⟨a0,r⟩:=cA A.out an;obtain⟨f,rfl,ap,a8,ar⟩:=i.2.2.1 a0 (cG r);obtain⟨H,rfl,I⟩:=(i.2.1.below d.1.bel).get r;have a6:(a:Int)<(j:Int):=by omega
   have a5:(0:Int)<=(a:Int):=by omega
   have au:b[a]?=U (E f):=by rw[<-z.out.1,ci,r];rfl
   have K:=qu b a (E f) au;have L:=C1 b (a+1);have o:=iK K L;have p:=iK ap ar;by_cases C:a=0
   .subst C;have m:bK (b.take (0+1))=bK (b.take 0)++E f:=by rw[o.out.1,ae rfl]
    have n:=o.2;rw[m,aq]at n;have g:=iK m n;have a3:wr.cell? H=U (A0 Ax (f:Int)):=by simpa [Addr.add] using I
    go_wp2_with fail;refine(i.2.2.2.zero f _ _ p.1 p.2 d.1 (by have:=g.2;rw[aq];omega)).mono ?_;rintro e x ⟨rfl,p2,u⟩;have l:=iK p2 u;go_wp2_with fail;refine⟨⟨1,by omega,by go_num,?_,d.2.trans l.2⟩,by simp[E0];omega⟩;rw[show(1:Nat)=0+1 from rfl,g.out.1,<-aK];exact l.1
   .have m:bK (b.take (a+1))=bK (b.take a)++dH++E f:=by rw[o.out.1,aa C]
    have n:=o.2;rw[m,aq,aq]at n;have J:dH.size=2:=rfl;have g:=mo m n J;have a7:(0:Int)<(a:Int):=by omega
    go_wp2_with fail;refine(gK c k _ _ _ _ d.1 (by have:=g.2;rw[aq];show _+dH.size<=_;omega)).mono ?_;rintro e x ⟨rfl,p2,u⟩;have l:Ce (Pr c k (T++bK (b.take a)++dH) t x/\Kq c.heap.size wr x):=⟨p2,u⟩;go_wp2_with fail;refine(i.2.2.2.zero f _ _ p.1 p.2 l.1 (by have:=g.2;rw[aq,aq];omega)).mono ?_;rintro e a9 ⟨rfl,ax,av⟩;have y:=iK ax av;go_wp2_with fail;refine⟨⟨a+1,by omega,by go_num,?_,(d.2.trans l.2).trans y.2⟩,by simp[E0];omega⟩;rw[g.out.1,<-aK,<-aK];exact y.1
  .obtain rfl:a=j:=by omega
   go_wp2_with fail;go_end0
   refine⟨rfl,?_,d.2⟩;have:=d.1
   rwa [cj (by rw[z.out.2];exact af _)]at this
def tC(l:List ByteArray)(k:Nat)(x:ByteArray)(c:l[k]?=U x):gC (l.take (k+1))=gC (l.take k)++x:=by
 obtain⟨a,b⟩:=List.getElem?_eq_some_iff.1 c;unfold gC;rw[List.take_succ_eq_append_getElem a,List.foldl_append,b];rfl
def ahA(l:List ByteArray)(k:Nat):(gC (l.take k)).size<=(gC (l.take (k+1))).size:=by
 by_cases a:k<l.length
 .rw[tC l k _ (az a),aq];omega
 .rw[cj (by omega),cj (by omega)];exact af _
def adu(l:List ByteArray)(k:Nat):(gC (l.take k)).size<=(gC l).size:=by
 have b:∀a,(gC (l.take k)).size<=(gC (l.take (k+a))).size:=by
  intro a
  induction a with
  |zero=>exact af _
  |succ a c=>exact di c (ahA l (k+a))
 have:=b l.length
 rwa [cj (show l.length<=k+l.length by omega)]at this
def aqn(c:B2)(d:B1)(ns:List Nd)(S:Int->Nat->ByteArray)(B:Nat):Prop:=
 ∀(a b:Nat)(T:ByteArray)(W:B2),a<B->eA (ab ns a).k=Fs->b+B<=500000->Pr c d T b W->T.size+(S a b).size<=140737488355328->
  B6 A5 19 #[E2 (U ⟨c.heap.size,0,A2⟩),A0 Ax (a:Int)] W λe w'=>e= B3 (Hm #[])/\Pr c d (T++S a b) b w'/\Kq c.heap.size W w'
def aqo(ns:List Nd)(B:Nat)(ls:List Int):Prop:=∀z∈ls,∃a:Nat,z=(a:Int)/\a<B/\a<ns.length/\eA (ab ns a).k=Fs
def afw(a:B2)(x:B1)(ns:List Nd)(S:Int->Nat->ByteArray)(B:Nat)(ax:aqn a x ns S B)(av:dy a x ns)(bl:ns.length<=1048576)(i:Nat)(a3:i<ns.length)(ar:aqo ns B (ab ns i).ks)(a4:(ab ns i).ks.length<=1048576)(tab:Nat)(cq:tab+B<500000)
  (T:ByteArray) (w:B2) (h:Pr a x T tab w) (G:T.size+(xe S (ab ns i).ks tab).size<=140737488355328):
  B6 A5 77 #[E2 (U ⟨a.heap.size,0,A2⟩),A0 Ax (i:Int)] w λe w'=>e= B3 (Hm #[])/\Pr a x (T++xe S (ab ns i).ks tab) tab w'/\Kq a.heap.size w w':=by
 have bp:=Jd a3;obtain⟨b8,k,rfl⟩:=av.form;obtain⟨l,rfl,cu,ct,ao⟩:=av.get bp;have⟨z0,cx,cy⟩:=h.cells;have bc:=ag h.bel ao.c8;have u:=ao.hk;have⟨o,bn⟩:=aJ ((ab ns i).ks);rw[bn]at ar a4 G u⊢;obtain⟨b9,ca,rfl⟩:=u.form;have⟨f,bj⟩:=aJ ns.length;have⟨j,au⟩:=aJ o.length;rw[bj]at z0 h ax bl a3⊢;rw[au]at bc u a4;have g:=aev h u ar ax au;have cm:(i:Int)<(f:Int):=by omega
 have cn:(0:Int)<=(i:Int):=by omega
 have⟨an,m⟩:=aJ (xe S o tab);rw[m]at G⊢;unfold xe at m;by_cases t:o=[]
 .have bh:j=0:=by have:=g.2.2.2.2;rw[t]at this;simpa using this.symm
  rw[ae t]at m;subst m bh;go_in;go_wp2_with fail;refine(gK a _ T _ _ _ g.1 G).mono ?_;rintro e y ⟨rfl,v,J⟩;go_wp2;exact bH (fK rfl _ _ _) rfl ⟨rfl,v,J⟩
 .rw[aa t]at m;have cd:0<j:=by
   have:=g.2.2.2.2;cases o with
   |nil=>exact absurd rfl t
   |cons b7 cr=>simp at this;omega
  have ce:((j:Int)==0)=C2:=by simp;omega
  obtain⟨c,H⟩:∃c,(o.map λb=>fD (tab+1)++S b (tab+1))=c:=⟨_,rfl⟩;rw[H]at m;have F:Ce (⟨#[123]⟩++gC c++fD tab++⟨#[125]⟩=an/\(o.map λb=>fD (tab+1)++S b (tab+1))=c/\c.length=j):=⟨m,H,by rw[<-H,bC];exact g.2.2.2.2⟩;have bv:T.size+(1+(gC c).size+(tab+1)+1)<=140737488355328:=by
   have e:an.size=1+(gC c).size+(tab+1)+1:=by rw[<-m,aq,aq,aq,nj];rfl
   omega
  have q:=am bv;go_in;go_wp2_with fail;refine(gK a _ T ⟨#[123]⟩ _ _ g.1 (by have:=q.out;show T.size+1<=_;omega)).mono ?_;rintro e y ⟨rfl,v,J⟩;have⟨b2,a9,L⟩:=v.cells;have b3:=L 2;have bD:=v.putTab ((tab:Int)+1);have z:Ce (Pr a (O (U l) f k) (T++⟨#[123]⟩) ((tab+1:Nat):Int) (y.setCell ⟨a.heap.size,2,A2⟩ (A0 Ax ((tab:Int)+1)))/\Kq a.heap.size w (y.setCell ⟨a.heap.size,2,A2⟩ (A0 Ax ((tab:Int)+1)))):=⟨by rw[show((tab+1:Nat):Int)=(tab:Int)+1 by omega];exact bD,J.trans (Kq.putP _ _ _ _)⟩;go_wp2_with fail;generalize y.setCell ⟨a.heap.size,2,A2⟩ (A0 Ax ((tab:Int)+1))=b5 at z⊢;go_loopw [32] (λK wr=>∃b:Nat,b<=j/\K= A0 Ax b/\Ce (Pr a (O (U l) f k) (T++⟨#[123]⟩++gC (c.take b)) ((tab+1:Nat):Int) wr/\Kq a.heap.size w wr)) (λK _=>j-(E0 K).toNat)
  case atStart=>exact⟨0,by omega,rfl,by rw[show T++⟨#[123]⟩++gC (c.take 0)=T++⟨#[123]⟩ from ByteArray.append_empty];exact z.1,z.2⟩
  case round=>
   obtain⟨b,cf,rfl,n⟩:=hrel;by_cases bo:b<j
   .obtain⟨b4,I⟩:=cA g.2.2.2.2 bo;obtain⟨p,rfl,br,cp,bs⟩:=g.2.2.1 b4 (cG I);obtain⟨ba,rfl,bb⟩:=(g.2.1.below n.1.bel).get I;have cl:(b:Int)<(j:Int):=by omega
    have ck:(0:Int)<=(b:Int):=by omega
    have bt:c[b]?=U (fD (tab+1)++S p (tab+1)):=by rw[<-F.out.2.1,ci,I];rfl
    have ap:=tC c b _ bt;have bd:=adu c (b+1);have bf:(gC (c.take b)).size+(tab+2+(S p (tab+1)).size)<=(gC c).size:=by rw[ap,aq,aq,nj]at bd;omega
    have E:=iK ap bf;have ak:=iK br bs;have a0:b=0->wr.cell? ba=U (A0 Ax (p:Int)):=λe=>by subst e;simpa [Addr.add] using bb
    have b1:∀d,Pr a (O (U l) f k) (T++⟨#[123]⟩++gC (c.take b)++fD (tab+1)) ((tab+1:Nat):Int) d->Kq a.heap.size wr d->B6 A5 19 #[E2 (U ⟨a.heap.size,0,A2⟩),A0 Ax (p:Int)] d λe w'=>e= B3 (Hm #[])/\Ce (Pr a (O (U l) f k) (T++⟨#[123]⟩++gC (c.take (b+1))) ((tab+1:Nat):Int) w'/\Kq a.heap.size w w'):=by
     intro d s r;refine(g.2.2.2.1 p (tab+1) _ d ak.1 ak.2 (by omega) s (by have:=E.2;have:=q.out;rw[aq,aq,aq,nj];show T.size+1+_+_+_<=_;omega)).mono ?_;rintro e a7 ⟨rfl,bE,bw⟩;refine⟨rfl,?_,(n.2.trans r).trans bw⟩;rw[E.out.1,<-aK,<-aK];exact bE
    have al:Ce (∀d,Pr a (O (U l) f k) (T++⟨#[123]⟩++gC (c.take b)++fD (tab+1)) ((tab+1:Nat):Int) d->Kq a.heap.size wr d->B6 A5 19 #[E2 (U ⟨a.heap.size,0,A2⟩),A0 Ax (p:Int)] d λe w'=>e= B3 (Hm #[])/\Ce (Pr a (O (U l) f k) (T++⟨#[123]⟩++gC (c.take (b+1))) ((tab+1:Nat):Int) w'/\Kq a.heap.size w w')):=b1;have a5:=Lb a (O (U l) f k) (T++⟨#[123]⟩++gC (c.take b)) (tab+1) wr n.1 (by omega) (by have:=E.2;have:=q.out;rw[aq,aq];show T.size+1+_+_<=_;omega);by_cases bk:b=0
    .subst bk;have cb:=a0 rfl;go_wp2_with fail;refine a5.mono ?_;rintro e d ⟨rfl,s,r⟩;have ks:=al.out d s r;go_wp2_with fail;refine ks.mono ?_;rintro e a7 ⟨rfl,A⟩;go_wp2;exact⟨⟨1,by omega,by go_num,A⟩,by simp[E0];omega⟩
    .clear a0;go_wp2_with fail;refine a5.mono ?_;rintro e d ⟨rfl,s,r⟩;have ks:=al.out d s r;go_wp2_with fail;refine ks.mono ?_;rintro e a7 ⟨rfl,A⟩;go_wp2;exact⟨⟨b+1,by omega,by go_num,A⟩,by simp[E0];omega⟩
   .obtain rfl:b=j:=by omega
    have⟨b2,a9,L⟩:=n.1.cells;have cw:wr.cell? ⟨a.heap.size,2,A2⟩=U (A0 Ax ((tab:Int)+1)):=by rw[a9];rw[show((tab+1:Nat):Int)=(tab:Int)+1 by omega]
    have b3:=L 2;have a6:=n.1.putTab (tab:Int);rw[cj (by rw[F.out.2.2];exact af _)]at a6;have C:Ce (Pr a (O (U l) f k) (T++⟨#[123]⟩++gC c) (tab:Int) (wr.setCell ⟨a.heap.size,2,A2⟩ (A0 Ax (tab:Int)))/\Kq a.heap.size w (wr.setCell ⟨a.heap.size,2,A2⟩ (A0 Ax (tab:Int)))):=⟨a6,n.2.trans (Kq.putP _ _ _ _)⟩;have cc:(tab:Int)+1-1=(tab:Int):=by omega
    go_wp2_with fail;generalize wr.setCell ⟨a.heap.size,2,A2⟩ (A0 Ax (tab:Int))=b6 at C⊢;refine(Lb a _ _ tab _ C.1 (by omega) (by have:=q.out;rw[aq,aq];show T.size+1+_+_<=_;omega)).mono ?_;rintro e a8 ⟨rfl,bF,bx⟩;have ad:Ce (Pr a (O (U l) f k) (T++⟨#[123]⟩++gC c++fD tab) (tab:Int) a8/\Kq a.heap.size w a8):=⟨bF,C.2.trans bx⟩;go_wp2_with fail;refine(gK a _ _ ⟨#[125]⟩ _ _ ad.1 (by have:=q.out;rw[aq,aq,aq,nj];show T.size+1+_+_+1<=_;omega)).mono ?_;rintro e cv ⟨rfl,b0,bA⟩;go_wp2_with fail;go_end0
    refine⟨rfl,?_,ad.2.trans bA⟩;rw[<-F.out.1,<-aK,<-aK,<-aK];exact b0
def dN(k op n:Int)(t:ByteArray)(nm:List ByteArray)(ks:List Int):Nd:=⟨k,0,0,0,op,n,t,nm,ks⟩
section
variable {C : Cd} {T : Int} {E : Bs} {W W' : World} {c c' : Cr} {L : List Mb} {R : List Rwx}
def aqp{a mk:Nat}(h:Bd C T E W c L (rS (O an a cn) N.nm::rI (O ak mk ck) N.ks::R))(b0: -100000<=T/\T<=100000)(bj:L.length<=25000):
  B6 A5 104 #[bV E,F0 (B9 N (O an a cn) (O ak mk ck))] W λe w'=>e= B3 (A0 Ax (L.length:Nat))/\Bd C T E w' c (L++[⟨N,O an a cn,O ak mk ck⟩]) R/\H1 E.base W w':=by
 have⟨g,K⟩:=aJ L.length;have⟨n,B⟩:=aJ (T-(L.length:Int));have b2: -200000<=n/\n<=200000:=by omega
 rw[K]at bj⊢;have b7:=h.lt;have a1:=gc W (B0 (B9 N (O an a cn) (O ak mk ck)) 61);have bc:=(h.below a1).c0;have bE:(W.alloc (B0 (B9 N (O an a cn) (O ak mk ck)) 61)).frozen? ⟨E.bb,2,A2⟩=C2:=by
  have⟨v,w,x⟩:=(h.below a1).row;exact cC _ _ _ _ _ w
 rw[B]at bc;go_in;go_wp21
 have⟨H,a0⟩:=aJ (W.setCell ⟨E.bb,2,A2⟩ (A0 Ax (n-1)));have z:=h.less;rw[B]at z;have ad:(W.setCell ⟨E.bb,2,A2⟩ (A0 Ax (n-1))).heap.size=W.heap.size:=by simp[Ck]
 have⟨ap,ax,bf⟩:=h.row;rw[B]at ax;have ao:(W.setCell ⟨E.bb,2,A2⟩ (A0 Ax (n-1))).heap[E.bb]?=U (B0 #[cV E,ap,A0 Ax (n-1)] 89 (0,0)):=bg W E.bb 2 _ _ _ ax;rw[a0]at z ad ao;rw[a0];have A:=gc H (B0 (B9 N (O an a cn) (O ak mk ck)) 61);have k:=aB H (B0 (B9 N (O an a cn) (O ak mk ck)) 61);have⟨d,J⟩:=aJ (H.alloc (B0 (B9 N (O an a cn) (O ak mk ck)) 61));rw[J]at A k;rw[ad]at k;have l:=Dl (z.1.below A) (z.2.trans (A.mono (by omega))) k (show d.heap.size=W.heap.size+1 by rw[<-J];simp[ad]);have o:=(A.block _ (ai ao)).trans ao;rw[J];have a5:ap.ownBlock≠U W.heap.size:=λe=>by have:=(bf.lt _ e).2;omega
 have⟨v,w,x⟩:=l.1.row;obtain rfl:ap=v:=by
  rw[w]at o;simp at o;exact o.1.symm
 obtain⟨p,q,rfl⟩:=cg x;have I:d.cell? ⟨E.bb,1,A2⟩=U (O p L.length q):=by rw[aj _ _ _ _ _ _ w];rfl
 rw[K]at I x a5 o;have k:=l.2.2.1;refine F2 (S:=λG=>G.heap[W.heap.size]?=U (B0 (B9 N (O an a cn) (O ak mk ck)) 61 (0,0))) (by kernel_rfl) k (λhS=>?_);simp only[jo,bB,fs,Nat.reduceAdd,jI,kG,kH,dI,ed];refine dB 0 (E2 (U ⟨E.bb,0,A2⟩)) rfl rfl hS (λw' m=>by go_simp) ?_;simp only[B4];refine dB 1 (E2 (U ⟨E.bb,0,A2⟩)) rfl rfl hS (λw' m=>by go_simp) ?_;simp only[B4];refine dB 2 (E2 (U ⟨E.bb,0,A2⟩)) rfl rfl hS (λw' m=>by go_simp) ?_;simp only[B4];refine dB 3 (E2 (U ⟨E.bb,1,A2⟩)) rfl rfl hS (λw' m=>by go_simp) ?_;simp only[B4];refine agA 5 17 (F0 (B9 N (O an a cn) (O ak mk ck))) rfl rfl (by kernel_rfl) (by kernel_rfl) (by kernel_rfl) (λ_ _ _ h=>h) (by rfl) hS (λw' m=>by have ca:=bu (N:=N) m;go_simp) ?_;simp only[Act.put,fe,fl,fG];have bk:=I;refine Ar (S:=λG=>G.cell? ⟨E.bb,1,A2⟩=U (O p g q)) (C:=λr=>!(r==7||r==8||r==9||r==10)) (i:=4) (v:= O p g q) rfl (Hp (by kernel_rfl)) (λ_ _ _ h=>h) ?hC _ _ _ _ (Hs rfl (by kernel_rfl)) (List.contains_iff_mem.1 (by kernel_rfl)) (Or.inl ⟨by rfl,λw' m=>by go_simp⟩) hS bk ?_
 case hC=>
  intro r b8 a3 b;simp only[Bool.not_eq_false',yz,mj]at b;rcases b with((rfl|rfl)|rfl)|rfl
  .obtain rfl:=bz a3;exact⟨{on:=4,ground:=Ground.data},by simp,rfl,rfl⟩
  all_goals
   obtain rfl:=bz a3;exact⟨{on:=4,ground:=Ground.phase},by simp,rfl,rfl⟩
 simp only[Act.put,fe,fl,fG];refine iH (i:=6) (by kernel_rfl) rfl (λt f=>?_);go_simp;have au:∀a6,be d (d.drew.alloc a6):=λa6=>(aw (ah _ _)).alloc (by simp) _;refine f _ _ (((au _).block _ (ai k)).trans k) (λ_=>ag (au _) I) ?_;try simp only[fe,fl,fG]
 have j:=aw (gc d (B0 (B9 N (O an a cn) (O ak mk ck)) 61));have a8:(d.alloc (B0 (B9 N (O an a cn) (O ak mk ck)) 61)).drew.heap[d.heap.size]?=_:=aB d _;generalize World.drew (World.alloc _ _)=a9 at j a8⊢;have bw:=l.1.below j;have bv:=(j.block _ (ai o)).trans o;have bl:=l.1.lt;have bn:=l.2.2.2;have⟨bo,bp,br,bs,bt⟩:=eu IA;refine iH (i:=7) (by kernel_rfl) rfl (λt f=>?_);refine step_append_lies _ (by rfl) _ _ 23 (by rfl) E.base 61 bo _ 9 112 underlying23 bp br bs bt rfl (by decide) (O p g q) g _ (by rfl) (de x j) ⟨d.heap.size,0,A2⟩ 1 1 (B9 N (O an a cn) (O ak mk ck)).toList (by rw[bn];rfl) rfl (Ex a8) (by intro b9 a4;simp at a4;rcases a4 with rfl|rfl|rfl|rfl|rfl|rfl|rfl|rfl|rfl<;>rfl) (by decide) (by unfold F1;omega) (by omega) (by have:=j.size;omega) a9.heap.size rfl ?_;intro y u s a7 a2 b1 b5;have bh:im L++(B9 N (O an a cn) (O ak mk ck)).toList=im (L++[⟨N,O an a cn,O ak mk ck⟩]):=by rw[tg];show _=im L++(J9 _++[]);rw[dC];rfl
 rw[bh]at a7;have⟨bx,ba,al⟩:=bw.push (by rw[B];exact bv) (by rw[K]) a7 a2;have F:=(a2.block _ (by have:=j.size;omega) (λe=>a5 e.symm)).trans ((j.block _ (by omega)).trans k);have bA:(s.setCell ⟨E.bb,1,A2⟩ (O (U ⟨y,0,A2⟩) (g+1) u)).heap[W.heap.size]?=U (B0 (B9 N (O an a cn) (O ak mk ck)) 61 (0,0)):=(aC _ _ _ _ (by show W.heap.size≠E.bb;omega)).trans F;have c5:s.cell? ⟨E.bb,1,A2⟩=U (O p g q):=by rw[aj _ _ _ _ _ _ al];rfl
 have bF:s.frozen? ⟨E.bb,1,A2⟩=C2:=cC _ _ _ _ _ al;have ar:=iK bx ((l.2.1.trans (j.mono bl.2.2.1)).trans ba);have bd:(s.setCell ⟨E.bb,1,A2⟩ (O (U ⟨y,0,A2⟩) (g+1) u)).cell? ⟨E.bb,1,A2⟩=U (O (U ⟨y,0,A2⟩) (g+1) u):=by rw[aj _ _ _ _ _ _ (bg _ E.bb 1 _ _ _ al)];rfl
 refine f _ _ F (λb=>by cases b) ?_;simp only[Act.put,fe,fl,fG];refine iH (i:=8) (by kernel_rfl) rfl (λt f=>?_);go_simp;refine f _ _ F (λb=>by cases b) ?_;try simp only[fe,fl,fG]
 refine iH (i:=9) (by kernel_rfl) rfl (λt f=>?_);go_simp;refine f _ _ F (λb=>by cases b) ?_;try simp only[fe,fl,fG]
 refine iH (i:=10) (by kernel_rfl) rfl (λt f=>?_);go_simp;refine f _ _ bA (λb=>by cases b) ?_;refine DB (by kernel_rfl) ?_ _;generalize s.setCell ⟨E.bb,1,A2⟩ (O (U ⟨y,0,A2⟩) (g+1) u)=bD at ar bd⊢;go_wp21
 go_ret;exact⟨by go_num,ar⟩
end
def In(C:Cd)(T:Int)(E:Bs)(W:B2)(c:Cr)(L:List Nd)(R:List Rwx):Prop:=∃M:List Mb,M.map Mb.N=L/\Bd C T E W c M R
def Rb(C:Cd)(T:Int)(f:FuncId)(b:List B1)(c:Cr)(L:List Nd)(v:B1)(d:Cr)(a:List Nd):Prop:=
 ∀ ⦃E:Bs⦄ ⦃W:B2⦄ ⦃R:List Rwx⦄,In C T E W c L R->B6 A5 f (bV E::b).toArray W λe w'=>e= B3 v/\In C T E w' d a R/\H1 E.base W w'
def Rr(C:Cd)(T:Int)(f:FuncId)(e:List B1)(c:Cr)(L:List Nd)(t:H0)(n:Nat)(i:List B1)(g:Cr)(d:List Nd):Prop:=
 ∀ ⦃E:Bs⦄ ⦃W:B2⦄ ⦃R:List Rwx⦄,In C T E W c L R->B6 A5 f (bV E::e).toArray W λh w'=>∃a b,h= B3 (O a n b)/\In C T E w' g d (⟨t,O a n b,i⟩::R)/\H1 E.base W w'
structure At (C:Cd) (T:Int) (E:Bs) (W w:B2) (c:Cr) (L:List Nd) (R:List Rwx):Prop where
 bd:In C T E w c L R
 bel:H1 E.base W w
def aor:(Tryz.prog.info? 3).map (λi=>(i.zero,i.size,i.bytes))=U (U (A0 Ax 0),1,8):=by kernel_rfl
section
variable {C : Cd} {T : Int} {E : Bs} {W w w' : World} {c c' : Cr} {L L' : List Nd} {R : List Rwx} {f : FuncId} {ar : List Value} {v : Value} {Q : Ending → World → Prop} {t : TypeId} {n : Nat} {xs : List Value}
def In.at(h:In C T E w c L R):At C T E w w c L R:=⟨h,ah _ _⟩
def At.run(a:At C T E W w c L R)(k:Rb C T f ar c L v c' L')(h:∀w',At C T E W w' c' L' R->Q (B3 v) w'):B6 A5 f (bV E::ar).toArray w Q:=
 (k a.bd).mono λd w' b=>b.1 ▸ h w' ⟨b.2.1,a.bel.trans b.2.2⟩
def At.runC(a:At C T E W w c L R)(k:Rc C f ar c v c')(h:∀w',At C T E W w' c' L R->w.grownBy w' (U E.cb)->Q (B3 v) w'):B6 A5 f (cV E::ar).toArray w Q:=by
 obtain⟨⟨g,e,b⟩,i⟩:=a;refine(k b.cu).mono ?_;rintro e w' ⟨rfl,j,d⟩;exact h w' ⟨⟨g,e,b.went d j⟩,i.trans (Dn d b.cu.lo.1 b.cu.lo.2)⟩ d
def At.runR(a:At C T E W w c L R)(k:Rr C T f ar c L t n xs c' L')(h:∀w' b d,At C T E W w' c' L' (⟨t,O b n d,xs⟩::R)->Q (B3 (O b n d)) w'):B6 A5 f (bV E::ar).toArray w Q:=by
 refine(k a.bd).mono ?_;rintro i w' ⟨b,d,rfl,e,g⟩;exact h w' b d ⟨e,a.bel.trans g⟩
def At.cu(a:At C T E W w c L R):Cu C E w c:=by
 have⟨d,_,b⟩:=a.bd;exact b.cu
def At.cs(a:At C T E W w c L R):(w.cell? ⟨E.bb,0,A2⟩=U (cV E)/\w.cell? ⟨E.bb,2,A2⟩=U (A0 Ax (T-L.length)))/\E.bb<w.heap.size:=by
 have⟨d,e,b⟩:=a.bd;have:=b.c0;rw[show d.length=L.length by rw[<-e,bC]]at this;exact⟨this,b.lt.2.1⟩
def At.below(a:At C T E W w c L R)(d:be w w'):At C T E W w' c L R:=by
 obtain⟨⟨e,f,b⟩,g⟩:=a;exact⟨⟨e,f,b.below d⟩,g.trans (d.mono b.lt.2.2.1)⟩
def At.al{o:Obj}(a:At C T E W w c L R):At C T E W (w.alloc o) c L R:=a.below (gc w o)
def At.lit(a:At C T E W w c L R)(ks:List Int)(f:ks.length<=100):At C T E W (w.alloc (B0 (ks.map (B7 Ax)).toArray 3)) c L (rI (O (U ⟨w.heap.size,0,A2⟩) ks.length ks.length) ks::R):=by
 obtain⟨⟨d,e,b⟩,g⟩:=a;exact⟨⟨d,e,b.newI ks f⟩,g.trans ((gc w _).mono b.lt.2.2.1)⟩
def At.lit1(a:At C T E W w c L R):At C T E W (w.alloc (B0 #[A0 Ax z] 3)) c L (rI (O (U ⟨w.heap.size,0,A2⟩) 1 1) [z]::R):=a.lit [z] (by simp)
def At.lit2{b:Int}(a:At C T E W w c L R):At C T E W (w.alloc (B0 #[A0 Ax z,A0 Ax b] 3)) c L (rI (O (U ⟨w.heap.size,0,A2⟩) 2 2) [z,b]::R):=a.lit [z,b] (by simp)
def At.nilI(a:At C T E W w c L R):At C T E W w c L (rI (O A2 0 0) []::R):=by
 obtain⟨⟨b,e,d⟩,f⟩:=a;exact⟨⟨b,e,d.nil toI⟩,f⟩
def At.nilS(a:At C T E W w c L R):At C T E W w c L (rS (O A2 0 0) []::R):=by
 obtain⟨⟨b,e,d⟩,f⟩:=a;exact⟨⟨b,e,d.nil toS⟩,f⟩
def At.swap{r b:Rwx}(a:At C T E W w c L (r::b::R)):At C T E W w c L (b::r::R):=by
 obtain⟨⟨d,f,e⟩,g⟩:=a;exact⟨⟨d,f,e.swap⟩,g⟩
def At.drop{r:Rwx}(a:At C T E W w c L (r::R)):At C T E W w c L R:=by
 obtain⟨⟨b,e,d⟩,f⟩:=a;exact⟨⟨b,e,d.drop⟩,f⟩
def At.form(a:At C T E W w c L (⟨t,v,xs⟩::R)):∃a c,v= O a xs.length c:=by
 obtain⟨⟨d,e,b⟩,f⟩:=a;exact b.form
def At.apG{st:H0}{u l:B1}{e:Nat}{p:List Oper}{Q:Exit->Act->B2->Prop}(A:Tryz.prog.underlying st=U (.slice t))(y:(Tryz.prog.info? t).map (λi=>(i.zero,i.size,i.bytes))=U (U l,1,e))(ax:l.cells.size=1)(F:e<=100)(ht:TO t)(h:At C T E W w c L (⟨t,v,xs⟩::R))(K:xs.length=n)(a7:n<=1000)(ao:u.oneCell'=Fs)(H:o.guard=A2)(s z:Operand)
  (ad:o.op= .call {callee:= .builtin .append,args:=#[s,z],argTypes:=#[st,st]}) (an:a.eval s=v) (ar:a.eval z= .slice (U ⟨w.heap.size,0,A2⟩) 1 1)
  (k:∀b d w1,At C T E W w1 c L (⟨t,.slice b (n+1) d,xs++[u]⟩::R)->wpList A5 ops Q p (a.put o.dst (.slice b (n+1) d)) w1):
  wpList A5 ops Q (o::p) a (w.alloc (.cells #[u] t)):=by
 subst K;obtain⟨⟨r,x,g⟩,ap⟩:=h.al (o:= .cells #[u] t);have⟨a3,J,a0,a1,a2⟩:=eu y;have ak:(w.alloc (.cells #[u] t)).ownsRow E.base t 1 v xs.length xs:=(g.rows _ bq).2;have a6:(xs.length+1)*e<=1001*100:=Nat.mul_le_mul (by omega) F;refine wpList_append_own_at _ H s z st ad E.base t a3 l 1 e A J a0 a1 a2 ax (by decide) v _ _ an ak ⟨w.heap.size,0,A2⟩ 1 1 [u] ar (by simp) (Ex (cs:=#[u]) (aB w _)) (by intro a9 au;rw[List.mem_singleton.1 au];exact ao) (by unfold F1;omega) (by omega) g.lt.2.2.1 ?_;intro a8 w1 m G _ B;obtain⟨b,d,rfl⟩:=cg m;have I:∀f,(G3 b (xs.length+1) d).ownBlock=U f->v.ownBlock=U f\/(w.alloc (.cells #[u] t)).heap.size<=f:=λf j=>by
  rcases B with q|q
  .exact .inl (q ▸ j)
  .rw[q]at j;cases j;exact .inr (af _)
 obtain⟨a4,a5⟩:=g.hot (r':=⟨t,.slice b (xs.length+1) d,xs++[u]⟩) G ht (by simpa using m) I;exact k b d w1 ⟨⟨r,x,a4⟩,ap.trans a5⟩
def At.app{e:List Oper}{Q:Exit->Act->B2->Prop}(h:At C T E W w c L (rI v ks::R))(i:ks.length=n)(j:n<=1000)(g:o.guard=A2)(s x:Operand)(l:o.op= .call {callee:= .builtin .append,args:=#[s,x],argTypes:=#[59,59]})(m:a.eval s=v)(p:a.eval x= O (U ⟨w.heap.size,0,A2⟩) 1 1)
  (k:∀b d w1,At C T E W w1 c L (rI (O b (n+1) d) (ks++[z])::R)->wpList A5 ops Q e (a.put o.dst (O b (n+1) d)) w1):wpList A5 ops Q (o::e) a (w.alloc (B0 #[A0 Ax z] 3)):=
 At.apG underlying59 aor rfl (by decide) toI h (by rw[bC,i]) j rfl g s x l m p λb d w1 f=>k b d w1 (by unfold rI;rw[eK];exact f)
def At.appS{e:List Oper}{Q:Exit->Act->B2->Prop}{ks:List ByteArray}{z:ByteArray}(h:At C T E W w c L (rS v ks::R))(i:ks.length=n)(j:n<=1000)(g:o.guard=A2)(s x:Operand)(l:o.op= .call {callee:= .builtin .append,args:=#[s,x],argTypes:=#[58,58]})(m:a.eval s=v)(p:a.eval x= O (U ⟨w.heap.size,0,A2⟩) 1 1)
  (k:∀b d w1,At C T E W w1 c L (rS (O b (n+1) d) (ks++[z])::R)->wpList A5 ops Q e (a.put o.dst (O b (n+1) d)) w1):wpList A5 ops Q (o::e) a (w.alloc (B0 #[Br z] 9)):=
 At.apG underlying58 zt rfl (by decide) toS h (by rw[bC,i]) j rfl g s x l m p λb d w1 f=>k b d w1 (by unfold rS;rw[eK];exact f)
def At.add{k op m:Int}{x:ByteArray}{nm:List ByteArray}{d mk:Nat}(a:At C T E W w c L (rS (O an d cn) nm::rI (O ak mk ck) ks::R))(i: -100000<=T/\T<=100000)(b:L.length<=25000)(h:∀w',At C T E W w' c (L++[dN k op m x nm ks]) R->Q (B3 (A0 Ax (L.length:Nat))) w'):
  B6 A5 104 #[bV E,F0 #[A0 Ax k,A0 Ax 0,A0 Ax 0,A0 Ax 0,A0 Ax op,A0 Ax m,Br x,O an d cn,O ak mk ck]] w Q:=by
 obtain⟨⟨l,rfl,e⟩,j⟩:=a;rw[bC]at b;refine(aqp (N:=dN k op m x nm ks) e i b).mono ?_;rintro n w' ⟨rfl,f,g⟩;rw[bC]at h;exact h w' ⟨⟨_,by rw[eK];rfl,f⟩,j.trans g⟩
def At.kids{k:Int}{mk:Nat}(a:At C T E W w c L (rI (O ak mk ck) ks::R))(j: -100000<=T/\T<=100000)(i:L.length<=25000)(h:∀w',At C T E W w' c (L++[dN k 0 0 ⟨#[]⟩ [] ks]) R->Q (B3 (A0 Ax (L.length:Nat))) w'):
  B6 A5 101 #[bV E,A0 Ax k,O ak mk ck] w Q:=by
 have e:B6 A5 101 #[bV E,A0 Ax k,O ak mk ck] w λb w'=>b= B3 (A0 Ax (L.length:Nat))/\At C T E W w' c (L++[dN k 0 0 ⟨#[]⟩ [] ks]) R:=by
  have f:=am a.nilS;go_in;go_wp2_with fail;refine f.out.add j i λw1 g=>?_;go_wp2;go_ret;exact⟨rfl,g⟩
 exact e.mono λb w' d=>d.1 ▸ h w' d.2
end
def opR(b:Bool):Int:=if b=Fs then 1 else 0
section
variable {E : Pe} {i j : Nat}
end
structure uy (w:B2) (N:Nd) (vn vk v7 v8:B1) (W:B2):Prop where
 b1:nA w.heap.size W 61 N vn vk
 b2:nA (w.heap.size+1) W 61 xL (.slice A2 0 0) (.slice A2 0 0)
 b3:nA (w.heap.size+1+1) W 61 N v7 v8
 bl:be w W
def uy.below(h:uy w N vn vk v7 v8 W)(a:be W W'):uy w N vn vk v7 v8 W':=
 ⟨h.b1.below a,h.b2.below a,h.b3.below a,h.bl.trans (a.mono h.bl.size)⟩
def uy.grown{row:Option Nat}(h:uy w N vn vk v7 v8 W)(a:W.grownBy W' row)(c:∀g,row=U g->w.heap.size+1+1+1<=g):uy w N vn vk v7 v8 W':=
 ⟨(a.block _ (ai h.b1) (λb=>by have:=c _ b.symm;omega)).trans h.b1,(a.block _ (ai h.b2) (λb=>by have:=c _ b.symm;omega)).trans h.b2,(a.block _ (ai h.b3) (λb=>by have:=c _ b.symm;omega)).trans h.b3,h.bl.grown a h.bl.size (λg a=>by have:=c g a;omega)⟩
def uy.put7(h:uy w N vn vk v7 v8 W)(u:B1):uy w N vn vk u v8 (W.setCell ⟨w.heap.size+1+1,7,A2⟩ u):=
 ⟨(aC _ _ _ _ (by simp;omega)).trans h.b1,(aC _ _ _ _ (by simp)).trans h.b2,bg W _ 7 _ _ _ h.b3,h.bl.setCell (by simp;omega) _⟩
def uy.put8(h:uy w N vn vk v7 v8 W)(u:B1):uy w N vn vk v7 u (W.setCell ⟨w.heap.size+1+1,8,A2⟩ u):=
 ⟨(aC _ _ _ _ (by simp;omega)).trans h.b1,(aC _ _ _ _ (by simp)).trans h.b2,bg W _ 8 _ _ _ h.b3,h.bl.setCell (by simp;omega) _⟩
def ab1(w:B2)(N:Nd)(bD bA:B1)(bc:bi w bD N.nm)(al:dh w bA N.ks)(b4:N.nm.length<=1048576)(b5:N.ks.length<=1048576):
  B6 A5 34 #[jG N bD bA] w λe w'=>∃v7 v8,e= B3 (jG N v7 v8)/\
   w'.ownsRow w.heap.size 9 1 v7 N.nm.length (N.nm.map A9)/\w'.ownsRow w.heap.size 3 1 v8 N.ks.length (N.ks.map (B7 Ax))/\be w w':=by
 obtain⟨q,p,rfl⟩:=bc.form;obtain⟨k,i,rfl⟩:=al.form;unfold jG;have ap:Ce (bi w (O q N.nm.length p) N.nm/\dh w (O k N.ks.length i) N.ks):=⟨bc,al⟩;clear bc al;obtain⟨m,a5⟩:∃bh,N.nm.length=bh:=⟨_,rfl⟩;obtain⟨g,a6⟩:∃bh,N.ks.length=bh:=⟨_,rfl⟩;have L:Ce (N.nm.length=m/\N.ks.length=g):=⟨a5,a6⟩;rw[a5]at ap b4⊢;rw[a6]at ap b5⊢;clear a5 a6;go_enter func34,ntmps34;go_wp2_with fail;obtain⟨ad,ak⟩:∃ad,((w.alloc (B0 #[A0 Ax N.k,A0 Ax N.f,A0 Ax N.t,A0 Ax N.l,A0 Ax N.op,A0 Ax N.n,Br N.x,O q m p,O k g i] 61)).alloc (B0 #[A0 Ax 0,A0 Ax 0,A0 Ax 0,A0 Ax 0,A0 Ax 0,A0 Ax 0,Br ⟨#[]⟩,O A2 0 0,O A2 0 0] 61)).alloc (B0 #[A0 Ax N.k,A0 Ax N.f,A0 Ax N.t,A0 Ax N.l,A0 Ax N.op,A0 Ax N.n,Br N.x,O A2 0 0,O k g i] 61)=ad:=⟨_,rfl⟩;have cc:ad.heap.size=w.heap.size+1+1+1:=by rw[<-ak];simp
 have bs:uy w N (O q m p) (O k g i) (O A2 0 0) (O k g i) ad:=by
  rw[<-ak];refine⟨(fp _ _ _ (by simp;omega)).trans ((fp _ _ _ (by simp)).trans (aB w _)),?_,?_,(((ah _ w).alloc (af _) _).alloc (by simp) _).alloc (by simp;omega) _⟩
  .have:=aB (w.alloc (B0 #[A0 Ax N.k,A0 Ax N.f,A0 Ax N.t,A0 Ax N.l,A0 Ax N.op,A0 Ax N.n,Br N.x,O q m p,O k g i] 61)) (B0 #[A0 Ax 0,A0 Ax 0,A0 Ax 0,A0 Ax 0,A0 Ax 0,A0 Ax 0,Br ⟨#[]⟩,O A2 0 0,O A2 0 0] 61);rw[dm]at this;exact(fp _ _ _ (by simp)).trans this
  .have:=aB ((w.alloc (B0 #[A0 Ax N.k,A0 Ax N.f,A0 Ax N.t,A0 Ax N.l,A0 Ax N.op,A0 Ax N.n,Br N.x,O q m p,O k g i] 61)).alloc (B0 #[A0 Ax 0,A0 Ax 0,A0 Ax 0,A0 Ax 0,A0 Ax 0,A0 Ax 0,Br ⟨#[]⟩,O A2 0 0,O A2 0 0] 61)) (B0 #[A0 Ax N.k,A0 Ax N.f,A0 Ax N.t,A0 Ax N.l,A0 Ax N.op,A0 Ax N.n,Br N.x,O A2 0 0,O k g i] 61);rw[dm,dm]at this;exact this
 rw[ak];clear ak;obtain⟨cl,b8,ce,cf,ck⟩:=eu ac0;obtain⟨cm,cn,cp,cq,cr⟩:=eu wI;have bn:Ce (bi w (O q m p) N.nm/\dh w (O k g i) N.ks):=ap;go_loopw [13] (λE wr=>∃(c:Nat) (C:B1),c<=m/\E= A0 Ax c/\uy w N (O q m p) (O k g i) C (O k g i) wr/\wr.ownsRow (w.heap.size+1+1+1) 9 1 C c ((N.nm.take c).map A9)/\w.heap.size+1+1+1<=wr.heap.size) (λE _=>m-(E0 E).toNat)
 case atStart=>exact⟨0,_,aH _,rfl,bs,fE _ _ _ _,by omega⟩
 case round=>
  obtain⟨c,C,al,rfl,h,j,ao⟩:=hrel;clear bs cc;by_cases ba:c<m
  .have ca:(c:Int)<(m:Int):=by omega
   have b9:(0:Int)<=(c:Int):=by omega
   obtain⟨B,A⟩:=cA L.out.1 ba;obtain⟨au,rfl,b7⟩:=(bn.out.1.below h.bl).get A;obtain⟨v,y,rfl⟩:=cg j;have bd:∀s,(G3 v c y).ownBlock=U s->w.heap.size+1+1+1<=s:=λs a9=>(j.lt s a9).1;have cy:=(bu h.b3).2.2.2.2.2.2.2.1;have a0:w.heap.size+1+1<wr.heap.size:=by omega
   have ar:Ce ((N.nm.take (c+1)).map A9=(N.nm.take c).map A9++[Br B]):=by
    show _=_;rw[C3 A,eK];rfl
   have H:Ce (uy w N (O (U au) m p) (O k g i) (O v c y) (O k g i) wr):=h;have F:Ce (wr.ownsRow (w.heap.size+1+1+1) 9 1 (O v c y) c ((N.nm.take c).map A9)):=j;clear A h j;go_wp2_with (at_builtin;refine rf _ rfl _ _ 58 rfl (w.heap.size+1+1+1) 9 cl _ 1 16 underlying58 b8 ce cf ck rfl (by decide) _ _ _ rfl (F.out.alloc _) ⟨wr.heap.size,0,A2⟩ 1 1 [Br B] rfl rfl (Ex (cs:=#[Br B]) (fr:=(0,0)) (aB wr _)) (by intro ct J;simp at J;subst J;rfl) (by unfold F1;omega) (by omega) (by simp;omega) ?_;intro cu K I G cb;obtain⟨a3,ax,rfl⟩:=G2 I;have z:=(H.out.below ((ah _ wr).alloc (af _) _)).grown G bd;have bE:=(bu z.b3).2.2.2.2.2.2.2.1;have bF:=(bu z.b3).2.2.2.2.2.2.2.2.2);have bf:=G.size;rw[dm]at bf;have cd:(K.setCell ⟨w.heap.size+1+1,7,A2⟩ (O (U ⟨a3,0,A2⟩) (c+1) ax)).heap.size=K.heap.size:=by simp[Ck]
   refine⟨⟨c+1,_,by omega,by go_num,z.put7 _,?_,by omega⟩,by simp[E0];omega⟩;rw[ar.out];exact jr I (by simp) _
  .obtain rfl:c=m:=by omega
   obtain⟨n,o,rfl⟩:=cg j;have bo:Ce (wr.ownsRow (w.heap.size+1+1+1) 9 1 (O n c o) c (N.nm.map A9)):=by rw[cj (by rw[L.out.1];exact af _)]at j;exact j
   have bk:Ce (uy w N (O q c p) (O k g i) (O n c o) (O k g i) wr):=h;have br:=(bu h.b1).2.2.2.2.2.2.2.2.1;have r:=(bu h.b3).2.2.2.2.2.2.2.2.1;have b0:=(bu h.b3).2.2.2.2.2.2.2.2.2;have a0:w.heap.size+1+1<wr.heap.size:=by omega
   clear h j;go_wp2_with fail;have a4:=bk.out.put8 (O A2 0 0);have bj:=jr (a:=⟨w.heap.size+1+1,8,A2⟩) bo.out (by simp) (O A2 0 0);have bv:(wr.setCell ⟨w.heap.size+1+1,8,A2⟩ (O A2 0 0)).heap.size=wr.heap.size:=by simp[Ck]
   rw[<-bv]at ao;clear br r b0 a0 bo bk bv;generalize wr.setCell ⟨w.heap.size+1+1,8,A2⟩ (O A2 0 0)=cx at a4 bj ao⊢;go_loopw [28] (λE wr=>∃(d:Nat) (C:B1),d<=g/\E= A0 Ax d/\uy w N (O q c p) (O k g i) (O n c o) C wr/\wr.ownsRow (w.heap.size+1+1+1) 9 1 (O n c o) c (N.nm.map A9)/\wr.ownsRow (w.heap.size+1+1+1) 3 1 C d ((N.ks.take d).map (B7 Ax))/\w.heap.size+1+1+1<=wr.heap.size) (λE _=>g-(E0 E).toNat)
   case atStart=>exact⟨0,_,aH _,rfl,a4,bj,fE _ _ _ _,ao⟩
   case round=>
    obtain⟨d,C,cz,rfl,h,an,j,ao⟩:=hrel;clear a4 bj;by_cases ba:d<g
    .have ca:(d:Int)<(g:Int):=by omega
     have b9:(0:Int)<=(d:Int):=by omega
     obtain⟨B,A⟩:=cA L.out.2 ba;obtain⟨au,rfl,b7⟩:=(bn.out.2.below h.bl).get A;obtain⟨v,y,rfl⟩:=cg j;have bd:∀s,(G3 v d y).ownBlock=U s->w.heap.size+1+1+1<=s:=λs a9=>(j.lt s a9).1;have br:=(bu h.b3).2.2.2.2.2.2.2.2.1;have a0:w.heap.size+1+1<wr.heap.size:=by omega
     have ar:Ce ((N.ks.take (d+1)).map (B7 Ax)=(N.ks.take d).map (B7 Ax)++[A0 Ax B]):=by
      show _=_;rw[C3 A,eK];rfl
     have b6:=lE an j (by decide);have H:Ce (uy w N (O q c p) (O (U au) g i) (O n c o) (O v d y) wr):=h;have F:Ce (wr.ownsRow (w.heap.size+1+1+1) 3 1 (O v d y) d ((N.ks.take d).map (B7 Ax))):=j;clear A h j;go_wp2_with (at_builtin;refine rf _ rfl _ _ 59 rfl (w.heap.size+1+1+1) 3 cm _ 1 8 underlying59 cn cp cq cr rfl (by decide) _ _ _ rfl (F.out.alloc _) ⟨wr.heap.size,0,A2⟩ 1 1 [A0 Ax B] rfl rfl (Ex (cs:=#[A0 Ax B]) (fr:=(0,0)) (aB wr _)) (by intro ct J;simp at J;subst J;rfl) (by unfold F1;omega) (by omega) (by simp;omega) ?_;intro cu K I G cb;obtain⟨a3,ax,rfl⟩:=G2 I;have z:=(H.out.below ((ah _ wr).alloc (af _) _)).grown G bd;have bE:=(bu z.b3).2.2.2.2.2.2.2.2.1;have bF:=(bu z.b3).2.2.2.2.2.2.2.2.2);have bf:=G.size;rw[dm]at bf;have cd:(K.setCell ⟨w.heap.size+1+1,8,A2⟩ (O (U ⟨a3,0,A2⟩) (d+1) ax)).heap.size=K.heap.size:=by simp[Ck]
     refine⟨⟨d+1,_,by omega,by go_num,z.put8 _,jr ((an.alloc _).kept G b6) (by simp) _,?_,by omega⟩,by simp[E0];omega⟩;rw[ar.out];exact jr I (by simp) _
    .obtain rfl:d=g:=by omega
     obtain⟨u,r,rfl⟩:=cg j;rw[cj (by rw[L.out.2];exact af _)]at j;have H:Ce (uy w N (O q c p) (O k d i) (O n c o) (O u d r) wr):=h;have F:Ce (wr.ownsRow (w.heap.size+1+1+1) 9 1 (O n c o) c (N.nm.map A9)/\wr.ownsRow (w.heap.size+1+1+1) 3 1 (O u d r) d (N.ks.map (B7 Ax))):=⟨an,j⟩;obtain⟨cI,c0,c3,c4,c6,c7,c8,c9,da,of⟩:=bu h.b3;obtain⟨z0,dc,dd,df,dg,dn,dq,bE,ds,bF⟩:=bu h.b2;have cB:w.heap.size+1<wr.heap.size:=by omega
     have cF:w.heap.size+1+1<wr.heap.size:=by omega
     clear h j an;go_wp2_with fail;have h:=H.out;have bt:=ajL h.b2 N (O n c o) (O u d r);have bw:=Ks (b:=w.heap.size+1) F.out.1 (by omega) N (O n c o) (O u d r);have bx:=Ks (b:=w.heap.size+1) F.out.2 (by omega) N (O n c o) (O u d r);have bp:=aa5 (b:=w.heap.size+1) h.bl (by omega) N (O n c o) (O u d r)
     change bodyPost _ _ _ _ _ (Kr wr (w.heap.size+1) N (O n c o) (O u d r))
     generalize Kr wr (w.heap.size+1) N (O n c o) (O u d r)=cw at bt bw bx bp⊢;exact bH (iF rfl _ _ (w.heap.size+1) _ _ _ _ rfl bt underlying61 rfl (by kernel_rfl)) rfl ⟨_,_,rfl,rK bw (by omega),rK bx (by omega),bp⟩
structure A4 (w:B2) (v:B1) (Q:List Mb) (W:B2):Prop where
 b2:W.heap[w.heap.size+1]?=U (.cells #[.slice A2 0 0] 25 (0,0))
 b3:W.heap[w.heap.size+1+1]?=U (.cells #[v] 25 (0,0))
 row:W.ownsRow (w.heap.size+1+1+1) 61 9 v Q.length (im Q)
 each:∀x∈Q,W.ownsRow (w.heap.size+1+1+1) 9 1 x.vn x.N.nm.length (x.N.nm.map A9)/\W.ownsRow (w.heap.size+1+1+1) 3 1 x.vk x.N.ks.length (x.N.ks.map (B7 .i64))
 bl:be w W
def A4.below{Q:List Mb}(h:A4 w v Q W)(a:be W W'):A4 w v Q W':=
 ⟨(a.block _ (ai h.b2)).trans h.b2,(a.block _ (ai h.b3)).trans h.b3,de h.row a,λc b=>⟨de (h.each c b).1 a,de (h.each c b).2 a⟩,h.bl.trans (a.mono h.bl.size)⟩
def A4.appended{d:B1}{Q:List Mb}{x:Mb}{k:Nat}(j:Q.length=k)(h:A4 w v Q W)(m:W.ownsRow (w.heap.size+1+1+1) 9 1 x.vn x.N.nm.length (x.N.nm.map A9)/\W.ownsRow (w.heap.size+1+1+1) 3 1 x.vk x.N.ks.length (x.N.ks.map (B7 Ax)))
  (l:W'.ownsRow (w.heap.size+1+1+1) 61 9 d (k+1) (im Q++J9 x)) (b:W.grownBy W' v.ownBlock):W'.heap[w.heap.size+1+1]?=U (B0 #[v] 25 (0,0))/\A4 w d (Q++[x]) (W'.setCell ⟨w.heap.size+1+1,0,A2⟩ d):=by
 subst j;have f:∀c,v.ownBlock=U c->w.heap.size+1+1+1<=c:=λc b=>(h.row.lt c b).1;have n:=(b.block _ (ai h.b2) (λe=>by have:=f _ e.symm;omega)).trans h.b2;have g:=(b.block _ (ai h.b3) (λe=>by have:=f _ e.symm;omega)).trans h.b3;have i:∀{a:Mb},(W.ownsRow (w.heap.size+1+1+1) 9 1 a.vn a.N.nm.length (a.N.nm.map A9)/\W.ownsRow (w.heap.size+1+1+1) 3 1 a.vk a.N.ks.length (a.N.ks.map (B7 Ax)))->((W'.setCell ⟨w.heap.size+1+1,0,A2⟩ d).ownsRow (w.heap.size+1+1+1) 9 1 a.vn a.N.nm.length (a.N.nm.map A9)/\(W'.setCell ⟨w.heap.size+1+1,0,A2⟩ d).ownsRow (w.heap.size+1+1+1) 3 1 a.vk a.N.ks.length (a.N.ks.map (B7 Ax))):=λhy=>
  ⟨jr (hy.1.kept b (lE hy.1 h.row (by decide))) (by simp) _,jr (hy.2.kept b (lE hy.2 h.row (by decide))) (by simp) _⟩
 refine⟨g,(aC _ _ _ _ (by simp)).trans n,bg W' _ 0 _ _ _ g,?_,?_,(h.bl.grown b h.bl.size (λc b=>by have:=f c b;omega)).setCell (by simp;omega) _⟩
 .rw[bm,tg,sL];simp only[bB,fs];rw[show J9 x++im []=J9 x by simp[im]];exact jr l (by simp) _
 .intro a hy;rcases List.mem_append.1 hy with hy|hy
  .exact i (h.each a hy)
  .obtain rfl:=List.mem_singleton.1 hy;exact i m
def ahB{lo:Nat}{L:List Mb}(h:W.ownsRow lo 61 9 v L.length (im L))(n:∀x∈L,W.ownsRow lo 9 1 x.vn x.N.nm.length (x.N.nm.map A9)/\W.ownsRow lo 3 1 x.vk x.N.ks.length (x.N.ks.map (B7 Ax))):dy W v (L.map Mb.N):=by
 rcases bJ h with⟨o,rfl⟩|⟨m,l,rfl⟩
 .exact .inl ⟨by rw[jb o];rfl,_,_,rfl⟩
 .refine .inr ⟨⟨m,0,A2⟩,l,by rw[bC],λp N a=>?_⟩;rw[ci]at a;cases hx:L[p]? with
  |none=>rw[hx]at a;cases a
  |some x=>
   rw[hx]at a;obtain rfl:=bz a;rw[aeG];obtain⟨c,d,e,f,g,c5,i,j,k⟩:=th h hx;have b:=n x (cG hx);exact⟨x.vn,x.vk,c,d,e,f,g,c5,i,j,k,Gx b.1,Gy b.2⟩
def uz(w:B2)(v:B1)(ns:List Nd)(h:dy w v ns)(b5:ns.length<=1048576)(ba:∀N∈ns,N.nm.length<=1048576/\N.ks.length<=1048576):
  B6 A5 13 #[F0 #[v]] w λe w'=>∃a1,e= B3 (F0 #[a1])/\dy w' a1 (ns.map bareN)/\be w w':=by
 obtain⟨a,y,rfl⟩:=h.form;have bo:Ce (∀N∈ns,N.nm.length<=1048576/\N.ks.length<=1048576):=ba;obtain⟨g,j⟩:∃g,ns.length=g:=⟨_,rfl⟩;have a3:Ce (ns.length=g):=j;have bk:Ce (dy w (O a g y) ns):=by rw[<-j];exact h
 rw[j]at b5⊢;clear h ba j;obtain⟨cl,b4,cd,ce,cf⟩:=eu K6;go_enter func13,ntmps13;go_wp2_with fail;obtain⟨u,z⟩:∃u,((w.alloc (B0 #[O a g y] 25)).alloc (B0 #[O A2 0 0] 25)).alloc (B0 #[O A2 0 0] 25)=u:=⟨_,rfl⟩;have ca:u.heap.size=w.heap.size+1+1+1:=by rw[<-z];simp
 have bj:A4 w (O A2 0 0) [] u:=by
  rw[<-z];refine⟨?_,?_,fE _ _ _ _,λx E=>by simp at E,(((ah _ w).alloc (af _) _).alloc (by simp) _).alloc (by simp;omega) _⟩
  .have:=aB (w.alloc (B0 #[O a g y] 25)) (B0 #[O A2 0 0] 25);rw[dm]at this;exact(fp _ _ _ (by simp)).trans this
  .have:=aB ((w.alloc (B0 #[O a g y] 25)).alloc (B0 #[O A2 0 0] 25)) (B0 #[O A2 0 0] 25);rw[dm,dm]at this;exact this
 rw[z];clear z;go_loopw [10] (λa2 wr=>∃(b:Nat) (v:B1) (d:List Mb),b<=g/\a2= A0 Ax b/\d.length=b/\Ce (d.map Mb.N=(ns.take b).map bareN)/\A4 w v d wr/\w.heap.size+1+1+1<=wr.heap.size) (λa2 _=>g-(E0 a2).toNat)
 case atStart=>exact⟨0,_,[],aH _,rfl,rfl,rfl,bj,by omega⟩
 case round=>
  obtain⟨b,v,d,cq,rfl,r,a6,c,cw⟩:=hrel;clear bj ca;by_cases b6:b<g
  .obtain⟨N,C⟩:=cA a3.out b6;obtain⟨b8,b9⟩:=bo.out N (cG C);obtain⟨cn,rfl,dd,dc,b1⟩:=(bk.out.below c.bl).get C;have ct:(b:Int)<(g:Int):=by omega
   have cr:(0:Int)<=(b:Int):=by omega
   obtain⟨br,bs,bt,bv,bw,c5,bx,bA,bD,j,an⟩:=b1;obtain⟨J,L,rfl⟩:=j.form;obtain⟨I,K,rfl⟩:=an.form;have bp:Ce ((ns.take (b+1)).map bareN=(ns.take b).map bareN++[bareN N]):=by
    show _=_;rw[C3 C,eK];rfl
   have a4:Ce (bi wr (O J N.nm.length L) N.nm/\dh wr (O I N.ks.length K) N.ks):=⟨j,an⟩;have H:Ce (A4 w v d wr):=c;clear C j an c;go_wp2_with (go_at_call 34;fail);obtain⟨s,ad⟩:∃s,wr.alloc (B0 #[A0 Ax N.k,A0 Ax N.f,A0 Ax N.t,A0 Ax N.l,A0 Ax N.op,A0 Ax N.n,Br N.x,O J N.nm.length L,O I N.ks.length K] 61)=s:=⟨_,rfl⟩;have A:be wr s:=by rw[<-ad];exact(ah _ wr).alloc (af _) _
   rw[ad];clear ad;have ao:=ab1 s N (O J N.nm.length L) (O I N.ks.length K) (a4.out.1.below A) (a4.out.2.below A) b8 b9;unfold jG at ao;refine ao.mono ?_;rintro e i ⟨c9,da,rfl,au,a0,bb⟩;obtain⟨k,n,rfl⟩:=cg au;obtain⟨m,o,rfl⟩:=cg a0;have B:A4 w v d i:=(H.out.below A).below bb;have cy:=A.size;have cz:=bb.size;have a5:Ce (i.ownsRow (w.heap.size+1+1+1) 9 1 (O k N.nm.length n) N.nm.length (N.nm.map A9)/\i.ownsRow (w.heap.size+1+1+1) 3 1 (O m N.ks.length o) N.ks.length (N.ks.map (B7 Ax))):=⟨rK au (by omega),rK a0 (by omega)⟩;have G:Ce (A4 w v d i):=B;have cp:w.heap.size+1+1<i.heap.size:=by omega
   have bF:i.cell? ⟨w.heap.size+1+1,0,A2⟩=U v:=by rw[aj _ _ _ _ _ _ B.b3];rfl
   obtain⟨p,q,rfl⟩:=cg B.row;have bn:Ce (i.ownsRow (w.heap.size+1+1+1) 61 9 (O p b q) b (im d)):=by have:=G.out.row;rw[r]at this;exact this
   rw[r]at bF G;have al:∀ap ar,be i ((i.alloc ap).alloc ar):=λap ar=>((ah _ i).alloc (af _) ap).alloc (by simp) ar;clear br bs bt bv bw c5 bx bA bD ao au a0 B;go_wp2_with (at_builtin;refine rf _ rfl _ _ 23 rfl (w.heap.size+1+1+1) 61 cl _ 9 112 underlying23 b4 cd ce cf rfl (by decide) _ _ _ rfl ((bn.out.alloc _).alloc _) ⟨i.heap.size+1,0,A2⟩ 1 1 [A0 Ax N.k,A0 Ax 0,A0 Ax 0,A0 Ax 0,A0 Ax N.op,A0 Ax N.n,Br N.x,O k N.nm.length n,O m N.ks.length o] rfl rfl (Ex (cs:=#[A0 Ax N.k,A0 Ax 0,A0 Ax 0,A0 Ax 0,A0 Ax N.op,A0 Ax N.n,Br N.x,O k N.nm.length n,O m N.ks.length o]) (fr:=(0,0)) (by have:=aB (i.alloc (B0 #[A0 Ax N.k,A0 Ax 0,A0 Ax 0,A0 Ax 0,A0 Ax N.op,A0 Ax N.n,Br N.x,O k N.nm.length n,O m N.ks.length o] 61)) (B0 #[A0 Ax N.k,A0 Ax 0,A0 Ax 0,A0 Ax 0,A0 Ax N.op,A0 Ax N.n,Br N.x,O k N.nm.length n,O m N.ks.length o] 61);rw[dm]at this;exact this)) (by intro cI bf;simp at bf;rcases bf with rfl|rfl|rfl|rfl|rfl|rfl|rfl|rfl|rfl<;>rfl) (by unfold F1;omega) (by omega) (by simp;omega) ?_;intro a1 F bd bc cu;obtain⟨b0,bE,rfl⟩:=G2 bd;obtain⟨bh,cb⟩:=A4.appended (x:=⟨bareN N,O k N.nm.length n,O m N.ks.length o⟩) r (G.out.below (al _ _)) ⟨de a5.out.1 (al _ _),de a5.out.2 (al _ _)⟩ bd bc;have df:F.cell? ⟨w.heap.size+1+1,0,A2⟩=U (O p b q):=by {rw[aj _ _ _ _ _ _ bh];rfl};have cm:F.frozen? ⟨w.heap.size+1+1,0,A2⟩=C2:=cC _ _ _ _ _ bh);have cc:=bc.size;rw[dm,dm]at cc;have cB:(F.setCell ⟨w.heap.size+1+1,0,A2⟩ (O (U ⟨b0,0,A2⟩) (b+1) bE)).heap.size=F.heap.size:=by simp[Ck]
   refine⟨⟨b+1,_,d++[⟨bareN N,O k N.nm.length n,O m N.ks.length o⟩],by omega,by go_num,by simp[r],?_,cb,by omega⟩,by simp[E0];omega⟩;show _=_;rw[bp.out,eK,a6.out];rfl
  .obtain rfl:b=g:=by omega
   have H:Ce (A4 w v d wr):=c;have z0:wr.cell? ⟨w.heap.size+1,0,A2⟩=U (O A2 0 0):=by rw[aj _ _ _ _ _ _ c.b2];rfl
   have cm:wr.frozen? ⟨w.heap.size+1,0,A2⟩=C2:=cC _ _ _ _ _ c.b2;have cF:wr.cell? ⟨w.heap.size+1+1,0,A2⟩=U v:=by rw[aj _ _ _ _ _ _ c.b3];rfl
   have of:wr.frozen? ⟨w.heap.size+1+1,0,A2⟩=C2:=cC _ _ _ _ _ c.b3;obtain⟨p,q,rfl⟩:=cg c.row;clear c;go_wp2_with fail;have c:=H.out;have b7:d.map Mb.N=ns.map bareN:=by rw[a6.out,cj (by rw[a3.out];exact af _)]
   have a9:dy (wr.setCell ⟨w.heap.size+1,0,A2⟩ (O p d.length q)) (O p d.length q) (ns.map bareN):=by
    rw[<-b7];exact ahB (jr (a:=⟨w.heap.size+1,0,A2⟩) c.row (by simp) _) λx E=>⟨jr (a:=⟨w.heap.size+1,0,A2⟩) (c.each x E).1 (by simp) _,jr (a:=⟨w.heap.size+1,0,A2⟩) (c.each x E).2 (by simp) _⟩
   rw[r]at a9;exact bH (iF rfl _ _ (w.heap.size+1) _ _ _ _ rfl (bg _ _ 0 _ _ _ c.b2) underlying25 rfl (by kernel_rfl)) rfl ⟨_,rfl,a9,c.bl.setCell (by simp) _⟩
def Ev(s:ByteArray)(d:s.size<=1100000)(w:B2):B6 A5 31 #[Br s] w (gy w (Br s)):=by
 have b:=λw=>Tryz.stringslite_Clone s w (by omega);go_enter func31,ntmps31;go_wp2_with (go_at_call 97;refine(b _).mono ?_;rintro c e ⟨rfl,a⟩);go_ret;exact⟨rfl,a⟩
def bi.noaddr{l:List ByteArray}(h:bi W (O A2 n c) l):l=[]:=by
 rcases h with⟨h,_⟩|⟨b,c,a,_⟩
 .exact h
 .cases a
def dh.noaddr{l:List Int}(h:dh W (O A2 n c) l):l=[]:=by
 rcases h with⟨h,_⟩|⟨b,c,a,_⟩
 .exact h
 .cases a
def dy.noaddr{l:List Nd}(h:dy W (O A2 n c) l):l=[]:=by
 rcases h with⟨h,_⟩|⟨b,c,a,_⟩
 .exact h
 .cases a
def F9(w:B2)(v:B1)(l:List ByteArray)(h:bi w v l)(y:l.length<=1048576):
  B6 A5 98 #[v] w λe w'=>∃i,e= B3 i/\w'.ownsRow w.heap.size 9 1 i l.length (l.map A9)/\be w w':=by
 obtain⟨d,f,rfl⟩:=h.form;have I:∀(w:B2)(d:Option Addr)(g f m k:Nat),(binOp .eql 58 (O d g f) (O A2 m k)).run A5 w= .ok (E1 d.isNone) w:=λw d g f m k=>Lib.run_eql_slice_nil w _ _ d g f m k underlying58;cases d with
 |none=>
  obtain rfl:=h.noaddr;go_enter func98,ntmps98;go_wp2;go_ret;exact⟨_,rfl,fE _ _ _ _,ah _ _⟩
 |some j=>
  obtain⟨E,t,A,B,C⟩:=eu ac0;have o:∀a b,(l.map A9)[a]?=U b->w.cell? (j.add a)=U b:=λa b c=>by
   rw[ci]at c;cases hs:l[a]? with
   |none=>rw[hs]at c;cases c
   |some J=>
    rw[hs]at c;obtain rfl:=bz c;obtain⟨F,e,r⟩:=h.get hs;cases e;exact r
  have q:Ce (∀a b,(l.map A9)[a]?=U b->w.cell? (j.add a)=U b):=o;have p:(l.map A9).length=l.length*1:=by simp
  have n:Ce ((l.map A9).length=l.length*1):=p;clear h o p;generalize l.length=g at y n⊢;go_enter func98,ntmps98;go_wp2_with (at_builtin;refine rf _ rfl _ _ 58 rfl w.heap.size 9 E _ 1 16 underlying58 t A B C rfl (by decide) _ _ _ rfl (World.ownsRow_made w #[] 0 (af _) (aH _) rfl) j g f (l.map A9) rfl n.out ?qc2 ?qc3 ?qc4 ?qc5 ?qc6 ?_)
  case qc2=>intro a b u;exact ag ((ah _ w).alloc (af _) _) (q.out a b u)
  case qc3=>intro b c;obtain⟨K,_,rfl⟩:=List.mem_map.1 c;rfl
  case qc4=>unfold F1;omega
  case qc5=>omega
  case qc6=>simp
  intro i w1 z s G;go_wp2;go_ret;refine⟨i,rfl,by simpa using z,?_⟩;exact((ah _ w).alloc (af _) _).grown s (by simp) (by intro H x;simp[E3]at x;omega)
def Ga(w:B2)(v:B1)(l:List Int)(h:dh w v l)(y:l.length<=1048576):
  B6 A5 33 #[v] w λe w'=>∃i,e= B3 i/\w'.ownsRow w.heap.size 3 1 i l.length (l.map (B7 Ax))/\be w w':=by
 obtain⟨d,f,rfl⟩:=h.form;have I:∀(w:B2)(d:Option Addr)(g f m k:Nat),(binOp .eql 59 (O d g f) (O A2 m k)).run A5 w= .ok (E1 d.isNone) w:=λw d g f m k=>Lib.run_eql_slice_nil w _ _ d g f m k underlying59;cases d with
 |none=>
  obtain rfl:=h.noaddr;go_enter func33,ntmps33;go_wp2;go_ret;exact⟨_,rfl,fE _ _ _ _,ah _ _⟩
 |some j=>
  obtain⟨E,t,A,B,C⟩:=eu wI;have o:∀a b,(l.map (B7 Ax))[a]?=U b->w.cell? (j.add a)=U b:=λa b c=>by
   rw[ci]at c;cases hs:l[a]? with
   |none=>rw[hs]at c;cases c
   |some J=>
    rw[hs]at c;obtain rfl:=bz c;obtain⟨F,e,r⟩:=h.get hs;cases e;exact r
  have q:Ce (∀a b,(l.map (B7 Ax))[a]?=U b->w.cell? (j.add a)=U b):=o;have p:(l.map (B7 Ax)).length=l.length*1:=by simp
  have n:Ce ((l.map (B7 Ax)).length=l.length*1):=p;clear h o p;generalize l.length=g at y n⊢;go_enter func33,ntmps33;go_wp2_with (at_builtin;refine rf _ rfl _ _ 59 rfl w.heap.size 3 E _ 1 8 underlying59 t A B C rfl (by decide) _ _ _ rfl (World.ownsRow_made w #[] 0 (af _) (aH _) rfl) j g f (l.map (B7 Ax)) rfl n.out ?qc2 ?qc3 ?qc4 ?qc5 ?qc6 ?_)
  case qc2=>intro a b u;exact ag ((ah _ w).alloc (af _) _) (q.out a b u)
  case qc3=>intro b c;obtain⟨K,_,rfl⟩:=List.mem_map.1 c;rfl
  case qc4=>unfold F1;omega
  case qc5=>omega
  case qc6=>simp
  intro i w1 z s G;go_wp2;go_ret;refine⟨i,rfl,by simpa using z,?_⟩;exact((ah _ w).alloc (af _) _).grown s (by simp) (by intro H x;simp[E3]at x;omega)
def dy.mbs{e:Addr}{ns:List Nd}(h:dy W (O (U e) n c) ns):∃L:List Mb,L.map Mb.N=ns/\∀i x,L[i]?=U x->FG W (e.add (i*9)) x.N x.vn x.vk:=by
 have a:∀b,b<=ns.length->∃L:List Mb,L.map Mb.N=ns.take b/\∀i x,L[i]?=U x->FG W (e.add (i*9)) x.N x.vn x.vk:=by
  intro b
  induction b with
  |zero=>intro _;exact⟨[],by simp,λi x a=>by simp at a⟩
  |succ b o=>
   intro q;obtain⟨L,d,f⟩:=o (by omega);have m:L.length=b:=by have:=congrArg List.length d;rw[bC,eE]at this;omega
   obtain⟨N,j⟩:∃N,ns[b]?=U N:=⟨ns[b],az _⟩;obtain⟨p,k,vn,vk,l⟩:=h.get j;cases k;refine⟨L++[⟨N,vn,vk⟩],by rw[eK,d,jc,j];rfl,λi x a=>?_⟩;rcases bI i b with g|g
   .rw[gq (by omega)]at a;exact f i x a
   .rw[dE (by omega),m]at a;rcases jz g with rfl|g
    .simp at a;subst a;exact l
    .rw[jp (by simp;omega)]at a;cases a
 obtain⟨L,d,f⟩:=a ns.length (af _);exact⟨L,by rw[d,yB],f⟩
def FG.cell{c:Addr}{x:Mb}(h:FG W (c.add (i*9)) x.N x.vn x.vk)(j:Nat)(u:B1)(a:(J9 x)[j]?=U u):W.cell? (c.add (i*9+j))=U u:=by
 have o:j<9:=(List.getElem?_eq_some_iff.1 a).1;have b:∀j,j≠0->c.add (i*9+j)=⟨(c.add (i*9)).block,(c.add (i*9)).off+j,A2⟩:=λj o=>by
  unfold Addr.add;rw[aa (by omega)];split
  .simp
  .simp;omega
 obtain⟨d,e,f,g,k,c5,l,m,n,_,_⟩:=h;rcases(show j=0\/j=1\/j=2\/j=3\/j=4\/j=5\/j=6\/j=7\/j=8 by omega) with rfl|rfl|rfl|rfl|rfl|rfl|rfl|rfl|rfl
 .rw[iz];exact d.trans a
 .rw[b 1 (by omega)];exact e.trans a
 .rw[b 2 (by omega)];exact f.trans a
 .rw[b 3 (by omega)];exact g.trans a
 .rw[b 4 (by omega)];exact k.trans a
 .rw[b 5 (by omega)];exact c5.trans a
 .rw[b 6 (by omega)];exact l.trans a
 .rw[b 7 (by omega)];exact m.trans a
 .rw[b 8 (by omega)];exact n.trans a
def Jf(w:B2)(v:B1)(ns:List Nd)(h:dy w v ns)(H:ns.length<=1048576):
  B6 A5 30 #[v] w λe w'=>∃l L,e= B3 l/\L.map Mb.N=ns/\w'.ownsRow w.heap.size 61 9 l ns.length (im L)/\(∀x∈L,bi w x.vn x.N.nm/\dh w x.vk x.N.ks)/\be w w':=by
 obtain⟨g,i,rfl⟩:=h.form;have a0:∀(w:B2)(g:Option Addr)(j i r n:Nat),(binOp .eql 23 (O g j i) (O A2 r n)).run A5 w= .ok (E1 g.isNone) w:=λw g j i r n=>Lib.run_eql_slice_nil w _ _ g j i r n underlying23;cases g with
 |none=>
  obtain rfl:=h.noaddr;go_enter func30,ntmps30;go_wp2;go_ret;exact⟨_,[],rfl,rfl,fE _ _ _ _,λx c=>(by simp at c),ah _ _⟩
 |some m=>
  obtain⟨an,q,J,K,ak⟩:=eu K6;obtain⟨L,p,o⟩:=h.mbs;have u:L.length=ns.length:=by rw[<-p,bC]
  have k:∀x∈L,bi w x.vn x.N.nm/\dh w x.vk x.N.ks:=λx c=>by
   obtain⟨al,q,e⟩:=iw c;have:=o al x (by rw[az q,e]);exact⟨this.hn,this.hk⟩
  have y:∀a b,(im L)[a]?=U b->w.cell? (m.add a)=U b:=λa b d=>by
   have z:a<L.length*9:=by rw[<-yL];exact(List.getElem?_eq_some_iff.1 d).1
   have E:a / 9<L.length:=by omega
   have s:a / 9*9+a%9=a:=by omega
   have c:L[a / 9]?=U L[a / 9]:=az E;have t:=za L (a / 9) (a%9) _ c (Nat.mod_lt _ (by omega));rw[s,d]at t;have:=(o _ _ c).cell (a%9) b t.symm;rw[s]at this;exact this
  have A:∀b∈im L,b.oneCell'=Fs:=λb d=>by
   obtain⟨x,c,d⟩:=List.mem_flatMap.1 d;obtain⟨ao,ar,B⟩:=(k x c).1.form;obtain⟨ap,au,C⟩:=(k x c).2.form;simp only[J9,B,C,pd,rh,rm]at d;rcases d with rfl|rfl|rfl|rfl|rfl|rfl|rfl|rfl|rfl<;>rfl
  have f:Ce ((∀a b,(im L)[a]?=U b->w.cell? (m.add a)=U b)/\(∀b∈im L,b.oneCell'=Fs)/\(im L).length=ns.length*9/\L.map Mb.N=ns/\(∀x∈L,bi w x.vn x.N.nm/\dh w x.vk x.N.ks)):=⟨y,A,by rw[yL,u],p,k⟩;clear h y A p o u k;generalize ns.length=j at H f⊢;go_enter func30,ntmps30;go_wp2_with (at_builtin;refine rf _ rfl _ _ 23 rfl w.heap.size 61 an _ 9 112 underlying23 q J K ak rfl (by decide) _ _ _ rfl (World.ownsRow_made w #[] 0 (af _) (aH _) rfl) m j i (im L) rfl f.out.2.2.1 ?qc2 f.out.2.1 ?qc4 ?qc5 ?qc6 ?_)
  case qc2=>intro a b z;exact ag ((ah _ w).alloc (af _) _) (f.out.1 a b z)
  case qc4=>unfold F1;omega
  case qc5=>omega
  case qc6=>simp
  intro l w1 I F av;go_wp2;go_ret;refine⟨l,L,rfl,f.out.2.2.2.1,by simpa using I,f.out.2.2.2.2,?_⟩;exact((ah _ w).alloc (af _) _).grown F (by simp) (by intro ax G;simp[E3]at G;omega)
def Cj(w:B2)(v:B1)(l:List ByteArray)(h:bi w v l)(u:l.length<=1048576)(y:∀s∈l,s.size<=1100000):
  B6 A5 32 #[v] w λe w'=>∃o,e= B3 o/\w'.ownsRow w.heap.size 9 1 o l.length (l.map A9)/\be w w':=by
 have A:=F9 w v l h u;obtain⟨L,ad,rfl⟩:=h.form;have C:Ce (∀s∈l,s.size<=1100000):=y;obtain⟨b,j⟩:∃b,l.length=b:=⟨_,rfl⟩;have q:Ce (l.length=b):=j;rw[j]at A u⊢;clear y h j;go_enter func32,ntmps32;go_wp2_with (go_at_call 98;fail);refine A.mono ?_;rintro e w1 ⟨o,rfl,c,i⟩;rcases bJ c with⟨H,rfl⟩|⟨d,E,rfl⟩
 .subst H;go_wp2_with fail;refine ua 1 ?_;rw[nI];go_wp2;go_ret;exact⟨_,rfl,c,i⟩
 .go_wp2_with fail;have F:=(c.lt d rfl).1;go_loopw [10] (λp wr=>∃a:Nat,a<=b/\p= A0 Ax a/\wr.ownsRow w.heap.size 9 1 (O (U ⟨d,0,A2⟩) b E) b (l.map A9)/\be w wr) (λp _=>b-(E0 p).toNat)
  case atStart=>exact⟨0,aH _,rfl,c,i⟩
  case round=>
   obtain⟨a,ao,rfl,k,g⟩:=hrel;clear c i;by_cases x:a<b
   .have ar:(a:Int)<(b:Int):=by omega
    have ap:(0:Int)<=(a:Int):=by omega
    obtain⟨s,m⟩:=cA q.out x;have J:=λw=>Ev s (C.out s (cG m)) w;have f:(l.map A9)[a]?=U (Br s):=by rw[ci,m];rfl
    have ak:wr.cell? ⟨d,a,A2⟩=U (Br s):=(k.cellAt a (by omega)).trans f;have z:(l.map A9).set a (Br s)=l.map A9:=by
     apply List.ext_getElem?;intro I;rcases Nat.decEq a I with G|rfl
     .rw[jK G]
     .rw[List.getElem?_set_self (by rw[bC,q.out];exact x),f]
    have r:Ce ((l.map A9).set a (Br s)=l.map A9/\(l.map A9)[a]?=U (Br s)):=⟨z,f⟩;clear m z f;go_wp2_with (go_at_call 31;refine(J _).mono ?_;rintro e K ⟨rfl,t⟩;have n:=de k t;have an:=n.frozenAt a;have al:K.cell? ⟨d,a,A2⟩=U (Br s):=(n.cellAt a (by omega)).trans r.out.2);have B:=(n.stored a (Br s)).1;rw[r.out.1]at B;exact⟨⟨a+1,by omega,by go_num,B,(g.trans (t.mono g.size)).setCell F _⟩,by simp[E0];omega⟩
   .obtain rfl:a=b:=by omega
    go_wp2;go_ret;exact⟨_,rfl,k,g⟩
def aqq(A R:List B1)(m:Nat)(t:A.length=m)(k n o p l c5 q r s e f g h i j:B1):
  ((((((A++([k,n,o,p,l,c5,q,r,s]++R)).set (m+1) e).set (m+2) f).set (m+3) g).set (m+6) h).set (m+7) i).set (m+8) j=A++([k,e,f,g,l,c5,h,i,j]++R):=by
 subst t;have a:∀(d:List B1)(b:Nat)(c:B1),(A++d).set (A.length+b) c=A++d.set b c:=λd b c=>by
  rw[acA _ _ (by omega)];congr 2;omega
 rw[a,a,a,a,a,a];rfl
def DI.up{lo d hi2:Nat}{x:Mb}(h:DI W lo d x)(c:d<=hi2):DI W lo hi2 x:=
 ⟨h.on,h.ok,λa b=>iu (h.hn a b) c,λa b=>iu (h.hk a b) c⟩
structure aos (W1:B2) (g n cap:Nat) (ns:List Nd) (L:List Mb) (k:Nat) (W:B2) (Q:List Mb):Prop where
 row:W.ownsRow W1.heap.size 61 9 (.slice (U ⟨g,0,A2⟩) n cap) n (im (Q++L.drop k))
 len:Q.length=k
 nds:Q.map Mb.N=(ns.take k).map bareN
 each:∀x∈Q,DI W W1.heap.size W.heap.size x
 dn:Gw (Q.map Mb.vn)
 dk:Gw (Q.map Mb.vk)
 bel:be W1 W
def G9{b:List B1}(h:Gw b)(k:∀u∈b,(u.ownBlock=A2\/u.ownBlock≠v.ownBlock)/\(v.ownBlock=A2\/v.ownBlock≠u.ownBlock)):Gw (b++[v]):=by
 intro l f g i n c a;rcases bI l b.length with gi|gi
 .rw[gq gi]at c;rcases bI f b.length with gj|gj
  .rw[gq gj]at a;exact h l f g i n c a
  .rw[dE gj]at a;obtain⟨d,e⟩:=List.getElem?_eq_some_iff.1 a;simp at d e;subst e;exact(k g (cG c)).1
 .rw[dE gi]at c;obtain⟨m,j⟩:=List.getElem?_eq_some_iff.1 c;simp at m j;subst j;rcases bI f b.length with gj|gj
  .rw[gq gj]at a;exact(k i (cG a)).2
  .exfalso;rw[dE gj]at a;obtain⟨d,e⟩:=List.getElem?_eq_some_iff.1 a;simp at d;omega
def adv{e:B2}{f c g h m n l n2:Nat}{b a:B1}{o p:List B1}(j:W.ownsRow f g m b l o)(k:e.ownsRow c h n a n2 p)(q:W.heap.size<=c):(b.ownBlock=A2\/b.ownBlock≠a.ownBlock)/\(a.ownBlock=A2\/a.ownBlock≠b.ownBlock):=by
 cases hv1:b.ownBlock with
 |none=>
  refine⟨.inl rfl,?_⟩;cases hv2:a.ownBlock with
  |none=>exact .inl rfl
  |some d=>exact .inr (by simp)
 |some i=>
  have r:=(j.lt i hv1).2;cases hv2:a.ownBlock with
  |none=>exact⟨.inr (by simp),.inl rfl⟩
  |some d=>
   have s:=(k.lt d hv2).1;refine⟨.inr ?_,.inr ?_⟩
   .simp only[ne_eq,fI];omega
   .simp only[ne_eq,fI];omega
def ahC(w:B2)(v:B1)(ns:List Nd)(h:dy w v ns)(c9:ns.length<=1048576)(cz:∀N∈ns,N.nm.length<=1048576/\N.ks.length<=1048576/\N.x.size<=1100000/\∀s∈N.nm,s.size<=1100000):
  B6 A5 12 #[F0 #[v]] w λe w'=>∃b4 L,e= B3 (F0 #[b4])/\L.map Mb.N=ns.map bareN/\abj w' w.heap.size w'.heap.size b4 L/\be w w':=by
 obtain⟨a,H,rfl⟩:=h.form;have b8:Ce (dy w (O a ns.length H) ns):=h;have ej:Ce (∀N∈ns,N.nm.length<=1048576/\N.ks.length<=1048576/\N.x.size<=1100000/\∀s∈N.nm,s.size<=1100000):=cz;obtain⟨i,bD⟩:∃i,ns.length=i:=⟨_,rfl⟩;have F:Ce (ns.length=i):=bD;rw[bD]at b8 c9⊢;clear h cz bD;go_enter func12,ntmps12;go_wp2_with (go_at_call 30;fail);obtain⟨d,K⟩:∃d,(w.alloc (B0 #[O a i H] 25)).alloc (B0 #[O A2 0 0] 25)=d:=⟨_,rfl⟩;have e1:d.heap.size=w.heap.size+1+1:=by rw[<-K];simp
 have cB:d.heap[w.heap.size+1]?=U (B0 #[O A2 0 0] 25 (0,0)):=by
  rw[<-K];have:=aB (w.alloc (B0 #[O a i H] 25)) (B0 #[O A2 0 0] 25);rw[dm]at this;exact this
 have q:be w d:=by rw[<-K];exact((ah _ w).alloc (af _) _).alloc (by simp) _
 rw[K];clear K;have b9:dy d (O a i H) ns:=b8.out.below q;have b1:=Jf d (O a i H) ns b9 (by rw[F.out];exact c9);rw[F.out]at b1;refine b1.mono ?_;rintro e ef ⟨b4,L,rfl,cx,a4,cy,a2⟩;have bj:Ce (L.map Mb.N=ns):=cx;have ei:Ce (∀x∈L,bi d x.vn x.N.nm/\dh d x.vk x.N.ks):=cy;have cd:Ce (d.heap[w.heap.size+1]?=U (B0 #[O A2 0 0] 25 (0,0))):=cB;have ca:Ce (be w d):=q;have el:Ce (d.heap.size=w.heap.size+1+1):=e1;clear b1 b9 cx cy cB q;rcases bJ a4 with⟨e2,rfl⟩|⟨f,I,rfl⟩
 .subst e2;have A:=(a2.block _ (by omega)).trans cd.out;have z0:ef.cell? ⟨w.heap.size+1,0,A2⟩=U (O A2 0 0):=by rw[aj _ _ _ _ _ _ A];rfl
  have e9:ef.frozen? ⟨w.heap.size+1,0,A2⟩=C2:=cC _ _ _ _ _ A;go_wp2_with fail;refine ua 1 ?_;rw[nI];go_wp2;have df:ns=[]:=jb F.out;have ex:L=[]:=by have:=bj.out;rw[df]at this;simpa using this
  have q:=ca.out;subst ex df;refine bH (iF rfl _ _ (w.heap.size+1) _ _ _ _ rfl (bg _ _ 0 _ _ _ A) underlying25 rfl (by kernel_rfl)) rfl ⟨_,[],rfl,rfl,⟨fE _ _ _ _,λb cI=>by simp[E3]at cI,λx hx=>by simp at hx,λb0 n a j _ z=>by simp at z,λb0 n a j _ z=>by simp at z⟩,(q.trans (a2.mono q.size)).setCell (by simp) _⟩
 .have bv:=(a4.lt f rfl).1;go_wp2;go_loopw [11] (λb5 wr=>∃(b:Nat) (g:List Mb),b<=i/\b5= A0 Ax b/\aos d f i I ns L b wr g) (λb5 _=>i-(E0 b5).toNat)
  case atStart=>exact⟨0,[],aH _,rfl,⟨a4,rfl,rfl,λx hx=>by simp at hx,λb0 n a j _ z=>by simp at z,λb0 n a j _ z=>by simp at z,a2⟩⟩
  case round=>
   obtain⟨b,g,cI,rfl,c⟩:=hrel;clear a4 a2;have ew:L.length=i:=by rw[<-F.out,<-bj.out,bC]
   by_cases eL:b<i
   .have ff:(b:Int)<(i:Int):=by omega
    have fd:(0:Int)<=(b:Int):=by omega
    obtain⟨x,hx⟩:=cA ew eL;have J:ns[b]?=U x.N:=by rw[<-bj.out,ci,hx];rfl
    obtain⟨dg,dq,ds,dx⟩:=ej.out x.N (cG J);obtain⟨a6,a5⟩:=ei.out x (cG hx);have E:=c.row;have cF:=akb hx;rw[cF]at E;have ad:(g++x::L.drop (b+1))[b]?=U x:=by rw[dE (by rw[c.len];omega),c.len,fH];rfl
    obtain⟨cl,cm,cn,cp,cq,c5,cr,cs,ct⟩:=th E ad;have da:=za _ b 6 x ad (by omega);have dc:=za _ b 7 x ad (by omega);have dd:=za _ b 8 x ad (by omega);have es:=λn=>E.frozenAt n;have a0:im (g++x::L.drop (b+1))=im g++(J9 x++im (L.drop (b+1))):=by rw[tg,sL]
    have a1:(im g).length=b*9:=by rw[yL,c.len]
    have cb:Ce (im (g++x::L.drop (b+1))=im g++(J9 x++im (L.drop (b+1)))/\(im g).length=b*9/\ns[b]?=U x.N):=⟨a0,a1,J⟩;have a9:=(((E.stored (b*9+1) (A0 Ax 0)).1.stored (b*9+2) (A0 Ax 0)).1.stored (b*9+3) (A0 Ax 0)).1;have b3:=λw=>Ev x.N.x ds w;obtain⟨N,fo,fn⟩:=x;simp only at cl cm cn cp cq c5 cr cs ct dg dq ds dx a6 a5 b3;obtain⟨t,y,rfl⟩:=a6.form;obtain⟨r,u,rfl⟩:=a5.form;have cc:Ce (bi d (O t N.nm.length y) N.nm/\dh d (O r N.ks.length u) N.ks):=⟨a6,a5⟩;have au:Ce (aos d f i I ns L b wr g):=c;have bk:Ce (wr.ownsRow d.heap.size 61 9 (O (U ⟨f,0,A2⟩) i I) i (im (g++⟨N,O t N.nm.length y,O r N.ks.length u⟩::L.drop (b+1)))):=E;have bw:(im (g++⟨N,O t N.nm.length y,O r N.ks.length u⟩::L.drop (b+1)))[b*9+6]?=U (Br N.x):=da;have bx:(im (g++⟨N,O t N.nm.length y,O r N.ks.length u⟩::L.drop (b+1)))[b*9+7]?=U (O t N.nm.length y):=dc;have bA:(im (g++⟨N,O t N.nm.length y,O r N.ks.length u⟩::L.drop (b+1)))[b*9+8]?=U (O r N.ks.length u):=dd;clear da dc dd E hx J a6 a5 ad cF a0 a1 c;generalize im (g++⟨N,O t N.nm.length y,O r N.ks.length u⟩::L.drop (b+1))=bl at a9 bw bx bA bk cb;go_wp2_with (first|(go_at_call 31;fail));have bo:=jL (jL (jL (pq wr (U f)) (b*9+1) (A0 Ax 0)) (b*9+2) (A0 Ax 0)) (b*9+3) (A0 Ax 0);have eh:(((bl.set (b*9+1) (A0 Ax 0)).set (b*9+2) (A0 Ax 0)).set (b*9+3) (A0 Ax 0))[b*9+6]?=U (Br N.x):=by
     rw[jK (by omega),jK (by omega),jK (by omega)];exact bw
    have bc:(((bl.set (b*9+1) (A0 Ax 0)).set (b*9+2) (A0 Ax 0)).set (b*9+3) (A0 Ax 0))[b*9+7]?=U (O t N.nm.length y):=by
     rw[jK (by omega),jK (by omega),jK (by omega)];exact bx
    have bd:(((bl.set (b*9+1) (A0 Ax 0)).set (b*9+2) (A0 Ax 0)).set (b*9+3) (A0 Ax 0))[b*9+8]?=U (O r N.ks.length u):=by
     rw[jK (by omega),jK (by omega),jK (by omega)];exact bA
    clear cl cm cn cp cq c5 cr cs ct es bw bx bA;generalize (((wr.setCell ⟨f,b*9+1,A2⟩ (A0 Ax 0)).setCell ⟨f,b*9+2,A2⟩ (A0 Ax 0)).setCell ⟨f,b*9+3,A2⟩ (A0 Ax 0))=em at a9 bo⊢;refine(b3 em).mono ?_;rintro e e6 ⟨rfl,bs⟩;have al:=de a9 bs;have cv:=Au bo (Av _ bs);have eq:=λn=>al.frozenAt n;have eo:=(al.cellAt (b*9+6) (by omega)).trans eh;have bn:=(al.cellAt (b*9+7) (by omega)).trans bc;clear a9 bo bs b3;go_wp2_with (first|(go_at_call 32;fail));have d4:=(al.stored (b*9+6) (Br N.x)).1;have av:=jL cv (b*9+6) (Br N.x);rw[<-jK (show b*9+6≠b*9+7 by omega) (a:= Br N.x)]at bc;rw[<-jK (show b*9+6≠b*9+8 by omega) (a:= Br N.x)]at bd;clear al cv eq eo bn eh;generalize e6.setCell ⟨f,b*9+6,A2⟩ (Br N.x)=G at d4 av⊢;have C:=au.out.bel;have cf:be d G:=C.grown av C.size (by intro j k;obtain rfl:=bz k;exact bv);have d2:=Cj G (O t N.nm.length y) N.nm (cc.out.1.below cf) dg dx;refine d2.mono ?_;rintro e b6 ⟨fk,rfl,bb,bt⟩;obtain⟨o,p,rfl⟩:=cg bb;have ao:=de d4 bt;have et:=Au av (Av _ bt);have er:=λn=>ao.frozenAt n;have bn:=(ao.cellAt (b*9+7) (by omega)).trans bc;have cu:=(ao.cellAt (b*9+8) (by omega)).trans bd;clear d2;go_wp2_with (first|(go_at_call 33;fail));have d5:=(ao.stored (b*9+7) (O o N.nm.length p)).1;have bp:=jL et (b*9+7) (O o N.nm.length p);have ea:=bb.kept (jL (pq b6 (U f)) (b*9+7) (O o N.nm.length p)) (lE bb ao (by decide));rw[<-jK (show b*9+7≠b*9+8 by omega) (a:= O o N.nm.length p)]at bd;have br:G.heap.size<=(b6.setCell ⟨f,b*9+7,A2⟩ (O o N.nm.length p)).heap.size:=by have:=bt.size;simpa [Ck] using this
    clear er bn cu bc;generalize b6.setCell ⟨f,b*9+7,A2⟩ (O o N.nm.length p)=ce at d5 bp ea br⊢;have ck:be d ce:=C.grown bp C.size (by intro j k;obtain rfl:=bz k;exact bv);have d1:=Ga ce (O r N.ks.length u) N.ks (cc.out.2.below ck) dq;refine d1.mono ?_;rintro e B ⟨fm,rfl,ba,a3⟩;obtain⟨l,m,rfl⟩:=cg ba;have ap:=de d5 a3;have ev:=Au bp (Av _ a3);have eb:=de ea a3;have fb:=λn=>ap.frozenAt n;have cu:=(ap.cellAt (b*9+8) (by omega)).trans bd;clear d1;go_wp2_with fail;have ar:=(ap.stored (b*9+8) (O l N.ks.length m)).1;have ax:=jL ev (b*9+8) (O l N.ks.length m);have cw:=jL (pq B (U f)) (b*9+8) (O l N.ks.length m);have ec:=eb.kept cw (lE eb ap (by decide));have d9:=ba.kept cw (lE ba ap (by decide));obtain⟨a0,a1,J⟩:=cb.out;have c:=au.out;rw[a0]at ar;simp only[J9]at ar;rw[aqq _ _ _ a1]at ar;have ep:J9 ⟨bareN N,O o N.nm.length p,O l N.ks.length m⟩=[A0 Ax N.k,A0 Ax 0,A0 Ax 0,A0 Ax 0,A0 Ax N.op,A0 Ax N.n,Br N.x,O o N.nm.length p,O l N.ks.length m]:=rfl;rw[<-ep,<-sL,show ∀(bf bh:List Mb)(b7:Mb),im bf++im (b7::bh)=im ((bf++[b7])++bh) by intro bf bh b7;rw[<-tg,dj];rfl]at ar;have fg:G.heap.size<=B.heap.size:=di br a3.size;have d0:wr.heap.size<=G.heap.size:=av.size;have e3:∀x∈g,DI (B.setCell ⟨f,b*9+8,A2⟩ (O l N.ks.length m)) d.heap.size (B.setCell ⟨f,b*9+8,A2⟩ (O l N.ks.length m)).heap.size x:=λx hx=>by
     have h:=(c.each x hx).up (hi2:=(B.setCell ⟨f,b*9+8,A2⟩ (O l N.ks.length m)).heap.size) (by have:=ax.size;exact this);exact⟨h.on.kept ax (lE h.on bk.out (by decide)),h.ok.kept ax (lE h.ok bk.out (by decide)),h.hn,h.hk⟩
    have e4:DI (B.setCell ⟨f,b*9+8,A2⟩ (O l N.ks.length m)) d.heap.size (B.setCell ⟨f,b*9+8,A2⟩ (O l N.ks.length m)).heap.size ⟨bareN N,O o N.nm.length p,O l N.ks.length m⟩:=
     ⟨rK ec cf.size,rK d9 ck.size,λj k=>(ec.lt j k).2,λj k=>(d9.lt j k).2⟩
    refine⟨⟨b+1,g++[⟨bareN N,O o N.nm.length p,O l N.ks.length m⟩],by omega,by go_num,⟨ar,by simp[c.len],?_,?_,?_,?_,?_⟩⟩,by simp[E0];omega⟩
    .rw[eK,c.nds,C3 J,eK];rfl
    .intro x hx;rcases List.mem_append.1 hx with hx|hx
     .exact e3 x hx
     .obtain rfl:=List.mem_singleton.1 hx;exact e4
    .rw[eK];refine G9 c.dn λe5 bF=>?_;obtain⟨x,hx,rfl⟩:=List.mem_map.1 bF;exact adv (c.each x hx).on bb d0
    .rw[eK];refine G9 c.dk λe5 bF=>?_;obtain⟨x,hx,rfl⟩:=List.mem_map.1 bF;exact adv (c.each x hx).ok ba (di d0 br)
    .exact C.grown ax C.size (by intro j k;obtain rfl:=bz k;exact bv)
   .obtain rfl:b=i:=by omega
    have A:=(c.bel.block _ (by omega)).trans cd.out;have z0:wr.cell? ⟨w.heap.size+1,0,A2⟩=U (O A2 0 0):=by rw[aj _ _ _ _ _ _ A];rfl
    have e9:wr.frozen? ⟨w.heap.size+1,0,A2⟩=C2:=cC _ _ _ _ _ A;have au:Ce (aos d f b I ns L b wr g):=c;clear c;go_wp2_with fail;have c:=au.out;have q:=ca.out;have bE:=c.row;rw[ma (by omega),dC]at bE;have eF:w.heap.size+1<d.heap.size:=by rw[el.out];omega
    have b2:∀{e size d3:Nat}{ee:B1}{eg:List B1},wr.ownsRow d.heap.size e size ee d3 eg->(wr.setCell ⟨w.heap.size+1,0,A2⟩ (O (U ⟨f,0,A2⟩) b I)).ownsRow w.heap.size e size ee d3 eg:=λe0=>rK (jr (a:=⟨w.heap.size+1,0,A2⟩) e0 eF _) q.size;refine bH (iF rfl _ _ (w.heap.size+1) _ _ _ _ rfl (bg _ _ 0 _ _ _ A) underlying25 rfl (by kernel_rfl)) rfl ⟨_,g,rfl,?_,⟨?_,?_,?_,c.dn,c.dk⟩,(q.trans (c.bel.mono q.size)).setCell (by simp) _⟩
    .rw[c.nds,cj (by rw[F.out];omega)]
    .rw[c.len];exact b2 bE
    .intro j k;have:=(bE.lt j k).2;simpa [Ck] using this
    .intro x hx;have h:=c.each x hx;exact⟨b2 h.on,b2 h.ok,λj k=>by simpa [Ck] using h.hn j k,λj k=>by simpa [Ck] using h.hk j k⟩
