import Derived.Test.YtnoembpaejlaeaaGreatDoorHLk18
import Derived.Test.YtnoembpaejlaeaaGreatDoorHLk14
set_option linter.all false
set_option maxRecDepth 100000
set_option maxHeartbeats 25600000
open Option renaming none->O,some->U
open Go.Value renaming slice->V,int->Y,string->Z,ownBlock->A2,iface->A3,slice->A5,int->A9,string->B6,pointer->C2,bool->G0,agg->H1
open Go.IntKind renaming i64->X
open Go renaming Value->Ax,World->B2,TypeId->E1,Calls->F0,ownsRow_succ->F1,maxLen->F2,wpList_append_own_at->G2,wp_region_held_drew->H0
open Go.Obj renaming cells->A0
open Go.World renaming news_of_block->Br,setCell->Fs
open Bool renaming false->B0,true->G3
open Go.RowKit renaming intOf->B1,Hid->B3,Below->B5
open Go.Proofs.Tryz renaming prog->B4
open Go.Ending renaming returned->B7
open List renaming set->E2
namespace Go.Proofs.YtnoembpaejlaeaaGreatDoor
open Go.RowKit Go.Maps Go.WideMaps
variable{E:Pe}{L:List Nd}{M:List (Value×List ByteArray)}{N:Nd}{T:Bxs}{W W' w:World}{b g i lo n:Nat}{c:Cr}{ce d k m me s z:Int}{f:FuncId}{ks:List Int}{r:Bool}{v v7 v8 vk vn:Value}{vs:List Value}
def flL:List ByteArray:=[⟨#[49,46,53]⟩,⟨#[48,46,48]⟩,⟨#[49,101,57]⟩,⟨#[50,46,50,53,101,45,51]⟩,⟨#[57,50,50,51,51,55,50,48,51,54,56,53,52,55,55,53,56,48,56]⟩]
section
variable {T : Int} {c : Cr} {L : List Nd} {m : Int}
def alv(p:Pd T c L m)(C:Cd)(G:1<=m):∃z B A,An T c L B A z 1 1 0/\Rb C T 166 [] c L (Y X z) B A:=by
 have F:=p.lo;have H:=p.m0;obtain⟨z,E,I,f,ap⟩:=p.mv.pick p C 9;have e:=f.len p;have l:=f.p0;have u:=f.p;rcases(show z=0\/(z=1\/z=2)\/z=3\/z=4\/z=5\/(z≠0/\z≠1/\z≠2/\z≠3/\z≠4/\z≠5) by omega) with rfl|h12|rfl|rfl|rfl|⟨au,ax,a0,a3,a4,a5⟩
 case' inl=>
  obtain⟨o,q,bl,i,v⟩:=f.pick p C 3;have bs:=wi (a:=20+o) (by omega);refine⟨_,_,_,i.fin p (k:=20+o) (op:=0) (n:=0) (t:=⟨#[]⟩) (jo (by omega) (by decide) (by decide) (lj (by omega)) (by decide) kK (by simp) pl0),?_⟩;clear f i l u F H p I G
 case' inr.inl=>
  obtain⟨n,q,a8,a6,v⟩:=ajp C E l.1 (by omega);have i:Mv T c L q L 4:=⟨f.nx.trans (Nx.refl L a6.2.2),f.n,by omega,by omega,f.lo⟩;refine⟨_,_,_,i.fin p (k:=23) (op:=0) (n:=n) (t:=⟨#[]⟩) (jo (by decide) (by decide) a8 (lj (by decide)) (by decide) kK (by simp) pl0),?_⟩;clear f i l u F H p I G a8 a6
 case inr.inr.inl=>
  obtain⟨o,q,bl,i,v⟩:=f.pick p C 5;obtain⟨t,ht⟩:∃t,flL[o.toNat]?=U t:=⟨_,aA (show o.toNat<5 by omega)⟩;have an:t.size<=19:=(show ∀t∈flL,t.size<=19 by decide) t (dz ht);refine⟨_,_,_,i.fin p (k:=24) (op:=0) (n:=0) (t:=t) (jo (by decide) (by decide) (by decide) (.inl ⟨by decide,an,ur (by omega)⟩) (by decide) kK (by simp) pl0) (ht:=an),λad ak af h=>?_⟩;clear f i l u p an;have b:=h.at
  have d:=b.cs;clear h;rcases(show o=0\/o=1\/o=2\/o=3\/o=4 by omega) with rfl|rfl|rfl|rfl|rfl;all_goals
   obtain rfl:=bc (show U (_:ByteArray)=U t from ht);go_in;go_wp2_with fail;refine b.runC ap λw1 g _=>?_;clear b d;have bk:=g.cu;have d:=g.cs;go_wp2_with fail;refine g.al.runC v λba j a7=>?_;have bt:=Cp bk a7;have y:=aq j;clear d a7 g j;go_wp2_with fail;refine y.out.nilI.nilS.add e.1.2 e.1.1 λbb r=>?_;go_wp2_with fail;go_ret;exact⟨rfl,r.bd,r.bel⟩
 case inr.inr.inr.inl=>
  obtain⟨K,q,ao,a9,v⟩:=ape C E l.1 (by omega) l.2;have J:∀{t:ByteArray},Rb C T 166 [] c L (Y X (L.length:Nat)) q (L++[dN 25 0 0 t [] []])->(Sml t/\E.r<=q.r\/(Lng t/\t.size<=4000/\E.r+1<=q.r))->(E.r<=3->q.r<=3)->∃z B A,An T c L B A z 1 1 0/\Rb C T 166 [] c L (Y X z) B A:=λ{t} k h bj=>⟨_,_,_,⟨f.nx.add (jo (by decide) (by decide) (by decide) (.inr ⟨rfl,h.imp (λs=>s.1) λs=>⟨s.1,s.2.1⟩⟩) (by decide) kK (by simp) pl0) (by
   rcases h with h|h
   .rw[acj (show(dN 25 0 0 t [] []).x.size<=19 from h.1.1)];omega
   .have:bgN (dN 25 0 0 t [] [])<=1:=by unfold bgN;split<;>decide
    omega) bj,by simp,by simp,by simp;omega,⟨by omega,by omega⟩,by simp only[aJ,bm,ej];omega⟩,k⟩
  by_cases br:4000<K.size
  .have bh:(4000:Int)<(K.size:Int):=by omega
   refine J (t:=⟨#[99,117,116]⟩) (λad ak af h=>?_) (.inl ⟨⟨by decide,ur⟩,by omega⟩) (by omega);clear J f l u p ao a9;have b:=h.at
   have d:=b.cs;clear h;go_in;go_wp2_with fail;refine b.runC ap λw1 g _=>?_;clear b d;have d:=g.cs;go_wp2_with fail;refine g.runC v λba j _=>?_;clear g d;have d:=j.cs;have y:=aq j;clear j;go_wp2_with fail;refine y.out.nilI.nilS.add e.1.2 e.1.1 λbb r=>?_;go_wp2_with fail;go_ret;exact⟨rfl,r.bd,r.bel⟩
  .have bh:¬(4000:Int)<(K.size:Int):=by omega
   refine J (t:=K) (λad ak af h=>?_) (ao.imp (λs=>⟨s.1,by omega⟩) λs=>⟨s.1,by omega,by omega⟩) (by omega);clear J f l u p ao a9;have b:=h.at
   have d:=b.cs;clear h;go_in;go_wp2_with fail;refine b.runC ap λw1 g _=>?_;clear b d;have d:=g.cs;go_wp2_with fail;refine g.runC v λba j _=>?_;clear g d;have d:=j.cs;have y:=aq j;clear j;go_wp2_with fail;refine y.out.nilI.nilS.add e.1.2 e.1.1 λbb r=>?_;go_wp2_with fail;go_ret;exact⟨rfl,r.bd,r.bel⟩
 case' inr.inr.inr.inr.inl=>
  refine⟨_,_,_,f.fin p (k:=27) (op:=0) (n:=0) (t:=⟨#[]⟩) (jo (by decide) (by decide) (by decide) (lj (by decide)) (by decide) kK (by simp) pl0),?_⟩;clear f l u F H p I G
 case' inr.inr.inr.inr.inr=>
  obtain⟨t,q,ht,i,v⟩:=f.short p C;refine⟨_,_,_,i.fin p (k:=26) (op:=0) (n:=0) (t:=t) (jo (by decide) (by decide) (by decide) (agh (by decide) ht) (by decide) kK (by simp) pl0) (ht:=by have:=ht.sz;omega),?_⟩;have bo:((z==0)=B0/\(z==1)=B0/\(z==2)=B0)/\(z==3)=B0/\(z==4)=B0/\(z==5)=B0:=by simp[au,ax,a0,a3,a4,a5]
  clear f i l u F H p I G ht au ax a0 a3 a4 a5
 case' inr.inl=>rcases h12 with rfl|rfl
 all_goals
  intro ad ak af h;have b:=h.at
  have d:=b.cs;clear h;go_in
  repeat' (go_wp2_with (at_builtin;with_reducible refine At.app b rfl (by simp) rfl _ _ rfl rfl rfl ?_;clear b d;intro ar bn w b;have d:=b.cs);first
   |(go_at_call 37;(first|with_reducible refine At.runC b (by assumption) ?_|with_reducible refine At.runC b.lit2 (by assumption) ?_|with_reducible refine At.runC b.lit1 (by assumption) ?_);clear b d;intro w b _;have d:=b.cs)
   |(go_at_call 211;with_reducible refine At.runC b (by assumption) ?_;clear b d;intro w b _;have d:=b.cs)
   |(go_at_call 87;with_reducible refine At.runR b (by assumption) ?_;clear b d;intro w ar bf b;have d:=b.cs)
   |(go_at_call 88;with_reducible refine At.runR b (by assumption) ?_;clear b d;intro w ar bf b;have d:=b.cs)
   |(go_at_call 86;(first|with_reducible refine At.kids b.lit1 e.1.2 e.1.1 ?_|with_reducible refine At.kids b.lit2 e.1.2 e.1.1 ?_|with_reducible refine At.kids b.nilI e.1.2 e.1.1 ?_);clear b d;intro w b;have d:=b.cs)
   |(go_at_call 89;(first|with_reducible refine At.add b.lit1.nilS e.1.2 e.1.1 ?_|with_reducible refine At.add b.lit2.nilS e.1.2 e.1.1 ?_|with_reducible refine At.add b.lit1.swap e.1.2 e.1.1 ?_|with_reducible refine At.add b.lit2.swap e.1.2 e.1.1 ?_|with_reducible refine At.add b.swap e.1.2 e.1.1 ?_|with_reducible refine At.add b e.1.2 e.1.1 ?_|with_reducible refine At.add b.nilS e.1.2 e.1.1 ?_|with_reducible refine At.add b.nilI.nilS e.1.2 e.1.1 ?_);clear b d;intro w b;have d:=b.cs)
   |(go_ret;exact⟨rfl,b.bd,b.bel⟩)
   |(with_reducible refine At.run b (by assumption) ?_;clear b d;intro w b;have d:=b.cs))
end
def El(v:d<=0):FB 90 d 2 1 1 0:=by
 intro k g n l f;obtain⟨q,o,m,h,w⟩:=alv f k (by decide);refine⟨q,o,m,h,?_⟩;have b:(l.length<=25000/\ -100000<=g/\g<=100000)/\n.p<=20000000:=f.mv.len f (by decide);clear h;intro r t s j;have a:=j.at
 have c:=a.cs;clear j;go_in
 repeat' (go_wp2_with (at_builtin;with_reducible refine At.app a rfl (by simp) rfl _ _ rfl rfl rfl ?_;clear a c;intro i u e a;have c:=a.cs);first
  |(go_at_call 37;(first|with_reducible refine At.runC a (by assumption) ?_|with_reducible refine At.runC a.lit2 (by assumption) ?_|with_reducible refine At.runC a.lit1 (by assumption) ?_);clear a c;intro e a _;have c:=a.cs)
  |(go_at_call 87;with_reducible refine At.runR a (by assumption) ?_;clear a c;intro e i p a;have c:=a.cs)
  |(go_at_call 88;with_reducible refine At.runR a (by assumption) ?_;clear a c;intro e i p a;have c:=a.cs)
  |(go_at_call 86;(first|with_reducible refine At.kids a.lit1 b.1.2 b.1.1 ?_|with_reducible refine At.kids a.lit2 b.1.2 b.1.1 ?_|with_reducible refine At.kids a.nilI b.1.2 b.1.1 ?_);clear a c;intro e a;have c:=a.cs)
  |(go_at_call 89;(first|with_reducible refine At.add a.lit1.nilS b.1.2 b.1.1 ?_|with_reducible refine At.add a.lit2.nilS b.1.2 b.1.1 ?_|with_reducible refine At.add a.lit1.swap b.1.2 b.1.1 ?_|with_reducible refine At.add a.lit2.swap b.1.2 b.1.1 ?_|with_reducible refine At.add a.swap b.1.2 b.1.1 ?_|with_reducible refine At.add a b.1.2 b.1.1 ?_|with_reducible refine At.add a.nilS b.1.2 b.1.1 ?_|with_reducible refine At.add a.nilI.nilS b.1.2 b.1.1 ?_);clear a c;intro e a;have c:=a.cs)
  |(go_ret;exact⟨rfl,a.bd,a.bel⟩)
  |(with_reducible refine At.run a (by assumption) ?_;clear a c;intro e a;have c:=a.cs))
def an5{mb mc cb cc:Int}(ax:1<=d/\d<=1000)(a5:(1<=me/\me+1<=m)/\(1<=mb/\mb+1<=m)/\(1<=mc/\mc+1<=m))(au:1<=ce/\ce<=cb/\cb+1<=cc/\cc<=3800)(w:FB 90 (d-1) me 1 ce 0)(L:FB 164 (d-1) mb 2 cb 0)
  (ad:FB 85 d mc 12 cc 100) (ar:FB 167 d mc 12 cc 100) (hF:FB 91 d mc 12 cc 100):FB 90 d m 1 (cc+1) 0:=by
 intro f B ao F c;have bl:=w1 (d:=d) (by omega);have a0:=c.lo;have a6:=c.m0;have bj:¬d<=0:=by omega
 by_cases bk:B-F.length<5
 case' pos=>
  obtain⟨l,I,an,a,a9⟩:=alv c f (by have:=c.m0;omega);have e:(F.length<=25000/\ -100000<=B/\B<=100000)/\ao.p<=20000000:=c.mv.len c (by decide);refine⟨l,I,an,⟨a.nx,a.n,a.z,a.p,a.p0,by have:=a.lf;omega⟩,?_⟩;clear a
 case' neg=>
  obtain⟨n,I,a7,i,a9⟩:=c.mv.pick c f 14;rcases(show(n=0\/n=1\/n=2\/n=3)\/n=4\/(n=5\/n=6)\/n=7\/n=8\/(n=9\/n=10)\/n=11\/n=12\/n=13 by omega) with a8|rfl|hn2|rfl|rfl|hn2|rfl|rfl|rfl
  case' inl=>
   obtain⟨l,q,o,s,r,g,u⟩:=i.sub c f w;obtain⟨al,C,G,A,y,j,E⟩:=g.sub c f w;obtain⟨v,J,z,p,ak⟩:=j.pick c f 18;have e:=p.len c;have af:=wi (a:=1+v) (by omega);refine⟨_,_,_,p.fin c (k:=31) (op:=1+v) (n:=0) (t:=⟨#[]⟩) (jo (by decide) (by omega) (by decide) (lj (by decide)) (by decide) kK (by simp) (pl2 s A)),?_⟩;clear g j p r y z
  case' inr.inl=>
   obtain⟨l,q,o,s,r,g,u⟩:=i.sub c f w;obtain⟨al,C,G,A,y,j,E⟩:=g.sub c f w;obtain⟨v,J,z,p,ak⟩:=j.pick c f 2;have e:=p.len c;have af:=wi (a:=28+v) (by omega);refine⟨_,_,_,p.fin c (k:=28+v) (op:=0) (n:=0) (t:=⟨#[]⟩) (jo (by omega) (by decide) (by decide) (lj (by omega)) (by decide) kK (by simp) (pl2 s A)),?_⟩;clear g j p r y z
  case' inr.inr.inl=>
   obtain⟨l,q,o,s,r,g,u⟩:=i.sub c f w;obtain⟨v,J,z,p,ak⟩:=g.pick c f 4;have e:=p.len c;have af:=wi (a:=19+v) (by omega);refine⟨_,_,_,p.fin c (k:=30) (op:=19+v) (n:=0) (t:=⟨#[]⟩) (jo (by decide) (by omega) (by decide) (lj (by decide)) (by decide) kK (by simp) (Lz s)),?_⟩;clear g p r z
  case' inr.inr.inr.inl=>
   obtain⟨l,q,o,s,r,g,u⟩:=i.sub c f L;obtain⟨al,C,G,A,y,j,E⟩:=g.sub c f w;have e:=j.len c;refine⟨_,_,_,j.fin c (k:=32) (op:=0) (n:=0) (t:=⟨#[]⟩) (jo (by decide) (by decide) (by decide) (lj (by decide)) (by decide) kK (by simp) (pl2 s A)),?_⟩;clear g j r y
  case' inr.inr.inr.inr.inl=>
   obtain⟨l,q,o,s,r,g,u⟩:=i.sub c f L;obtain⟨t,C,ht,j,E⟩:=g.short c f;have e:=j.len c;refine⟨_,_,_,j.fin c (k:=33) (op:=0) (n:=0) (t:=t) (jo (by decide) (by decide) (by decide) (agh (by decide) ht) (by decide) kK (by simp) (Lz s)) (ht:=by have:=ht.sz;omega),?_⟩;clear g j r ht
  case' inr.inr.inr.inr.inr.inl=>
   obtain⟨l,q,o,a,u⟩:=i.tail c f ad;have e:=i.len c;refine⟨l,q,o,⟨a.nx,a.n,a.z,a.p,a.p0,by have:=a.lf;omega⟩,?_⟩;clear a
  case' inr.inr.inr.inr.inr.inr.inl=>
   obtain⟨l,q,o,a,u⟩:=i.tail c f ar;have e:=i.len c;refine⟨l,q,o,⟨a.nx,a.n,a.z,a.p,a.p0,by have:=a.lf;omega⟩,?_⟩;clear a
  case' inr.inr.inr.inr.inr.inr.inr.inl=>
   obtain⟨l,q,o,a,u⟩:=i.tail c f hF;have e:=i.len c;refine⟨l,q,o,⟨a.nx,a.n,a.z,a.p,a.p0,by have:=a.lf;omega⟩,?_⟩;clear a
  case' inr.inr.inr.inr.inr.inr.inr.inr=>
   obtain⟨l,q,o,s,r,g,u⟩:=i.sub c f ad;have e:=g.len c;refine⟨_,_,_,g.fin c (k:=37) (op:=0) (n:=0) (t:=⟨#[]⟩) (jo (by decide) (by decide) (by decide) (lj (by decide)) (by decide) kK (by simp) (Lz s)),?_⟩;clear g r
  all_goals clear i a7
  all_goals (try rcases a8 with rfl|rfl|rfl|rfl)
  all_goals (try rcases hn2 with rfl|rfl)
 all_goals
  clear c a0 a6 au a5 ax;intro ba bf bb K;have b:=K.at
  have h:=b.cs;clear K;go_in
  repeat' (go_wp2_with (at_builtin;with_reducible refine At.app b rfl (by simp) rfl _ _ rfl rfl rfl ?_;clear b h;intro H bh x b;have h:=b.cs);first
   |(go_at_call 37;(first|with_reducible refine At.runC b (by assumption) ?_|with_reducible refine At.runC b.lit2 (by assumption) ?_|with_reducible refine At.runC b.lit1 (by assumption) ?_);clear b h;intro x b _;have h:=b.cs)
   |(go_at_call 87;with_reducible refine At.runR b (by assumption) ?_;clear b h;intro x H ap b;have h:=b.cs)
   |(go_at_call 88;with_reducible refine At.runR b (by assumption) ?_;clear b h;intro x H ap b;have h:=b.cs)
   |(go_at_call 86;(first|with_reducible refine At.kids b.lit1 e.1.2 e.1.1 ?_|with_reducible refine At.kids b.lit2 e.1.2 e.1.1 ?_|with_reducible refine At.kids b.nilI e.1.2 e.1.1 ?_);clear b h;intro x b;have h:=b.cs)
   |(go_at_call 89;(first|with_reducible refine At.add b.lit1.nilS e.1.2 e.1.1 ?_|with_reducible refine At.add b.lit2.nilS e.1.2 e.1.1 ?_|with_reducible refine At.add b.lit1.swap e.1.2 e.1.1 ?_|with_reducible refine At.add b.lit2.swap e.1.2 e.1.1 ?_|with_reducible refine At.add b.swap e.1.2 e.1.1 ?_|with_reducible refine At.add b e.1.2 e.1.1 ?_|with_reducible refine At.add b.nilS e.1.2 e.1.1 ?_|with_reducible refine At.add b.nilI.nilS e.1.2 e.1.1 ?_);clear b h;intro x b;have h:=b.cs)
   |(go_ret;exact⟨rfl,b.bd,b.bel⟩)
   |(with_reducible refine At.run b (by assumption) ?_;clear b h;intro x b;have h:=b.cs))
inductive Xsc (C:Cd) (T:Int) (f:FuncId) (d:Int):Nat->Cr->List Nd->List Int->Cr->List Nd->Prop
 |nil (c:Cr) (L:List Nd):Xsc C T f d 0 c L [] c L
 |cons {n:Nat}{c c1 c2:Cr}{L L1 L2:List Nd}{z:Int}{l:List Int}:Rb C T f [.int .i64 d] c L (.int .i64 z) c1 L1->Xsc C T f d n c1 L1 l c2 L2->Xsc C T f d (n+1) c L (z::l) c2 L2
section
variable {T : Int} {c0 c : Cr} {L0 L : List Nd} {y m : Int}
def xsc(p:Pd T c0 L0 m)(C:Cd)(B:FB f d me s ce 0)(af:1<=me/\me+1<=m)(E:1<=s/\s<=4/\0<=ce/\ce<=3950):∀(n:Nat)(c:Cr)(L:List Nd),Mv T c0 L0 c L y->y<=500->n<=8-> -20000+12*me+s*n<=T-L.length->∃(l:List Int) (e:Cr) (a:List Nd),l.length=n/\Pl l/\(L.length<=a.length/\Lf (s*n) (ce+s*n) (T-L.length) (T-a.length)/\(n=0->a.length=L.length)/\(1<=n->5<=T-L.length->5-ce-s*n+s<=T-a.length))/\Mv T c0 L0 e a y/\Xsc C T f d n c L l e a:=by
 intro n;have ak:=p.m0
 induction n with
 |zero=>exact λc L b _ _ _=>⟨[],c,L,rfl,pl0,⟨ag _,by simp;omega,λ_=>rfl,λad=>by omega⟩,b,.nil c L⟩
 |succ n h=>
  intro c L b F al g;have v:s*((n+1:Nat):Int)=s*n+s:=by rw[show((n+1:Nat):Int)=n+1 by omega,Int.mul_add,Int.mul_one]
  have w:s*(n:Int)<=4*8:=Int.mul_le_mul E.2.1 (by omega) (by omega) (by decide);have x:0<=s*(n:Int):=Int.mul_nonneg (by omega) (by omega);rw[v]at g⊢;generalize s*(n:Int)=an at h g w x⊢;obtain⟨I,t,k,G,J,q,j⟩:=b.sub p C B;obtain⟨l,u,o,z,A,K,r,i⟩:=h t k (by simpa using q) F (by omega) (by omega);exact⟨I::l,u,o,by simp[z],λH hx=>by rcases List.mem_cons.1 hx with rfl|hx;exact G;exact A H hx,⟨by omega,by omega,by omega,by omega⟩,r,.cons j i⟩
def Mv.exprs(p:Pd T c0 L0 m)(a:Mv T c0 L0 c L y)(C:Cd)(G:FB 90 d me 1 ce 0)(n:Nat)(au:n<=8:=by omega)(ax:y<=500:=by omega)(H:1<=me/\me+1<=m:=by omega)(a5:0<=ce/\ce<=3950:=by omega)(r: -20000+12*me+8<=T-L.length:=by omega):
  ∃(ks:List Int) (z:Cr) (h:List Nd),ks.length=n/\Pl ks/\(L.length<=h.length/\Lf n (ce+n) (T-L.length) (T-h.length))/\Mv T c0 L0 z h y/\Rr C T 88 [Y X n,Y X d] c L 3 n (ks.map (A9 X)) z h:=by
 obtain⟨ks,A,u,o,q,l,v,e⟩:=xsc p C G H (by omega) n c L a ax au (by omega);refine⟨ks,A,u,o,q,⟨l.1,by simpa using l.2.1⟩,v,λad an al E=>?_⟩;have b:=E.at.nilI;clear a v p E q l G;go_in;go_wp2_with fail;go_loopw [1,7] (λt a1 wr=>∃(m i:Nat) (g s:List Int) (k:Cr) (j:List Nd),t= Y X m/\m+i=n/\g.length=i/\At C T ad an wr k j (rI a1 g::al)/\Xsc C T 90 d m k j s A u/\g++s=ks) (λt _ _=>(B1 t).toNat)
 case atStart=>exact⟨n,0,[],ks,c,L,rfl,rfl,rfl,b,e,rfl⟩
 case round=>
  clear b e;obtain⟨m,i,g,s,k,j,rfl,I,r,b,J,B⟩:=hrel;have f:=kJ I r B;have a6:m<=n:=by omega
  clear I r B o;cases J with
  |@cons m _ ap _ _ ak _ a3 a0 af K=>
   have H:(0:Int)<((m+1:Nat):Int):=by omega
   have a7:IntKind.i64.wrap (((m+1:Nat):Int)-1)=(m:Int):=by rw[dt];omega
   go_wp2_with fail;refine b.run af λw1 x=>?_;have e:=aq x;clear b x;go_wp2_with (at_builtin;refine e.out.app f.2.1 (by have:=f.1;omega) rfl _ _ rfl rfl rfl ?_;intro w a4 a8 ao);go_roundw
   case rel=>exact⟨m,i+1,g++[a3],a0,ap,ak,by go_num,by have:=f.1;omega,by simp[f.2.1],ao,K,by rw[cg];exact f.2.2⟩
   case measure=>simp[B1]
  |nil=>
   obtain⟨o,q,F⟩:=f.out;rw[dr]at F;subst F;obtain⟨w,ar,rfl⟩:=b.form;rw[bi,show g.length=n by omega]at b⊢;have e:=aq b;clear b;go_wp2_with fail;go_ret;exact⟨w,ar,rfl,e.out.bd,e.out.bel⟩
end
def At.intAt{C:Cd}{T:Int}{E:Bs}{R:List Rwx}{r:Rwx}{a:Option Addr}{j:Nat}(h:At C T E W w c L (r::rI (V a n j) ks::R))(e:ks[i]?=U z):∃g,a=U ⟨g,0,O⟩/\w.cell? ⟨g,i,O⟩=U (Y X z):=by
 obtain⟨⟨k,_,f⟩,_⟩:=h;have b:=(f.rows _ (dm _ bg)).2;simp only[bi]at b;have o:=(List.getElem?_eq_some_iff.1 e).1;rcases bB b with⟨m,_⟩|⟨g,l,d⟩
 .omega
 .simp at d;obtain⟨rfl,rfl,rfl⟩:=d;refine⟨g,rfl,?_⟩;rw[b.cellAt i (by omega),cH,e];rfl
def alw{mb cb:Int}(au:1<=mb/\mb+1<=m/\1<=me/\me+2<=m)(ao:0<=ce/\ce<=cb/\cb<=3900)(x: -1000<=d/\d<=1000)(al:FB 164 (d-1) mb 2 cb 0)(an:FB 90 (d-1) me 1 ce 0):FB 85 d m 5 (cb+3) 100:=by
 intro h F a9 a7 c;have ar:=c.lo;have ax:=c.m0;have bo:=w1 x;obtain⟨f,ba,a8,z,ad,o,a0⟩:=c.mv.sub c h al;obtain⟨n,I,y,i,a4⟩:=o.pick c h 3;obtain⟨n,rfl⟩:=iw y.1;obtain⟨ks,J,C,ak,v,af,j,a5⟩:=i.exprs c h an n;have w:=j.len c;refine⟨_,_,_,j.fin c (k:=34) (op:=0) (n:=0) (t:=⟨#[]⟩) (nm:=[]) (ks:=f::ks) (jo (by decide) (by decide) (by decide) (lj (by decide)) (by decide) kK (by simp;omega) (λg hx=>by rcases List.mem_cons.1 hx with rfl|hx;exact z;exact v g hx)),λA G E u=>?_⟩;have bn:n<3:=by omega
 clear o i j ad af c ar ax ao au x y z v;have b:=u.at
 clear u;go_in;go_wp2_with fail;refine b.run a0 λw1 l=>?_;clear b;have L:=l.cs;go_wp2_with fail;refine l.lit1.runC a4 λbr q _=>?_;clear l L;go_wp2_with fail;refine q.runR a5 λbs p K r=>?_;have e:=aq r.swap;clear q r;go_wp2_with fail;go_loopw [6,25] (λa6 iv wr=>∃(a:Nat),iv= Y X a/\a<=n/\At h F A G wr J C (rI a6 (f::ks.take a)::rI (V p n K) ks::E)) (λ_ iv _=>n-(B1 iv).toNat)
 case atStart=>exact⟨0,rfl,aI _,e.out⟩
 case round=>
  clear e;obtain⟨a,rfl,bl,b⟩:=hrel;by_cases bj:a<n
  .obtain⟨g,hx⟩:∃g,ks[a]?=U g:=⟨_,aA (by omega)⟩;obtain⟨bh,rfl,bf⟩:=b.intAt hx;have bk:(0:Int)<=(a:Int):=by omega
   have ap:(a:Int)<(n:Int):=by omega
   have e:=gE b (show(f::ks.take a).length=a+1 by simp;omega);have B:=aq (show f::ks.take (a+1)=f::ks.take a++[g] by rw[ie,hx];rfl);clear b hx;go_wp2_with (at_builtin;refine e.1.app e.2 (by omega) rfl _ _ rfl rfl rfl ?_;intro p bb bt H);go_roundw
   case rel=>exact⟨a+1,by go_num,by omega,by rw[B.out];exact H⟩
   case measure=>simp[B1];omega
  .obtain⟨i,I,rfl⟩:=b.form;have ap:¬(a:Int)<(n:Int):=by omega
   rw[bi,show(f::ks.take a).length=a+1 by simp;omega]at b⊢;rw[db (by omega)]at b;have e:=aq (b.swap.drop.nilS);clear b ak;go_wp2_with fail;refine e.out.add w.1.2 w.1.1 λw5 s=>?_;go_wp2_with fail;go_ret;exact⟨rfl,s.bd,s.bel⟩
inductive Bkc (C:Cd) (T:Int) (d:Int):Nat->Cr->List Nd->List Int->Cr->List Nd->Prop
 |stop {n:Nat}{c:Cr}{L:List Nd}:n=0\/¬5<T-L.length->Bkc C T d n c L [] c L
 |cons {n:Nat}{c c1 c2:Cr}{L L1 L2:List Nd}{z:Int}{l:List Int}:5<T-L.length->Rb C T 48 [.int .i64 d] c L (.int .i64 z) c1 L1->Bkc C T d n c1 L1 l c2 L2->Bkc C T d (n+1) c L (z::l) c2 L2
section
variable {T : Int} {c0 c : Cr} {L0 L : List Nd} {y m : Int}
def bkc(p:Pd T c0 L0 m)(C:Cd){ms cs:Int}(hS:FB 48 d ms 6 cs 0)(E:1<=ms/\ms+1<=m)(B:0<=cs/\cs<=3900)(G:y<=500):∀(n:Nat)(c:Cr)(L:List Nd),Mv T c0 L0 c L y->∃(l:List Int) (e:Cr) (a:List Nd),l.length<=n/\Pl l/\((T-L.length<5->a.length=L.length)/\(5<=T-L.length->5-cs<=T-a.length))/\Mv T c0 L0 e a y/\Bkc C T d n c L l e a:=by
 intro n;have F:=p.m0
 induction n with
 |zero=>exact λc L b=>⟨[],c,L,ag _,pl0,by omega,b,.stop (.inl rfl)⟩
 |succ n v=>
  intro c L b;by_cases f:5<T-L.length
  .obtain⟨x,q,i,u,z,k,h⟩:=b.sub p C hS;obtain⟨l,r,j,s,t,A,o,g⟩:=v q i (by simpa using k);exact⟨x::l,r,j,by simp[s],λw hx=>by rcases List.mem_cons.1 hx with rfl|hx;exact u;exact t w hx,by omega,o,.cons f h g⟩
  .exact⟨[],c,L,aI _,pl0,by omega,b,.stop (.inr f)⟩
end
def aic{ms cs:Int}(G:1<=ms/\ms+1<=m)(F:0<=cs/\cs<=3900)(hS:FB 48 d ms 6 cs 0):FB 94 d m 1 (cs+1) 100:=by
 intro g l a9 u c;have ax:=c.lo;have a0:=c.m0;obtain⟨n,A,H,w,a5⟩:=c.mv.pick c g 4;obtain⟨n,rfl⟩:=iw H.1;obtain⟨ks,ao,v,au,C,ar,o,e⟩:=bkc c g hS G F (by decide) n A u w;have E:=o.len c;refine⟨_,_,_,o.fin c (k:=1) (op:=0) (n:=0) (t:=⟨#[]⟩) (nm:=[]) (ks:=ks) (jo (by decide) (by decide) (by decide) (lj (by decide)) (by decide) kK (by omega) C),λK ak af B=>?_⟩;have bk:n<=3:=by omega
 have b:=B.at.nilI;have cs:=b.cs;clear w o ar c ax a0 F G H C B au hS;go_in;go_wp2_with fail;refine b.runC a5 λw1 x _=>?_;clear b cs;go_wp2_with fail;go_loopw [5,6] (λa7 s wr=>∃(a:Nat) (f r:List Int) (p:Cr) (j:List Nd),s= Y X a/\f.length+a<=3/\At g l K ak wr p j (rI a7 f::af)/\Bkc g l d a p j r ao v/\f++r=ks) (λ_ s _=>(B1 s).toNat)
 case atStart=>exact⟨n,[],ks,A,u,rfl,by simp;omega,x,e,rfl⟩
 case round=>
  clear x e;obtain⟨a,f,r,p,j,rfl,q,b,I,h⟩:=hrel;have cs:=b.cs;cases I with
  |@cons a _ ap _ _ ad _ a8 a6 bf L J=>
   have bh:(0:Int)<((a+1:Nat):Int):=by omega
   have bl:IntKind.i64.wrap (((a+1:Nat):Int)-1)=(a:Int):=by rw[dt];omega
   have i:=gE q h;have bj:a<=3:=by omega
   clear q h;go_wp2_with fail;refine b.run L λbo y=>?_;have e:=aq y;clear b y cs;go_wp2_with (at_builtin;refine e.out.app rfl (by have:=i.1;omega) rfl _ _ rfl rfl rfl ?_;intro al bb br an);go_roundw
   case rel=>exact⟨a,f++[a8],a6,ap,ad,by go_num,by have:=i.1;simp;omega,an,J,by rw[cg];exact i.2⟩
   case measure=>simp[B1]
  |stop a4=>
   rw[dr]at h;subst h;obtain⟨al,ba,rfl⟩:=b.form;rw[bi]at b⊢;have e:=aq b.nilS;clear b;have a3:(0<(a:Int)/\¬5<l-v.length)\/¬0<(a:Int):=by omega
   clear a4 q;rcases a3 with⟨q1,bn⟩|q1;all_goals
    go_wp2_with fail;refine e.out.add E.1.2 E.1.1 λw5 z=>?_;go_wp2_with fail;go_ret;exact⟨rfl,z.bd,z.bel⟩
inductive Tbc (C:Cd) (T:Int) (d:Int):Nat->Cr->List Nd->List Int->Cr->List Nd->Prop
 |nil (c:Cr) (L:List Nd):Tbc C T d 0 c L [] c L
 |item {n:Nat}{c c1 c2 c3:Cr}{L L1 L3:List Nd}{z:Int}{l:List Int}:Rb C T 90 [.int .i64 d] c L (.int .i64 z) c1 L1->Rc C 37 [.int .i64 3] c1 (.int .i64 0) c2->L1.length<=25000->Tbc C T d n c2 (L1++[dN 40 0 0 ⟨#[]⟩ [] [z]]) l c3 L3->Tbc C T d (n+1) c L ((L1.length:Nat)::l) c3 L3
 |pair {n:Nat}{c c1 c2 c3 c4:Cr}{L L1 L2 L3:List Nd}{z y:Int}{l:List Int}:Rb C T 90 [.int .i64 d] c L (.int .i64 z) c1 L1->Rc C 37 [.int .i64 3] c1 (.int .i64 1) c2->Rb C T 90 [.int .i64 d] c2 L1 (.int .i64 y) c4 L2->L2.length<=25000->Tbc C T d n c4 (L2++[dN 41 0 0 ⟨#[]⟩ [] [z,y]]) l c3 L3->Tbc C T d (n+1) c L ((L2.length:Nat)::l) c3 L3
 |named {n:Nat}{c c1 c2 c3 c4:Cr}{L L1 L3:List Nd}{z o:Int}{t:ByteArray}{l:List Int}:Rb C T 90 [.int .i64 d] c L (.int .i64 z) c1 L1->Rc C 37 [.int .i64 3] c1 (.int .i64 o) c2->((o==0)=false/\(o==1)=false)->Rb C T 165 [] c2 L1 (.string t) c4 L1->L1.length<=25000->Tbc C T d n c4 (L1++[dN 42 0 0 t [] [z]]) l c3 L3->Tbc C T d (n+1) c L ((L1.length:Nat)::l) c3 L3
section
variable {T : Int} {c0 c : Cr} {L0 L : List Nd} {y m : Int}
def tbc(p:Pd T c0 L0 m)(C:Cd)(K:FB 90 d me 1 ce 0)(a7:1<=me/\me+1<=m)(a0:0<=ce/\ce<=3900):∀(n:Nat)(c:Cr)(L:List Nd)(y:Int),Mv T c0 L0 c L y->y<=400->n<=3-> -20000+12*me+3*n<=T-L.length->∃(l:List Int) (I:Cr) (s:List Nd) (b:Int),b<=y/\l.length=n/\Pl l/\(L.length<=s.length/\Lf (3*n) (ce+3*n) (T-L.length) (T-s.length))/\Mv T c0 L0 I s b/\Tbc C T d n c L l I s:=by
 intro n;have a8:=p.m0
 induction n with
 |zero=>exact λc L y v _ _ _=>⟨[],c,L,y,Int.le_refl _,rfl,pl0,⟨ag _,by simp;omega⟩,v,.nil c L⟩
 |succ n A=>
  intro c L y v bb a9 a6;obtain⟨G,au,ap,z,av,ak,B⟩:=v.sub p C K;obtain⟨u,al,ba,t,E⟩:=ak.pick p C 3;have g:∀{H:List Nd}{N:Nd},((H++[N]).length:Int)=H.length+1:=by simp
  rcases(show u=0\/u=1\/(u≠0/\u≠1) by omega) with rfl|rfl|⟨an,ao⟩
  .have r:=t.len p;have e:=t.on (N:=dN 40 0 0 ⟨#[]⟩ [] [G]) (jo (by decide) (by decide) (by decide) (lj (by decide)) (by decide) kK (by simp) (Lz z)) (aI 19) (by omega);obtain⟨l,k,i,b,J,o,q,a,j,h⟩:=A al _ _ e (by omega) (by omega) (by rw[g];omega);rw[g]at a;exact⟨_::l,k,i,b,by omega,by simp[o],λf hx=>by rcases List.mem_cons.1 hx with rfl|hx;exact⟨by omega,by omega⟩;exact q f hx,⟨by have:=a.1;simp at this;omega,by omega⟩,j,.item B E r.1.1 h⟩
  .obtain⟨f,x,ar,hx,ax,e,F⟩:=t.sub p C K;have r:=e.len p;have w:=e.on (N:=dN 41 0 0 ⟨#[]⟩ [] [G,f]) (jo (by decide) (by decide) (by decide) (lj (by decide)) (by decide) kK (by simp) (pl2 z hx)) (aI 19) (by omega);obtain⟨l,k,i,b,J,o,q,a,j,h⟩:=A x _ _ w (by omega) (by omega) (by rw[g];omega);rw[g]at a;exact⟨_::l,k,i,b,by omega,by simp[o],λf hx=>by rcases List.mem_cons.1 hx with rfl|hx;exact⟨by omega,by omega⟩;exact q f hx,⟨by have:=a.1;simp at this;omega,by omega⟩,j,.pair B E F r.1.1 h⟩
  .obtain⟨af,x,ad,e,F⟩:=t.short p C;have r:=e.len p;have w:=e.on (N:=dN 42 0 0 af [] [G]) (jo (by decide) (by decide) (by decide) (agh (by decide) ad) (by decide) kK (by simp) (Lz z)) (by have:=ad.sz;show af.size<=19;omega) (by omega);obtain⟨l,k,i,b,J,o,q,a,j,h⟩:=A x _ _ w (by omega) (by omega) (by rw[g];omega);rw[g]at a;exact⟨_::l,k,i,b,by omega,by simp[o],λf hx=>by rcases List.mem_cons.1 hx with rfl|hx;exact⟨by omega,by omega⟩;exact q f hx,⟨by have:=a.1;simp at this;omega,by omega⟩,j,.named B E ⟨by simpa using an,by simpa using ao⟩ F r.1.1 h⟩
end
def an6(a3:1<=me/\me+1<=m)(ar:0<=ce/\ce<=3900)(au: -1000<=d/\d<=1000)(ap:FB 90 (d-1) me 1 ce 0):FB 167 d m 10 (ce+10) 100:=by
 intro x K bD I j;have bs:=j.lo;have bt:=j.m0;have b9:=w1 au;obtain⟨n,af,a4,L,bw⟩:=j.mv.pick j x 4;obtain⟨n,rfl⟩:=iw a4.1;obtain⟨ks,bl,bh,cc,bv,br,ao,bo,A,e⟩:=tbc j x ap a3 ar n af I _ L (by decide) (by omega) (by omega);have E:=A.len j;have F:=E.1.2;refine⟨_,_,_,A.fin j (k:=35) (op:=0) (n:=0) (t:=⟨#[]⟩) (nm:=[]) (ks:=ks) (jo (by decide) (by decide) (by decide) (lj (by decide)) (by decide) kK (by omega) ao),λbf bk bj an=>?_⟩;have b7:n<=3:=by omega
 have b:=an.at.nilI;have l:=b.cs;clear L A bo j bs bt ar a3 a4 ao an br ap au bv;go_in;go_wp2_with fail;refine b.runC bw λw1 ad _=>?_;clear b l;go_wp2_with fail;go_loopw [5,6] (λbx H wr=>∃(a:Nat) (o G:List Int) (C:Cr) (z:List Nd),H= Y X a/\o.length+a<=3/\At x K bf bk wr C z (rI bx o::bj)/\Tbc x K (d-1) a C z G bl bh/\o++G=ks) (λ_ H _=>(B1 H).toNat)
 case atStart=>exact⟨n,[],ks,af,I,rfl,by simp;omega,ad,e,rfl⟩
 case round=>
  clear ad e;obtain⟨a,o,G,C,z,rfl,ax,b,bb,u⟩:=hrel;have f:=gE ax u;have b0:a<=3:=by omega
  clear ax u;cases bb with
  |nil=>
   have u:=f.2;rw[dr]at u;subst u;obtain⟨B,bE,rfl⟩:=b.form;rw[bi]at b⊢;have e:=aq b.nilS;clear b;go_wp2_with fail;refine e.out.add E.1.2 E.1.1 λw5 i=>?_;go_wp2_with fail;go_ret;exact⟨rfl,i.bd,i.bel⟩
  |@item a _ ak c5 _ _ J _ ba w q r v p=>
   have a0:(0:Int)<((a+1:Nat):Int):=by omega
   have a5:IntKind.i64.wrap (((a+1:Nat):Int)-1)=(a:Int):=by rw[dt];omega
   go_wp2_with fail;refine b.run q λa6 c=>?_;clear b;have l:=c.cs;go_wp2_with fail;refine c.runC r λa7 g _=>?_;clear c l;go_wp2_with fail;refine g.lit1.kids F v λa8 h=>?_;have e:=aq h;clear g h;go_wp2_with (at_builtin;refine e.out.app rfl (by have:=f.1;omega) rfl _ _ rfl rfl rfl ?_;intro B al a9 s);go_roundw
   case rel=>exact⟨a,o++[_],w,_,_,by go_num,by have:=f.1;simp;omega,s,p,by rw[cg];exact f.2⟩
   case measure=>simp[B1]
  |@pair a _ ak c5 _ bn _ J bA _ ba cb w q r y v p=>
   have a0:(0:Int)<((a+1:Nat):Int):=by omega
   have a5:IntKind.i64.wrap (((a+1:Nat):Int)-1)=(a:Int):=by rw[dt];omega
   go_wp2_with fail;refine b.run q λa6 c=>?_;clear b;have l:=c.cs;go_wp2_with fail;refine c.runC r λa7 g _=>?_;clear c l;go_wp2_with fail;refine g.run y λa8 h=>?_;clear g;go_wp2_with fail;refine h.lit2.kids F v λw5 i=>?_;have e:=aq i;clear h i;go_wp2_with (at_builtin;refine e.out.app rfl (by have:=f.1;omega) rfl _ _ rfl rfl rfl ?_;intro B al a9 s);go_roundw
   case rel=>exact⟨a,o++[_],w,_,_,by go_num,by have:=f.1;simp;omega,s,p,by rw[cg];exact f.2⟩
   case measure=>simp[B1]
  |@named a _ ak c5 _ bn _ J _ ba ca t w q r b8 y v p=>
   have a0:(0:Int)<((a+1:Nat):Int):=by omega
   have a5:IntKind.i64.wrap (((a+1:Nat):Int)-1)=(a:Int):=by rw[dt];omega
   go_wp2_with fail;refine b.run q λa6 c=>?_;clear b;have l:=c.cs;go_wp2_with fail;refine c.runC r λa7 g _=>?_;clear c l;go_wp2_with fail;refine g.run y λa8 h=>?_;clear g;go_wp2_with fail;refine h.lit1.nilS.add F v λw5 i=>?_;have e:=aq i;clear h i;go_wp2_with (at_builtin;refine e.out.app rfl (by have:=f.1;omega) rfl _ _ rfl rfl rfl ?_;intro B al a9 s);go_roundw
   case rel=>exact⟨a,o++[_],w,_,_,by go_num,by have:=f.1;simp;omega,s,p,by rw[cg];exact f.2⟩
   case measure=>simp[B1]
def FBl(f:FuncId)(d m s k b:Int):Prop:=∀ ⦃C:Cd⦄ ⦃T:Int⦄ ⦃c:Cr⦄ ⦃L:List Nd⦄,Pd T c L m->T-L.length<=b->∃z e a,An T c L e a z s k 100/\Rb C T f [Y X d] c L (Y X z) e a
def FBl.all(h:FBl f d m s k 140):FB f d m s k 100:=λ_ _ _ _ a=>h a (by have:=a.sum;omega)
def Mv.subL{T:Int}{j:Cr}{i:List Nd}{l:Int}(p:Pd T j i m)(a:Mv T j i c L l)(C:Cd){h b:Int}(hF:FBl f d h s k b)(x:T-L.length<=b)(J:1<=h/\h+1<=m)(ad:l<=500)(y: -20000+12*h<=T-L.length)(K:s<=12/\k<=4000):
  ∃(z:Int) (g:Cr) (e:List Nd),(0<=z/\z<=100000)/\(L.length<e.length/\z=e.length-1/\Lf s k (T-L.length) (T-e.length))/\Mv T j i g e (l-100)/\Rb C T f [Y X d] c L (Y X z) g e:=by
 have I:=a.len p;have B:=p.hx;have E:=a.p;have w:=a.p0;have F:=p.m0;have G:=a.n;have H:=p.sum;obtain⟨z,g,e,b,o⟩:=hF (C:=C) (T:=T) (c:=c) (L:=L) ⟨p.sum,y,by omega,by omega,w⟩ x;obtain⟨q,r,t,A,u,v⟩:=b;exact⟨z,g,e,by omega,⟨r,t,v⟩,⟨a.nx.trans q,by omega,by omega,u,by omega⟩,o⟩
def IB{mk mr ck cr b:Int}(A: -1000<=d/\d<=1000)(B:(1<=me/\me+1<=m)/\(1<=mk/\mk+1<=m)/\(1<=mr/\mr+1<=m))(L:(0<=ce/\ce+3<=k)/\(0<=ck/\ck+3<=k)/\(0<=cr/\cr+1<=k)/\k<=3800)(K:FB 90 d me 1 ce 0)(y:FB 94 (d-1) mk 1 ck 0)
  (z:10<b->FBl 93 (d-1) mr 4 cr (b-2)):FBl 93 d m 4 k b:=by
 intro i F a5 ar c ad;have bf:=w1 A;have af:=c.lo;have ak:=c.m0;obtain⟨bn,a6,au,q,I,r,bh⟩:=c.mv.sub c i K;obtain⟨bl,a7,C,p,J,s,bj⟩:=r.sub c i y;obtain⟨n,a8,al,g,bk⟩:=s.pick c i 3;have l:=jo (k:=7) (op:=0) (n:=0) (t:=⟨#[]⟩) (by decide) (by decide) (by decide) (lj (by decide)) (by decide) kK (by simp) (pl2 q p);have a:=g.len c;rcases(show n=0\/n=1\/(n≠0/\n≠1) by omega) with rfl|rfl|⟨v,w⟩
 case' inl=>
  obtain⟨ao,G,E,o,j,f,an⟩:=g.sub c i y;have a:=f.len c;refine⟨_,_,_,f.fin c (jo (k:=7) (op:=0) (n:=0) (t:=⟨#[]⟩) (by decide) (by decide) (by decide) (lj (by decide)) (by decide) kK (by simp) ((pl2 q p).add o)),?_⟩;clear f j
 case' inr.inl=>
  by_cases bb:10<F-C.length
  case' pos=>
   obtain⟨ao,G,E,o,j,f,an⟩:=g.subL c i (z (by omega)) (by omega) B.2.2 (by omega) (by omega) (by omega);have a:=f.len c;refine⟨_,_,_,f.fin c (jo (k:=7) (op:=0) (n:=0) (t:=⟨#[]⟩) (by decide) (by decide) (by decide) (lj (by decide)) (by decide) kK (by simp) ((pl2 q p).add o)),?_⟩;clear f j
  case' neg=>refine⟨_,_,_,g.fin c l,?_⟩
 case' inr.inr=>
  refine⟨_,_,_,g.fin c l,?_⟩;have ba:(n==0)=B0/\(n==1)=B0:=by simp[v,w]
  clear v w
 all_goals
  clear r s g I J al l c af ak L B A ad z;intro ap a0 ax x;have b:=x.at
  have e:=b.cs;clear x;go_in
  repeat' (go_wp2_with (at_builtin;with_reducible refine At.app b rfl (by simp) rfl _ _ rfl rfl rfl ?_;clear b e;intro u a9 h b;have e:=b.cs);first
   |(go_at_call 37;(first|with_reducible refine At.runC b (by assumption) ?_|with_reducible refine At.runC b.lit2 (by assumption) ?_|with_reducible refine At.runC b.lit1 (by assumption) ?_);clear b e;intro h b _;have e:=b.cs)
   |(go_at_call 87;with_reducible refine At.runR b (by assumption) ?_;clear b e;intro h u H b;have e:=b.cs)
   |(go_at_call 88;with_reducible refine At.runR b (by assumption) ?_;clear b e;intro h u H b;have e:=b.cs)
   |(go_at_call 86;(first|with_reducible refine At.kids b.lit1 a.1.2 a.1.1 ?_|with_reducible refine At.kids b.lit2 a.1.2 a.1.1 ?_|with_reducible refine At.kids b.nilI a.1.2 a.1.1 ?_);clear b e;intro h b;have e:=b.cs)
   |(go_at_call 89;(first|with_reducible refine At.add b.lit1.nilS a.1.2 a.1.1 ?_|with_reducible refine At.add b.lit2.nilS a.1.2 a.1.1 ?_|with_reducible refine At.add b.lit1.swap a.1.2 a.1.1 ?_|with_reducible refine At.add b.lit2.swap a.1.2 a.1.1 ?_|with_reducible refine At.add b.swap a.1.2 a.1.1 ?_|with_reducible refine At.add b a.1.2 a.1.1 ?_|with_reducible refine At.add b.nilS a.1.2 a.1.1 ?_|with_reducible refine At.add b.nilI.nilS a.1.2 a.1.1 ?_);clear b e;intro h b;have e:=b.cs)
   |(go_ret;exact⟨rfl,b.bd,b.bel⟩)
   |(with_reducible refine At.run b (by assumption) ?_;clear b e;intro h b;have e:=b.cs))
def an7{C':Int}(G:d<=0)(s:2<=m)(q:0<=C'/\C'<=3800)(p:FB 85 1 (m-1) 5 C' 0):FB 48 d m 6 (C'+1) 0:=by
 intro j A C x e;have r:=e.lo;have u:=e.m0;obtain⟨I,E,y,v,o,g,H⟩:=e.mv.sub e j p;have b:=g.len e;refine⟨_,_,_,g.fin e (k:=6) (op:=0) (n:=0) (t:=⟨#[]⟩) (jo (by decide) (by decide) (by decide) (lj (by decide)) (by decide) kK (by simp) (Lz v)),?_⟩;clear g o e r u q s;intro w B z i;have a:=i.at
 have c:=a.cs;clear i;go_in
 repeat' (go_wp2_with (at_builtin;with_reducible refine At.app a rfl (by simp) rfl _ _ rfl rfl rfl ?_;clear a c;intro h F f a;have c:=a.cs);first
  |(go_at_call 37;(first|with_reducible refine At.runC a (by assumption) ?_|with_reducible refine At.runC a.lit2 (by assumption) ?_|with_reducible refine At.runC a.lit1 (by assumption) ?_);clear a c;intro f a _;have c:=a.cs)
  |(go_at_call 87;with_reducible refine At.runR a (by assumption) ?_;clear a c;intro f h l a;have c:=a.cs)
  |(go_at_call 88;with_reducible refine At.runR a (by assumption) ?_;clear a c;intro f h l a;have c:=a.cs)
  |(go_at_call 86;(first|with_reducible refine At.kids a.lit1 b.1.2 b.1.1 ?_|with_reducible refine At.kids a.lit2 b.1.2 b.1.1 ?_|with_reducible refine At.kids a.nilI b.1.2 b.1.1 ?_);clear a c;intro f a;have c:=a.cs)
  |(go_at_call 89;(first|with_reducible refine At.add a.lit1.nilS b.1.2 b.1.1 ?_|with_reducible refine At.add a.lit2.nilS b.1.2 b.1.1 ?_|with_reducible refine At.add a.lit1.swap b.1.2 b.1.1 ?_|with_reducible refine At.add a.lit2.swap b.1.2 b.1.1 ?_|with_reducible refine At.add a.swap b.1.2 b.1.1 ?_|with_reducible refine At.add a b.1.2 b.1.1 ?_|with_reducible refine At.add a.nilS b.1.2 b.1.1 ?_|with_reducible refine At.add a.nilI.nilS b.1.2 b.1.1 ?_);clear a c;intro f a;have c:=a.cs)
  |(go_ret;exact⟨rfl,a.bd,a.bel⟩)
  |(with_reducible refine At.run a (by assumption) ?_;clear a c;intro f a;have c:=a.cs))
def aqf{C:Cd}{T:Int}{an s A ao c5:Cr}{v k:List Nd}{o u:Int}{q f:Nat}{g:List Int}(bt:1<=d/\d<=1000)(bE:¬T-L.length<8)(ba:z=4\/z=5\/z=6)(bb:Rc C 37 [Y X 17] c (Y X z) an)(bf:Rc C 37 [Y X 2] an (Y X o) s)(b0:IntKind.i64.wrap (1+o)=(q:Int))(b7:q<=3)(e:Xsc C T 92 d q s L ks A v)(bh:Rc C 37 [Y X 2] A (Y X u) ao)(b6:IntKind.i64.wrap (1+u)=(f:Int))(b8:f<=3)(bj:Rr C T 88 [Y X f,Y X d] ao v 3 f (g.map (A9 X)) c5 k)(t:ks.length=q)(a9:g.length=f)(ar:(k.length<=25000/\ -100000<=T/\T<=100000)/\c5.p<=20000000):Rb C T 48 [Y X d] c L (Y X (k.length:Nat)) c5 (k++[dN 5 0 q ⟨#[]⟩ [] (ks++g)]):=by
 intro K af ad ap;have b:=ap.at
 have m:=b.cs;have bv:¬d<=0:=by omega
 clear ap;rcases ba with rfl|rfl|rfl;all_goals
  go_in;go_wp2_with fail;refine b.runC bb λw1 y _=>?_;clear b m;have m:=y.cs;go_wp2_with fail;refine y.runC bf λb9 ak _=>?_;clear y m;go_wp2_with fail;go_loopw [11,13] (λI iv wr=>∃(a:Nat) (r:Nat) (h H:List Int) (B:Cr) (w:List Nd),iv= Y X a/\a+r=q/\h.length=a/\At C T K af wr B w (rI I h::ad)/\Xsc C T 92 d r B w H A v/\h++H=ks) (λ_ iv _=>q-(B1 iv).toNat)
  case atStart=>exact⟨0,q,[],ks,s,L,rfl,by simp,rfl,ak.nilI,e,rfl⟩
  case round=>
   clear ak;obtain⟨a,r,h,H,B,w,rfl,F,au,b,a0,n⟩:=hrel;have i:=kJ F au n;have bD:a<=q:=by omega
   clear au n;cases a0 with
   |@cons r _ a6 _ _ a5 _ bn bk a4 a1=>
    have E:(a:Int)<(q:Int):=by omega
    clear F;go_wp2_with fail;refine b.run a4 λbl l=>?_;have e:=aq l;clear b l;go_wp2_with (at_builtin;refine e.out.app i.2.1 (by omega) rfl _ _ rfl rfl rfl ?_;intro x a8 ax j);go_roundw
    case rel=>exact⟨a+1,r,h++[bn],bk,a6,a5,by go_num,by have:=i.1;omega,by simp[i.2.1],j,a1,by rw[cg];exact i.2.2⟩
    case measure=>simp[B1];omega
   |nil=>
    have E:¬(a:Int)<(q:Int):=by omega
    have n:=i.2.2;rw[dr]at n;subst n;have m:=b.cs;clear F i;go_wp2_with fail;refine b.runC bh λbl l _=>?_;clear b m;go_wp2_with fail;refine l.runR bj λax x a7 j=>?_;have e:=aq j.swap;clear l j;go_wp2_with fail;go_loopw [11,118] (λI iv wr=>∃(a:Nat),iv= Y X a/\a<=f/\At C T K af wr c5 k (rI I (h++g.take a)::rI (V x f a7) g::ad)) (λ_ iv _=>f-(B1 iv).toNat)
    case atStart=>exact⟨0,rfl,aI _,by simpa using e.out⟩
    case round=>
     clear e;obtain⟨a,rfl,bA,b⟩:=hrel;by_cases bw:a<f
     .obtain⟨J,G⟩:∃J,g[a]?=U J:=⟨_,aA (by omega)⟩;obtain⟨bs,rfl,br⟩:=b.intAt G;have bx:(0:Int)<=(a:Int):=by omega
      have E:(a:Int)<(f:Int):=by omega
      have e:=gE b (show(h++g.take a).length=q+a by rw[aJ,gC,t];omega);have a3:=aq (show h++g.take (a+1)=h++g.take a++[J] by rw[ie,G,cg];rfl);clear b G t;go_wp2_with (at_builtin;refine e.1.app e.2 (by omega) rfl _ _ rfl rfl rfl ?_;intro x a8 ax j);go_roundw
      case rel=>exact⟨a+1,by go_num,by omega,by rw[a3.out];exact j⟩
      case measure=>simp[B1];omega
     .obtain⟨bo,s,rfl⟩:=b.form;have E:¬(a:Int)<(f:Int):=by omega
      rw[bi,show(h++g.take a).length=q+a by rw[aJ,gC,t];omega]at b⊢;rw[db (by omega)]at b;have e:=aq (b.swap.drop.nilS);clear b t a9;go_wp2_with fail;refine e.out.add ar.1.2 ar.1.1 λw5 al=>?_;go_wp2_with fail;go_ret;exact⟨rfl,al.bd,al.bel⟩
def aqg{mm C':Int}(bD:1<=d/\d<=1000)(b2:1<=mm/\mm+2<=m)(bA:4<=C'/\C'<=3700)(I:FB 90 d mm 1 C' 0)(bj:FB 91 d mm 12 C' 0)(bk:FB 92 d mm 4 (C'-3) 0)(a7:FB 85 d mm 12 C' 0)(bh:FB 85 1 mm 5 C' 0)
  (bf:FB 93 d mm 12 C' 100) (ad:FB 94 (d-1) mm 1 C' 100):FB 48 d m 6 (C'+5) 0:=by
 intro e ar cd a8 b;have cl:=w1 (d:=d) (by omega);have b1:=b.lo;have b3:=b.m0;have cf:¬d<=0:=by omega
 by_cases b0:ar-a8.length<8
 case' pos=>
  obtain⟨E,bs,ca,r,bx,l,bl⟩:=b.mv.sub b e bh;have g:=l.len b;refine⟨_,_,_,l.fin b (k:=6) (op:=0) (n:=0) (t:=⟨#[]⟩) (jo (by decide) (by decide) (by decide) (lj (by decide)) (by decide) kK (by simp) (Lz r)),?_⟩;clear l bx
 case' neg=>
  obtain⟨n,bs,b4,l,bl⟩:=b.mv.pick b e 17;rcases(show(n=0\/n=1)\/n=2\/n=3\/(n=4\/n=5\/n=6)\/n=7\/(n=8\/n=9)\/n=10\/n=11\/n=12\/n=13\/n=14\/n=15\/n=16 by omega) with hn2|rfl|rfl|hn'|rfl|hn2|rfl|rfl|rfl|rfl|rfl|rfl|rfl
  case' inl=>
   obtain⟨j,s,C,f,A⟩:=l.pick b e 3;obtain⟨i,x⟩:∃i:Nat,1+j=(i:Int):=⟨(1+j).toNat,by omega⟩;have au:=wq x (by omega);obtain⟨nm,u,z,o,h,w⟩:=f.names b e i;obtain⟨G,an,K,q,ao⟩:=h.pick b e 3;obtain⟨G,rfl⟩:=iw K.1;obtain⟨ks,c5,br,L,H,ba,p,al⟩:=q.exprs b e I G;have g:=p.len b;refine⟨_,_,_,p.fin b (k:=2) (op:=0) (n:=0) (t:=⟨#[]⟩) (nm:=nm) (ks:=ks) (jo (by decide) (by decide) (by decide) (lj (by decide)) (by omega) o (by omega) H),?_⟩;clear f h q p ba C K z o L H x
  case' inr.inl=>
   obtain⟨E,s,B,r,y,f,A⟩:=l.sub b e I;obtain⟨nm,u,z,o,h,w⟩:=f.names b e 1;replace w:Rr e ar 87 [Y X 1] s B 9 1 (nm.map Z) u B:=w;have g:=h.len b;refine⟨_,_,_,h.fin b (k:=3) (op:=0) (n:=0) (t:=⟨#[]⟩) (nm:=nm) (jo (by decide) (by decide) (by decide) (lj (by decide)) (by omega) o (by simp) (Lz r)),?_⟩;clear f h y z o
  case' inr.inr.inl=>
   obtain⟨E,s,B,r,y,f,A⟩:=l.sub b e bj;obtain⟨nm,u,z,o,h,w⟩:=f.names b e 1;replace w:Rr e ar 87 [Y X 1] s B 9 1 (nm.map Z) u B:=w;have g:=h.len b;refine⟨_,_,_,h.fin b (k:=4) (op:=0) (n:=0) (t:=⟨#[]⟩) (nm:=nm) (jo (by decide) (by decide) (by decide) (lj (by decide)) (by omega) o (by simp) (Lz r)),?_⟩;clear f h y z o
  case inr.inr.inr.inl=>
   obtain⟨j,s,C,f,A⟩:=l.pick b e 2;obtain⟨i,x⟩:∃i:Nat,1+j=(i:Int):=⟨(1+j).toNat,by omega⟩;have au:=wq x (by omega);obtain⟨ks,u,J,z,o,F,h,bo⟩:=xsc b e bk (by omega) (by omega) i s a8 f (by omega) (by omega) (by omega);obtain⟨G,an,K,q,ao⟩:=h.pick b e 2;obtain⟨b8,bw⟩:∃i:Nat,1+G=(i:Int):=⟨(1+G).toNat,by omega⟩;have b5:=wq bw (by omega);have ck:12-C'-4*i<=ar-J.length:=by have:=F.2.2.2 (by omega) (by omega);omega
   obtain⟨b7,c5,br,L,H,ba,p,al⟩:=q.exprs b e I b8;have g:=p.len b;exact⟨_,_,_,p.fin b (k:=5) (op:=0) (n:=i) (t:=⟨#[]⟩) (nm:=[]) (ks:=ks++b7) (jo (by decide) (by decide) (by omega) (lj (by decide)) (by decide) kK (by rw[aJ];omega) (λbn b6=>(List.mem_append.1 b6).elim (o bn) (H bn))),aqf bD b0 hn' bl A au (by omega) bo ao b5 (by omega) al z L g⟩
  case' inr.inr.inr.inr.inl=>
   obtain⟨E,s,B,r,y,f,A⟩:=l.sub b e a7;have g:=f.len b;refine⟨_,_,_,f.fin b (k:=6) (op:=0) (n:=0) (t:=⟨#[]⟩) (jo (by decide) (by decide) (by decide) (lj (by decide)) (by decide) kK (by simp) (Lz r)),?_⟩;clear f y
  case' inr.inr.inr.inr.inr.inl=>
   obtain⟨E,s,B,a,A⟩:=l.tail b e bf;have g:=l.len b;refine⟨E,s,B,⟨a.nx,a.n,a.z,a.p,a.p0,by have:=a.lf;omega⟩,?_⟩;clear a
  case' inr.inr.inr.inr.inr.inr.inl=>
   obtain⟨E,s,B,r,y,f,A⟩:=l.sub b e I;obtain⟨ax,u,J,ak,F,h,w⟩:=f.sub b e ad;have g:=h.len b;refine⟨_,_,_,h.fin b (k:=8) (op:=0) (n:=0) (t:=⟨#[]⟩) (jo (by decide) (by decide) (by decide) (lj (by decide)) (by decide) kK (by simp) (pl2 r ak)),?_⟩;clear f h y F
  case' inr.inr.inr.inr.inr.inr.inr.inl=>
   obtain⟨j,s,C,f,A⟩:=l.pick b e 2;obtain⟨i,x⟩:∃i:Nat,2+j=(i:Int):=⟨(2+j).toNat,by omega⟩;have au:=wq x (by omega);obtain⟨ks,u,J,L,H,F,h,w⟩:=f.exprs b e I i;obtain⟨ax,an,a0,ak,a6,q,ao⟩:=h.sub b e ad;obtain⟨nm,c5,z,o,p,al⟩:=q.names b e 1;replace al:Rr e ar 87 [Y X 1] an a0 9 1 (nm.map Z) c5 a0:=al;have g:=p.len b;refine⟨_,_,_,p.fin b (k:=9) (op:=0) (n:=0) (t:=⟨#[]⟩) (nm:=nm) (ks:=ks++[ax]) (jo (by decide) (by decide) (by decide) (lj (by decide)) (by omega) o (by simp;omega) (H.add ak)),?_⟩;have bE:i<=1000:=by omega
   clear f h q p F a6 C z o H x
  case' inr.inr.inr.inr.inr.inr.inr.inr.inl=>
   obtain⟨E,s,B,r,y,f,A⟩:=l.sub b e I;obtain⟨ax,u,J,ak,F,h,w⟩:=f.sub b e ad;obtain⟨j,an,C,q,ao⟩:=h.pick b e 2;obtain⟨i,x⟩:∃i:Nat,1+j=(i:Int):=⟨(1+j).toNat,by omega⟩;have au:=wq x (by omega);obtain⟨nm,c5,z,o,p,al⟩:=q.names b e i;have g:=p.len b;refine⟨_,_,_,p.fin b (k:=10) (op:=0) (n:=0) (t:=⟨#[]⟩) (nm:=nm) (jo (by decide) (by decide) (by decide) (lj (by decide)) (by omega) o (by simp) (pl2 r ak)),?_⟩;clear f h q p y F C z o x
  case' inr.inr.inr.inr.inr.inr.inr.inr.inr.inl=>
   obtain⟨j,s,C,f,A⟩:=l.pick b e 2;by_cases af:j=0
   case' pos=>
    subst af;obtain⟨G,u,K,h,w⟩:=f.pick b e 2;have cn:=wi (a:=11+G) (by omega);have g:=h.len b;refine⟨_,_,_,h.fin b (k:=11+G) (op:=0) (n:=0) (t:=⟨#[]⟩) (jo (by omega) (by decide) (by decide) (lj (by omega)) (by decide) kK (by simp) pl0),?_⟩;clear h K
   case' neg=>
    have bv:(j==0)=B0:=by simpa using af
    obtain⟨G,u,K,h,w⟩:=f.pick b e 3;obtain⟨G,rfl⟩:=iw K.1;obtain⟨ks,an,a0,L,H,a6,q,ao⟩:=h.exprs b e I G;have g:=q.len b;refine⟨_,_,_,q.fin b (k:=13) (op:=0) (n:=0) (t:=⟨#[]⟩) (ks:=ks) (jo (by decide) (by decide) (by decide) (lj (by decide)) (by decide) kK (by omega) H),?_⟩;clear h q a6 K L H af
   all_goals clear f C
  case' inr.inr.inr.inr.inr.inr.inr.inr.inr.inr.inl=>
   obtain⟨E,s,B,r,y,f,A⟩:=l.sub b e ad;obtain⟨ax,u,J,ak,F,h,w⟩:=f.sub b e ad;obtain⟨j,an,C,q,ao⟩:=h.pick b e 2;obtain⟨i,x⟩:∃i:Nat,1+j=(i:Int):=⟨(1+j).toNat,by omega⟩;have au:=wq x (by omega);obtain⟨nm,c5,z,o,p,al⟩:=q.names b e i;have g:=p.len b;refine⟨_,_,_,p.fin b (k:=14) (op:=0) (n:=0) (t:=⟨#[]⟩) (nm:=nm) (jo (by decide) (by decide) (by decide) (lj (by decide)) (by omega) o (by simp) (pl2 r ak)),?_⟩;clear f h q p y F C z o x
  case' inr.inr.inr.inr.inr.inr.inr.inr.inr.inr.inr.inl=>
   obtain⟨j,s,C,f,A⟩:=l.pick b e 2;by_cases af:j=0
   case' pos=>
    subst af;obtain⟨E,u,J,a,w⟩:=f.tail b e ad;have g:=f.len b;refine⟨E,u,J,⟨a.nx,a.n,a.z,a.p,a.p0,by have:=a.lf;omega⟩,?_⟩;clear a
   case' neg=>
    have bv:(j==0)=B0:=by simpa using af
    obtain⟨E,u,J,r,F,h,w⟩:=f.sub b e I;have g:=h.len b;refine⟨_,_,_,h.fin b (k:=15) (op:=0) (n:=0) (t:=⟨#[]⟩) (jo (by decide) (by decide) (by decide) (lj (by decide)) (by decide) kK (by simp) (Lz r)),?_⟩;clear h F af
   all_goals clear f C
  case' inr.inr.inr.inr.inr.inr.inr.inr.inr.inr.inr.inr=>
   obtain⟨E,s,B,r,y,f,A⟩:=l.sub b e a7;have g:=f.len b;refine⟨_,_,_,f.fin b (k:=16) (op:=0) (n:=0) (t:=⟨#[]⟩) (jo (by decide) (by decide) (by decide) (lj (by decide)) (by decide) kK (by simp) (Lz r)),?_⟩;clear f y
  all_goals clear l b4
  all_goals (try rcases hn2 with rfl|rfl)
 all_goals
  clear b b1 bA b2 b3 I bj bk a7 bh bf ad;intro b9 cc cb bb;have c:=bb.at
  have v:=c.cs;clear bb;go_in
  repeat' (go_wp2_with (at_builtin;with_reducible refine At.app c L bE rfl _ _ rfl rfl rfl ?_;clear c v;intro a9 ce ap c;have v:=c.cs);first
   |(go_at_call 37;(first|with_reducible refine At.runC c (by assumption) ?_|with_reducible refine At.runC c.lit2 (by assumption) ?_|with_reducible refine At.runC c.lit1 (by assumption) ?_);clear c v;intro ap c _;have v:=c.cs)
   |(go_at_call 87;with_reducible refine At.runR c (by assumption) ?_;clear c v;intro ap a9 bt c;have v:=c.cs)
   |(go_at_call 88;with_reducible refine At.runR c (by assumption) ?_;clear c v;intro ap a9 bt c;have v:=c.cs)
   |(go_at_call 86;(first|with_reducible refine At.kids c.lit1 g.1.2 g.1.1 ?_|with_reducible refine At.kids c.lit2 g.1.2 g.1.1 ?_|with_reducible refine At.kids c.nilI g.1.2 g.1.1 ?_);clear c v;intro ap c;have v:=c.cs)
   |(go_at_call 89;(first|with_reducible refine At.add c.lit1.nilS g.1.2 g.1.1 ?_|with_reducible refine At.add c.lit2.nilS g.1.2 g.1.1 ?_|with_reducible refine At.add c.lit1.swap g.1.2 g.1.1 ?_|with_reducible refine At.add c.lit2.swap g.1.2 g.1.1 ?_|with_reducible refine At.add c.swap g.1.2 g.1.1 ?_|with_reducible refine At.add c g.1.2 g.1.1 ?_|with_reducible refine At.add c.nilS g.1.2 g.1.1 ?_|with_reducible refine At.add c.nilI.nilS g.1.2 g.1.1 ?_);clear c v;intro ap c;have v:=c.cs)
   |(go_ret;exact⟨rfl,c.bd,c.bel⟩)
   |(with_reducible refine At.run c (by assumption) ?_;clear c v;intro ap c;have v:=c.cs))
def alx:FB 85 1 10 5 5 100:=alw (mb:=3) (me:=2) (cb:=2) (ce:=1) (by decide) (by decide) (by decide) (alb (me:=2) (ce:=1) (by decide) (by decide) (El (by decide))) (El (by decide))
def abj(a:d<=0):FB 94 d 16 1 7 100:=aic (ms:=15) (cs:=6) (by decide) (by decide) (an7 (C':=5) a (by decide) (by decide) alx.up)
def aky:∀(b:Nat)(d:Int),b<=1000->d<=0-> -1000+(b:Int)<=d->FBl 93 d (17+b) 4 (10+((b / 2:Nat):Int)) b:=by
 intro b
 induction b using Nat.strongRecOn with
 |_ b e=>
  intro d f a g;rcases bC b 2 with hb2|hb2
  .refine IB (me:=2) (mk:=16) (mr:=15) (ce:=1) (ck:=7) (cr:=0) (by omega) (by omega) (by omega) (El a) (abj (by omega)).up (λc=>by omega)
  refine IB (me:=2) (mk:=16) (mr:=15+b) (ce:=1) (ck:=7) (cr:=9+((b / 2:Nat):Int)) (by omega) (by omega) (by omega) (El a) (abj (by omega)).up (λc=>?_);have:=e (b-2) (by omega) (d-1) (by omega) (by omega) (by omega);rw[show((b-2:Nat):Int)=(b:Int)-2 by omega,show(17:Int)+((b:Int)-2)=15+b by omega,show(10:Int)+(((b-2) / 2:Nat):Int)=9+((b / 2:Nat):Int) by omega]at this;exact this
structure Lv (d m Ce Ck Cr:Int):Prop where
 e:FB 90 d m 1 Ce 0
 k:FB 94 d m 1 Ck 100
 r:FB 93 d m 4 Cr 100
def lv0:Lv 0 160 1 7 80:=⟨(El (by decide)).up,(abj (by decide)).up,(FBl.all (aky 140 0 (by decide) (by decide) (by decide))).up⟩
def lvS{a b Cr cc cb:Int}(h:Lv d m a b Cr)(y:0<=d/\d<=10)(z:20<=m/\m<=1200)(v:1<=a/\1<=b/\1<=Cr:=by decide)(x:a+10<=cc/\b+1<=cc:=by decide)(w:cc+4<=cb/\b+3<=cb/\Cr+1<=cb/\cb<=3000:=by decide):FB 48 (d+1) (m+9) 6 (cb+5) 0/\Lv (d+1) (m+10) (cc+1) (cb+6) cb:=by
 have f:d+1-1=d:=by omega
 have c:FB 90 (d+1-1) m 1 a 0:=by rw[f];exact h.e
 have j:FB 94 (d+1-1) m 1 b 100:=by rw[f];exact h.k
 have q:FB 93 (d+1-1) m 4 Cr 100:=by rw[f];exact h.r
 have g:FB 164 (d+1-1) (m+1) 2 (a+1) 0:=alb (by omega) (by omega) c;have n:FB 85 (d+1) (m+3) 5 (a+1+3) 100:=alw (by omega) (by omega) (by omega) g c;have t:FB 167 (d+1) (m+1) 10 (a+10) 100:=an6 (by omega) (by omega) (by omega) c;have o:FB 91 (d+1) (m+1) 2 (b+1) 100:=fnB (mk:=m) (ck:=b) (by omega) (by omega) (by omega) j.up;have i:FB 90 (d+1) (m+5) 1 (cc+1) 0:=an5 (mc:=m+4) (cc:=cc) (by omega) (by omega) (by omega) c g n.up t.up o.up;have s:FB 92 (d+1) (m+2) 4 (a+1+3) 0:=ajr (by omega) (by omega) (by omega) g c;have l:FB 93 (d+1) (m+6) 4 cb 100:=FBl.all (IB (me:=m+5) (mk:=m) (ce:=cc+1) (ck:=b) (mr:=m) (cr:=Cr) (by omega) (by omega) (by omega) i j.up (λ_=>λ_ _ _ _ u _=>q u));have hS:FB 48 (d+1) (m+9) 6 (cb+5) 0:=aqg (mm:=m+7) (by omega) (by omega) (by omega) i.up o.up s.up n.up alx.up l.up j.up;have p:FB 94 (d+1) (m+10) 1 (cb+5+1) 100:=aic (ms:=m+9) (cs:=cb+5) (by omega) (by omega) hS;exact⟨hS,i.up,p.up,l.up⟩
def aid(g:1<=d/\d<=5):FB 48 d 220 6 130 0:=by
 have a:=lvS (cc:=11) (cb:=81) lv0 (by decide) (by decide) (by decide) (by decide) (by decide);have b:=lvS (cc:=88) (cb:=92) a.2 (by decide) (by decide) (by decide) (by decide) (by decide);have c:=lvS (cc:=99) (cb:=103) b.2 (by decide) (by decide) (by decide) (by decide) (by decide);have e:=lvS (cc:=110) (cb:=114) c.2 (by decide) (by decide) (by decide) (by decide) (by decide);have f:=lvS (cc:=121) (cb:=125) e.2 (by decide) (by decide) (by decide) (by decide) (by decide);rcases(show d=1\/d=2\/d=3\/d=4\/d=5 by omega) with rfl|rfl|rfl|rfl|rfl
 .exact a.1.up
 .exact b.1.up
 .exact c.1.up
 .exact e.1.up
 .exact f.1.up
structure Tw (w:B2) (lo:Nat) (v:Ax) (M:List Mb):Prop where
 lw:Lw w lo v M
 sep:(bL M).Nodup
def TrP(C:Cd)(E:Bs)(W:B2)(L:List Nd)(c:Cr)(e:Ending)(a:B2):Prop:=∃(g b:Nat) (M:List Mb),e= B7 (H1 #[V (U ⟨g,0,O⟩) L.length b])/\M.map Mb.N=L/\Tw a E.base (V (U ⟨g,0,O⟩) L.length b) M/\Cu C E a c/\B5 E.base W a
def Rt(C:Cd)(f:FuncId)(c:Cr)(L:List Nd)(a:Cr):Prop:=∀ ⦃E:Bs⦄ ⦃W:B2⦄,Cu C E W c->F0 B4 f #[cV E] W (TrP C E W L a)
abbrev trR(q:Nat):Rwx:=⟨26,V (U ⟨q,0,O⟩) 1 1,[V O 0 0]⟩
section
variable {C : Cd} {T : Int} {E F : Bs} {W W' : World} {c : Cr} {M : List Mb}
def Cu.start{w1:B2}(h:Cu C E w1 c)(T:Int){q:Nat}(g:w1.heap[q]?=U (A0 #[V O 0 0] 26 (0,0)))(e:E.base<=q):Bd C T ⟨E.base,E.cb,w1.heap.size,E.a0,E.cap⟩ (w1.alloc (A0 #[cV E,V O 0 0,Y X T] 119)) c [] [trR q]:=by
 have d:=dE w1 (A0 #[cV E,V O 0 0,Y X T] 119);have a:=h.below d;have f:w1.ownsRow E.base 26 1 (V (U ⟨q,0,O⟩) 1 1) 1 [V O 0 0]:=⟨rfl,.inr ⟨q,1,#[V O 0 0],rfl,e,g,ag _,by unfold F2;omega,rfl,rfl⟩⟩;refine⟨⟨a.lo,a.code,a.cur⟩,h.lo.2,⟨V O 0 0,?_,eI _ _ _ _⟩,λi b=>(by cases b),λi b=>?_,?_⟩
 .simpa using aB w1 (A0 #[cV E,V O 0 0,Y X T] 119)
 .rw[List.mem_singleton.1 b];exact⟨by show TO 26;decide,cJ f d⟩
 .simp[bR,bL,A2]
def Bd.ans{q:Nat}(h:Bd C T F W c M [trR q]):W.heap[q]?=U (A0 #[V O 0 0] 26 (0,0))/\q≠F.bb:=by
 have j:=(h.rows _ bg).2;have b:W.heap[q]?=U (A0 #[V O 0 0] 26 (0,0)):=by
  rcases j.2 with⟨a,_⟩|⟨m,l,d,a,_,i,n,o,e,f⟩
  .cases a
  .cases a;have:d.toList=[V O 0 0]:=by
    have g:d.toList.take (1*1)=[V O 0 0]:=f;rw[<-g,db];rw[fD,e];exact ag _
   rw[i,Array.toList_inj.1 (this.trans rfl:d.toList=(#[V O 0 0]:Array Ax).toList)]
 obtain⟨p,k,_⟩:=h.row;refine⟨b,λa=>?_⟩;rw[a,k]at b;simp only[fi,jL]at b;exact absurd b.2.1 (by decide)
def Bd.done{q:Nat}(h:Bd C T F W c M [trR q])(e:W.cell? ⟨F.bb,1,O⟩=U v):Tw (W.setCell ⟨q,0,O⟩ v) F.base v M/\Cu C F (W.setCell ⟨q,0,O⟩ v) c/\B5 F.base W (W.setCell ⟨q,0,O⟩ v)/\(W.setCell ⟨q,0,O⟩ v).heap[q]?=U (A0 #[v] 26 (0,0)):=by
 obtain⟨k,j⟩:=h.ans;obtain⟨d,f,p2⟩:=h.row;obtain rfl:d=v:=by
  rw[am _ _ _ _ _ _ f]at e;exact bc e
 obtain⟨a,g⟩:=h.hot (r':=⟨26,V O 0 0,[]⟩) (zk (qx W q) 0 d) (by show TO 26;decide) (eI _ _ _ _) (λn i=>by cases i);obtain⟨m,b,l⟩:=a.row;obtain rfl:m=d:=by
  rw[aC _ _ _ _ j.symm,f]at b;simp at b;exact b.symm
 exact⟨⟨⟨l,a.each⟩,by simpa [bR,A2] using a.sep⟩,a.cu,g,aL _ q 0 _ _ _ k⟩
def Bd.root{wr w5:B2}{q d h:Nat}{b g:Option Addr}{p:Ax}(m:Bd C T F wr c M (rS (V O 0 0) []::rI (V b ks.length d) ks::[trR q]))
  (l:wr.heap[F.bb]?=U (A0 #[cV F,V g M.length h,Y X (T-M.length)] 119 (0,0)))
  (j:w5.ownsRow F.base 62 9 p (M.length+1) (lL M++(wg (dN 1 0 0 ⟨#[]⟩ [] ks) (V O 0 0) (V b ks.length d)).toList))
  (E:(wr.alloc (A0 (wg (dN 1 0 0 ⟨#[]⟩ [] ks) (V O 0 0) (V b ks.length d)) 62)).grownBy w5 (A5 g M.length h).ownBlock):
  ∃a c5,p= V (U ⟨a,0,O⟩) (M.length+1) c5/\(w5.cell? ⟨F.bb,1,O⟩=U (V g M.length h)/\w5.frozen? ⟨F.bb,1,O⟩=B0)/\(w5.cell? ⟨q,0,O⟩=U (V O 0 0)/\w5.frozen? ⟨q,0,O⟩=B0)/\q≠F.bb/\F.bb≠q/\
   B3 (∀e,e=(w5.setCell ⟨F.bb,1,O⟩ (V (U ⟨a,0,O⟩) (M.length+1) c5)).setCell ⟨q,0,O⟩ (V (U ⟨a,0,O⟩) (M.length+1) c5)->Tw e F.base (V (U ⟨a,0,O⟩) (M.length+1) c5) (M++[⟨dN 1 0 0 ⟨#[]⟩ [] ks,V O 0 0,V b ks.length d⟩])/\Cu C F e c/\B5 F.base wr e/\e.heap[q]?=U (A0 #[V (U ⟨a,0,O⟩) (M.length+1) c5] 26 (0,0))):=by
 have i:=dE wr (A0 (wg (dN 1 0 0 ⟨#[]⟩ [] ks) (V O 0 0) (V b ks.length d)) 62);have B:=m.below i;have G:=(i.block _ (aj l)).trans l;rcases bB j with⟨H,_⟩|⟨a,c5,rfl⟩
 .omega
 have A:lL M++(wg (dN 1 0 0 ⟨#[]⟩ [] ks) (V O 0 0) (V b ks.length d)).toList=lL (M++[⟨dN 1 0 0 ⟨#[]⟩ [] ks,V O 0 0,V b ks.length d⟩]):=by rw[rA];show _=lL M++(cMb _++[]);rw[dr];rfl
 rw[A]at j;have y:T+1-1=T:=by omega
 have z:T+1-(M.length:Int)-1=T-M.length:=by omega
 obtain⟨o,s,k⟩:=Bd.push (T:=T+1) (N:=dN 1 0 0 ⟨#[]⟩ [] ks) (by rw[y];exact B) (by rw[z];exact G) rfl j E;obtain⟨r,f⟩:=o.ans;have n:w5.heap[q]?=U (A0 #[V O 0 0] 26 (0,0)):=(aC _ _ _ _ f).symm.trans r;refine⟨a,c5,rfl,⟨by rw[am _ _ _ _ _ _ k];rfl,ch _ _ _ _ _ k⟩,⟨by rw[am _ _ _ _ _ _ n];rfl,ch _ _ _ _ _ n⟩,f,f.symm,?_⟩;rintro e rfl;obtain⟨t,u,w,x⟩:=o.done (v:= V (U ⟨a,0,O⟩) (M.length+1) c5) (by rw[am _ _ _ _ _ _ (aL _ F.bb 1 _ _ _ k)];rfl);exact⟨t,u,((i.mono m.lt.2.2.1).trans s).trans w,x⟩
end
structure Td (c:Cr) (L:List Nd) (c':Cr):Prop where
 nd:∀N∈L,I0 N
 n:L≠[]/\L.length<=265
 p:0<=c'.p/\c'.p<=20000000
 r:0<=c'.r/\c.r+bigs L<=c'.r/\(c.r<=3->c'.r<=3)
def an8(C:Cd)(c:Cr)(br:0<=c.p/\c.p<=100)(cF:0<=c.r):∃L a3,Td c L a3/\Rt C 24 c L a3:=by
 obtain⟨k,cd,bA,cl,da⟩:=kL C c 120 (by decide) (by decide) br.1 (by omega);obtain⟨af,ce,bk,cn,dc⟩:=kL C cd 5;obtain⟨G,ad,bn,cq,df⟩:=kL C ce 8;obtain⟨G,rfl⟩:=iw bn.1;have p:Pd (20+k) ad [] 221:=⟨by omega,by simp;omega,by simp;omega,by decide,by omega⟩;obtain⟨u,a5,I,ed,bt,ba,z,v⟩:=bkc p C (aid (d:=1+af) (by omega)) (by decide) (by decide) (by decide) G ad [] p.mv;simp only[ej]at ba;have cB:I.length<=264:=by omega
 have bs:=z.p;simp only[ej]at bs;have bd:I0 (dN 1 0 0 ⟨#[]⟩ [] u):=jo (by decide) (by decide) (by decide) (lj (by decide)) (by decide) kK (by omega) bt;obtain⟨d2,B,bD,dn,dq⟩:=z.nx.add bd (by rw[acj (show(dN 1 0 0 ⟨#[]⟩ [] u).x.size<=19 from aI _)];exact Int.le_of_eq (Int.add_zero _)) id;rw[eu]at B;have cr:=z.p0;refine⟨I++[dN 1 0 0 ⟨#[]⟩ [] u],a5,⟨by rw[B];exact bD,⟨by simp,by simp;omega⟩,by omega,by rw[B];omega⟩,λb j n=>?_⟩;have el:=wi (a:=20+k) (by omega);have ek:=wi (a:=1+af) (by omega);have eg:G<=7:=by omega
 have d9:=bk.1;have em:=bA.1;clear bD dn dq B z p ba bs bd bt cl cn cq bk bA bn cr br cF;have a:=n.cw;go_in;go_wp2_with fail;refine a.al.run da λw1 q m=>?_;have F:=(m.block j.heap.size (by simp) (λl=>by have:=n.lt;have:=bc l;omega)).trans (aB j _);have cz:=q.cu.lt;have ct:b.base<=j.heap.size:=n.lo.2;have o:=q.cu.start (20+k) F ct;have bf:B5 b.base j w1:=xJ q.gr n.lo.1 n.lo.2;have bh:=bf.trans ((dE w1 (.cells #[cV b,.slice O 0 0,.int .i64 (20+k)] 119)).mono q.cu.lo.2);have w:=aq bh;clear a F m bf bh n q;go_wp2_with fail;obtain⟨g,hF⟩:=aF (⟨b.base,b.cb,w1.heap.size,b.a0,b.cap⟩:Bs);have t:g.base=b.base/\g.cb=b.cb/\w1.heap.size=g.bb/\g.a0=b.a0/\g.cap=b.cap:=by rw[<-hF];exact⟨rfl,rfl,rfl,rfl,rfl⟩
 rw[hF]at o;have a9:cV b=cV g:=by show Value.pointer _=Value.pointer _;rw[t.2.1]
 have f:=In.at (R:=[trR j.heap.size]) ⟨[],rfl,o⟩;rw[<-t.1]at w;generalize (w1.alloc _)=ca at f w⊢;rw[t.2.2.1,a9];have b6:=aq t;clear o hF a9 t cz;have cy:=w.out;refine f.runC dc λdx s _=>?_;clear f;go_wp2_with fail;refine s.runC df λd0 A _=>?_;have ax:=aq A.nilI;clear s A cy;go_wp2_with fail;go_loopw [5,6] (λb0 ap wr=>∃(e:Nat) (i ao:List Int) (c5:Cr) (J:List Nd),ap= .int .i64 e/\i.length+e<=7/\At C (20+k) g ca wr c5 J (rI b0 i::[trR j.heap.size])/\Bkc C (20+k) (1+af) e c5 J ao a5 I/\i++ao=u) (λ_ ap _=>(B1 ap).toNat)
 case atStart=>exact⟨G,[],u,ad,[],rfl,by simp;omega,ax.out,v,rfl⟩
 case round=>
  clear ax v;obtain⟨e,i,ao,c5,J,rfl,an,f,o,l⟩:=hrel;have a7:=f.cs;cases o with
  |@cons e _ cf _ _ b9 _ d1 dg d8 b8 b1=>
   have ea:(0:Int)<((e+1:Nat):Int):=by omega
   have ei:IntKind.i64.wrap (((e+1:Nat):Int)-1)=(e:Int):=by rw[dt];omega
   have H:=gE an l;have eb:e<=7:=by omega
   clear an l;go_wp2_with fail;refine f.run b8 λdx s=>?_;have v:=aq s;clear f s a7;go_wp2_with (at_builtin;refine v.out.app rfl (by have:=H.1;omega) rfl _ _ rfl rfl rfl ?_;intro au a8 d0 A);go_roundw
   case rel=>exact⟨e,i++[d1],dg,cf,b9,by go_num,by have:=H.1;simp;omega,A,b1,by rw[cg];exact H.2⟩
   case measure=>simp[B1]
  |stop bw=>
   rw[dr]at l;subst l;obtain⟨a2,a6,rfl⟩:=f.form;rw[bi]at f⊢;obtain⟨⟨K,rfl,E⟩,bj⟩:=f.nilS;rw[bi]at cB a7 bw;obtain⟨b0,m,ak⟩:=E.row;obtain⟨au,a8,rfl⟩:=bJ ak;have d3:wr.cell? ⟨g.bb,1,O⟩=U (.slice au K.length a8):=by rw[am _ _ _ _ _ _ m];rfl
   have y:=Cn E m ak (w.out.trans bj);have ee:=E.lt;obtain⟨cI,c0,c7,c8,c9⟩:=eD yA;clear f m ak E bj;have F:(0<(e:Int)/\¬5<20+k-K.length)\/¬0<(e:Int):=by omega
   clear bw an;rcases F with⟨q1,en⟩|q1;all_goals
    go_wp2_with (at_builtin;refine G2 _ rfl _ _ 24 rfl g.base 62 cI _ 9 112 Tryz.underlying24 c0 c7 c8 c9 rfl (by decide) _ _ _ rfl (cJ y.2.2.1 (dE wr _)) ⟨wr.heap.size,0,O⟩ 1 1 (wg (dN 1 0 0 ⟨#[]⟩ [] i) (.slice O 0 0) (.slice a2 i.length a6)).toList rfl rfl (Br (aB wr _)) (by intro eo bx;simp at bx;rcases bx with rfl|rfl|rfl|rfl|rfl|rfl|rfl|rfl|rfl<;>rfl) (by unfold F2;omega) (by omega) (by simp;omega) ?_;intro ep w5 bo bl _ cx;obtain⟨ck,c5,rfl,d4,d6,eh,ef,b5⟩:=y.1.root y.2.1 bo bl;clear bo bl cx);obtain⟨bE,ar,cc,ds⟩:=b5.out _ rfl;have h:=b6.out;rw[h.1]at bE;exact aH (gA rfl _ _ j.heap.size _ _ _ _ rfl ds Tryz.underlying26 rfl (by kernel_rfl)) rfl ⟨ck,c5,K++[⟨dN 1 0 0 ⟨#[]⟩ [] i,.slice O 0 0,.slice a2 i.length a6⟩],by simp,by simp,by simpa using bE,⟨by rw[<-h.1,<-h.2.1];exact ar.lo,by rw[<-h.1,<-h.2.2.2.1];exact ar.code,by have:=ar.cur;unfold cuO at this;rw[h.2.1,h.2.2.2.1,h.2.2.2.2]at this;exact this⟩,by have:=y.2.2.2.trans cc;rw[h.1]at this;exact this⟩
def Em:List ByteArray:=[⟨#[32]⟩,⟨#[32,32]⟩,⟨#[9]⟩,⟨#[13]⟩,⟨#[32,9,32]⟩]
def Fc:List ByteArray:=[⟨#[10]⟩,⟨#[32,45,45,122,10]⟩,⟨#[13,10,10]⟩]
def IC:List ByteArray:=[⟨#[10]⟩,⟨#[59]⟩,⟨#[10,10]⟩,⟨#[32,59,32]⟩,⟨#[10,45,45,122,10]⟩,⟨#[59,59]⟩]
def PcT(s:ByteArray)(T:Tk)(b:ByteArray):Prop:=T.k≠6/\((T.k=5/\b∈IC)\/(T.k≠5/\∃c,(c∈Em\/(opn T.k=G3/\c∈Fc))/\b=s.extract T.f.toNat T.t.toNat++c))
inductive LoC (s:ByteArray):List Tk->ByteArray->Prop where
 |nil:LoC s [] ⟨#[]⟩
 |cons {T:Tk}{b y:ByteArray}{ts:List Tk}:PcT s T b->LoC s ts y->LoC s (T::ts) (b++y)
def LoC.no6{s:ByteArray}{ts:List Tk}{c:ByteArray}(h:LoC s ts c):∀T∈ts,T.k≠6:=by
 induction h with
 |nil=>intro T hT;cases hT
 |cons a d b=>
  intro T hT;rcases List.mem_cons.1 hT with rfl|hT
  .exact a.1
  .exact b T hT
structure tq (w:B2) (N:Nd) (vn vk v7 v8:Ax) (W:B2):Prop where
 b1:mD w.heap.size W 62 N vn vk
 b2:mD (w.heap.size+1) W 62 Fi (.slice O 0 0) (.slice O 0 0)
 b3:mD (w.heap.size+1+1) W 62 N v7 v8
 bl:B5 w.heap.size w W
def tq.below(h:tq w N vn vk v7 v8 W)(a:B5 W.heap.size W W'):tq w N vn vk v7 v8 W':=
 ⟨h.b1.below a,h.b2.below a,h.b3.below a,h.bl.trans (a.mono h.bl.size)⟩
def tq.grown{row:Option Nat}(h:tq w N vn vk v7 v8 W)(a:W.grownBy W' row)(c:∀g,row=U g->w.heap.size+1+1+1<=g):tq w N vn vk v7 v8 W':=
 ⟨(a.block _ (aj h.b1) (λb=>by have:=c _ b.symm;omega)).trans h.b1,(a.block _ (aj h.b2) (λb=>by have:=c _ b.symm;omega)).trans h.b2,(a.block _ (aj h.b3) (λb=>by have:=c _ b.symm;omega)).trans h.b3,h.bl.grown a h.bl.size (λg a=>by have:=c g a;omega)⟩
def tq.put7(h:tq w N vn vk v7 v8 W)(u:Ax):tq w N vn vk u v8 (W.setCell ⟨w.heap.size+1+1,7,O⟩ u):=
 ⟨(aC _ _ _ _ (by simp;omega)).trans h.b1,(aC _ _ _ _ (by simp)).trans h.b2,aL W _ 7 _ _ _ h.b3,h.bl.setCell (by simp;omega) _⟩
def tq.put8(h:tq w N vn vk v7 v8 W)(u:Ax):tq w N vn vk v7 u (W.setCell ⟨w.heap.size+1+1,8,O⟩ u):=
 ⟨(aC _ _ _ _ (by simp;omega)).trans h.b1,(aC _ _ _ _ (by simp)).trans h.b2,aL W _ 8 _ _ _ h.b3,h.bl.setCell (by simp;omega) _⟩
def abk(w:B2)(N:Nd)(vn vk:Ax)(a9:dk w vn N.nm)(af:dB w vk N.ks)(b0:N.nm.length<=1048576)(b4:N.ks.length<=1048576):
  F0 B4 47 #[jl N vn vk] w λe w'=>∃v7 v8,e= .returned (jl N v7 v8)/\
   w'.ownsRow w.heap.size 9 1 v7 N.nm.length (N.nm.map Z)/\w'.ownsRow w.heap.size 3 1 v8 N.ks.length (N.ks.map (A9 .i64))/\B5 w.heap.size w w':=by
 obtain⟨q,p,rfl⟩:=a9.form;obtain⟨k,i,rfl⟩:=af.form;unfold jl;have an:B3 (dk w (.slice q N.nm.length p) N.nm/\dB w (.slice k N.ks.length i) N.ks):=⟨a9,af⟩;clear a9 af;obtain⟨m,a3⟩:∃bf,N.nm.length=bf:=⟨_,rfl⟩;obtain⟨g,a4⟩:∃bf,N.ks.length=bf:=⟨_,rfl⟩;have K:B3 (N.nm.length=m/\N.ks.length=g):=⟨a3,a4⟩;rw[a3]at an b0⊢;rw[a4]at an b4⊢;clear a3 a4;go_enter Tryz.func47,Tryz.ntmps47;go_wp2_with fail;obtain⟨L,ad⟩:∃L,((w.alloc (.cells #[.int .i64 N.k,.int .i64 N.f,.int .i64 N.t,.int .i64 N.l,.int .i64 N.op,.int .i64 N.n,.string N.x,.slice q m p,.slice k g i] 62)).alloc (.cells #[.int .i64 0,.int .i64 0,.int .i64 0,.int .i64 0,.int .i64 0,.int .i64 0,.string ⟨#[]⟩,.slice O 0 0,.slice O 0 0] 62)).alloc (.cells #[.int .i64 N.k,.int .i64 N.f,.int .i64 N.t,.int .i64 N.l,.int .i64 N.op,.int .i64 N.n,.string N.x,.slice O 0 0,.slice k g i] 62)=L:=⟨_,rfl⟩;have cb:L.heap.size=w.heap.size+1+1+1:=by rw[<-ad];simp
 have bs:tq w N (.slice q m p) (.slice k g i) (.slice O 0 0) (.slice k g i) L:=by
  rw[<-ad];refine⟨(dG _ _ _ (by simp;omega)).trans ((dG _ _ _ (by simp)).trans (aB w _)),?_,?_,(((ai _ w).alloc (ag _) _).alloc (by simp) _).alloc (by simp;omega) _⟩
  .have:=aB (w.alloc (.cells #[.int .i64 N.k,.int .i64 N.f,.int .i64 N.t,.int .i64 N.l,.int .i64 N.op,.int .i64 N.n,.string N.x,.slice q m p,.slice k g i] 62)) (.cells #[.int .i64 0,.int .i64 0,.int .i64 0,.int .i64 0,.int .i64 0,.int .i64 0,.string ⟨#[]⟩,.slice O 0 0,.slice O 0 0] 62);rw[de]at this;exact(dG _ _ _ (by simp)).trans this
  .have:=aB ((w.alloc (.cells #[.int .i64 N.k,.int .i64 N.f,.int .i64 N.t,.int .i64 N.l,.int .i64 N.op,.int .i64 N.n,.string N.x,.slice q m p,.slice k g i] 62)).alloc (.cells #[.int .i64 0,.int .i64 0,.int .i64 0,.int .i64 0,.int .i64 0,.int .i64 0,.string ⟨#[]⟩,.slice O 0 0,.slice O 0 0] 62)) (.cells #[.int .i64 N.k,.int .i64 N.f,.int .i64 N.t,.int .i64 N.l,.int .i64 N.op,.int .i64 N.n,.string N.x,.slice O 0 0,.slice k g i] 62);rw[de,de]at this;exact this
 rw[ad];clear ad;obtain⟨ck,b7,cd,ce,cf⟩:=eD aiJ;obtain⟨cl,cn,cp,cq,cr⟩:=eD vA;have bk:B3 (dk w (.slice q m p) N.nm/\dB w (.slice k g i) N.ks):=an;go_loopw [13] (λE wr=>∃(c:Nat) (C:Ax),c<=m/\E= .int .i64 c/\tq w N (.slice q m p) (.slice k g i) C (.slice k g i) wr/\wr.ownsRow (w.heap.size+1+1+1) 9 1 C c ((N.nm.take c).map Z)/\w.heap.size+1+1+1<=wr.heap.size) (λE _=>m-(B1 E).toNat)
 case atStart=>exact⟨0,_,aI _,rfl,bs,eI _ _ _ _,by omega⟩
 case round=>
  obtain⟨c,C,af,rfl,h,j,al⟩:=hrel;clear bs cb;by_cases a6:c<m
  .have b9:(c:Int)<(m:Int):=by omega
   have b8:(0:Int)<=(c:Int):=by omega
   obtain⟨B,A⟩:=cA K.out.1 a6;obtain⟨ap,rfl,b6⟩:=(bk.out.1.below h.bl).get A;obtain⟨v,y,rfl⟩:=bJ j;have ba:∀s,(A5 v c y).ownBlock=U s->w.heap.size+1+1+1<=s:=λs a5=>(j.lt s a5).1;have cy:=(be h.b3).2.2.2.2.2.2.2.1;have au:w.heap.size+1+1<wr.heap.size:=by omega
   have ao:B3 ((N.nm.take (c+1)).map Z=(N.nm.take c).map Z++[.string B]):=by
    show _=_;rw[GH A,dK];rfl
   have H:B3 (tq w N (.slice (U ap) m p) (.slice k g i) (.slice v c y) (.slice k g i) wr):=h;have F:B3 (wr.ownsRow (w.heap.size+1+1+1) 9 1 (.slice v c y) c ((N.nm.take c).map Z)):=j;clear A h j;go_wp2_with (at_builtin;refine pd _ rfl _ _ 59 rfl (w.heap.size+1+1+1) 9 ck _ 1 16 Tryz.underlying59 b7 cd ce cf rfl (by decide) _ _ _ rfl (F.out.alloc _) ⟨wr.heap.size,0,O⟩ 1 1 [.string B] rfl rfl (Br (cs:=#[.string B]) (fr:=(0,0)) (aB wr _)) (by intro ct J;simp at J;subst J;rfl) (by unfold F2;omega) (by omega) (by simp;omega) ?_;intro cu w5 I G ca;obtain⟨ax,ar,rfl⟩:=F1 I;have z:=(H.out.below ((ai _ wr).alloc (ag _) _)).grown G ba;have bA:=(be z.b3).2.2.2.2.2.2.2.1;have bD:=(be z.b3).2.2.2.2.2.2.2.2.2);have bd:=G.size;rw[de]at bd;have cc:(w5.setCell ⟨w.heap.size+1+1,7,O⟩ (.slice (U ⟨ax,0,O⟩) (c+1) ar)).heap.size=w5.heap.size:=by simp[Fs]
   refine⟨⟨c+1,_,by omega,by go_num,z.put7 _,?_,by omega⟩,by simp[B1];omega⟩;rw[ao.out];exact iF I (by simp) _
  .obtain rfl:c=m:=by omega
   obtain⟨n,o,rfl⟩:=bJ j;have bn:B3 (wr.ownsRow (w.heap.size+1+1+1) 9 1 (.slice n c o) c (N.nm.map Z)):=by rw[db (by rw[K.out.1];exact ag _)]at j;exact j
   have bj:B3 (tq w N (.slice q c p) (.slice k g i) (.slice n c o) (.slice k g i) wr):=h;have br:=(be h.b1).2.2.2.2.2.2.2.2.1;have r:=(be h.b3).2.2.2.2.2.2.2.2.1;have bE:=(be h.b3).2.2.2.2.2.2.2.2.2;have au:w.heap.size+1+1<wr.heap.size:=by omega
   clear h j;go_wp2_with fail;have a0:=bj.out.put8 (.slice O 0 0);have bh:=iF (a:=⟨w.heap.size+1+1,8,O⟩) bn.out (by simp) (.slice O 0 0);have bv:(wr.setCell ⟨w.heap.size+1+1,8,O⟩ (.slice O 0 0)).heap.size=wr.heap.size:=by simp[Fs]
   rw[<-bv]at al;clear br r bE au bn bj bv;generalize wr.setCell ⟨w.heap.size+1+1,8,O⟩ (.slice O 0 0)=cx at a0 bh al⊢;go_loopw [28] (λE wr=>∃(d:Nat) (C:Ax),d<=g/\E= .int .i64 d/\tq w N (.slice q c p) (.slice k g i) (.slice n c o) C wr/\wr.ownsRow (w.heap.size+1+1+1) 9 1 (.slice n c o) c (N.nm.map Z)/\wr.ownsRow (w.heap.size+1+1+1) 3 1 C d ((N.ks.take d).map (A9 .i64))/\w.heap.size+1+1+1<=wr.heap.size) (λE _=>g-(B1 E).toNat)
   case atStart=>exact⟨0,_,aI _,rfl,a0,bh,eI _ _ _ _,al⟩
   case round=>
    obtain⟨d,C,cz,rfl,h,ak,j,al⟩:=hrel;clear a0 bh;by_cases a6:d<g
    .have b9:(d:Int)<(g:Int):=by omega
     have b8:(0:Int)<=(d:Int):=by omega
     obtain⟨B,A⟩:=cA K.out.2 a6;obtain⟨ap,rfl,b6⟩:=(bk.out.2.below h.bl).get A;obtain⟨v,y,rfl⟩:=bJ j;have ba:∀s,(A5 v d y).ownBlock=U s->w.heap.size+1+1+1<=s:=λs a5=>(j.lt s a5).1;have br:=(be h.b3).2.2.2.2.2.2.2.2.1;have au:w.heap.size+1+1<wr.heap.size:=by omega
     have ao:B3 ((N.ks.take (d+1)).map (A9 .i64)=(N.ks.take d).map (A9 .i64)++[.int .i64 B]):=by
      show _=_;rw[GH A,dK];rfl
     have b5:=xc ak j (by decide);have H:B3 (tq w N (.slice q c p) (.slice (U ap) g i) (.slice n c o) (.slice v d y) wr):=h;have F:B3 (wr.ownsRow (w.heap.size+1+1+1) 3 1 (.slice v d y) d ((N.ks.take d).map (A9 .i64))):=j;clear A h j;go_wp2_with (at_builtin;refine pd _ rfl _ _ 60 rfl (w.heap.size+1+1+1) 3 cl _ 1 8 Tryz.underlying60 cn cp cq cr rfl (by decide) _ _ _ rfl (F.out.alloc _) ⟨wr.heap.size,0,O⟩ 1 1 [.int .i64 B] rfl rfl (Br (cs:=#[.int .i64 B]) (fr:=(0,0)) (aB wr _)) (by intro ct J;simp at J;subst J;rfl) (by unfold F2;omega) (by omega) (by simp;omega) ?_;intro cu w5 I G ca;obtain⟨ax,ar,rfl⟩:=F1 I;have z:=(H.out.below ((ai _ wr).alloc (ag _) _)).grown G ba;have bA:=(be z.b3).2.2.2.2.2.2.2.2.1;have bD:=(be z.b3).2.2.2.2.2.2.2.2.2);have bd:=G.size;rw[de]at bd;have cc:(w5.setCell ⟨w.heap.size+1+1,8,O⟩ (.slice (U ⟨ax,0,O⟩) (d+1) ar)).heap.size=w5.heap.size:=by simp[Fs]
     refine⟨⟨d+1,_,by omega,by go_num,z.put8 _,iF ((ak.alloc _).kept G b5) (by simp) _,?_,by omega⟩,by simp[B1];omega⟩;rw[ao.out];exact iF I (by simp) _
    .obtain rfl:d=g:=by omega
     obtain⟨u,r,rfl⟩:=bJ j;rw[db (by rw[K.out.2];exact ag _)]at j;have H:B3 (tq w N (.slice q c p) (.slice k d i) (.slice n c o) (.slice u d r) wr):=h;have F:B3 (wr.ownsRow (w.heap.size+1+1+1) 9 1 (.slice n c o) c (N.nm.map Z)/\wr.ownsRow (w.heap.size+1+1+1) 3 1 (.slice u d r) d (N.ks.map (A9 .i64))):=⟨ak,j⟩;obtain⟨cI,c0,c3,c4,c6,c7,c8,c9,da,of⟩:=be h.b3;obtain⟨z0,dc,dd,df,dg,dn,dq,bA,ds,bD⟩:=be h.b2;have cB:w.heap.size+1<wr.heap.size:=by omega
     have cF:w.heap.size+1+1<wr.heap.size:=by omega
     clear h j ak;go_wp2_with fail;have h:=H.out;have bt:=aiK h.b2 N (.slice n c o) (.slice u d r);have bw:=Jf (b:=w.heap.size+1) F.out.1 (by omega) N (.slice n c o) (.slice u d r);have bx:=Jf (b:=w.heap.size+1) F.out.2 (by omega) N (.slice n c o) (.slice u d r);have bo:=LJ (b:=w.heap.size+1) h.bl (by omega) N (.slice n c o) (.slice u d r)
     change bodyPost _ _ _ _ _ (Je wr (w.heap.size+1) N (.slice n c o) (.slice u d r))
     generalize Je wr (w.heap.size+1) N (.slice n c o) (.slice u d r)=cw at bt bw bx bo⊢;exact aH (gA rfl _ _ (w.heap.size+1) _ _ _ _ rfl bt Tryz.underlying62 rfl (by kernel_rfl)) rfl ⟨_,_,rfl,qL bw (by omega),qL bx (by omega),bo⟩
structure Ak (w:B2) (v:Ax) (Q:List Mb) (W:B2):Prop where
 b2:W.heap[w.heap.size+1]?=U (.cells #[.slice O 0 0] 26 (0,0))
 b3:W.heap[w.heap.size+1+1]?=U (.cells #[v] 26 (0,0))
 row:W.ownsRow (w.heap.size+1+1+1) 62 9 v Q.length (lL Q)
 each:∀x∈Q,W.ownsRow (w.heap.size+1+1+1) 9 1 x.vn x.N.nm.length (x.N.nm.map Z)/\W.ownsRow (w.heap.size+1+1+1) 3 1 x.vk x.N.ks.length (x.N.ks.map (A9 .i64))
 bl:B5 w.heap.size w W
def Ak.below{Q:List Mb}(h:Ak w v Q W)(a:B5 W.heap.size W W'):Ak w v Q W':=
 ⟨(a.block _ (aj h.b2)).trans h.b2,(a.block _ (aj h.b3)).trans h.b3,cJ h.row a,λc b=>⟨cJ (h.each c b).1 a,cJ (h.each c b).2 a⟩,h.bl.trans (a.mono h.bl.size)⟩
def Ak.appended{d:Ax}{Q:List Mb}{x:Mb}{k:Nat}(j:Q.length=k)(h:Ak w v Q W)(m:W.ownsRow (w.heap.size+1+1+1) 9 1 x.vn x.N.nm.length (x.N.nm.map Z)/\W.ownsRow (w.heap.size+1+1+1) 3 1 x.vk x.N.ks.length (x.N.ks.map (A9 X)))
  (l:W'.ownsRow (w.heap.size+1+1+1) 62 9 d (k+1) (lL Q++cMb x)) (b:W.grownBy W' v.ownBlock):W'.heap[w.heap.size+1+1]?=U (A0 #[v] 26 (0,0))/\Ak w d (Q++[x]) (W'.setCell ⟨w.heap.size+1+1,0,O⟩ d):=by
 subst j;have f:∀c,v.ownBlock=U c->w.heap.size+1+1+1<=c:=λc b=>(h.row.lt c b).1;have n:=(b.block _ (aj h.b2) (λe=>by have:=f _ e.symm;omega)).trans h.b2;have g:=(b.block _ (aj h.b3) (λe=>by have:=f _ e.symm;omega)).trans h.b3;have i:∀{a:Mb},(W.ownsRow (w.heap.size+1+1+1) 9 1 a.vn a.N.nm.length (a.N.nm.map Z)/\W.ownsRow (w.heap.size+1+1+1) 3 1 a.vk a.N.ks.length (a.N.ks.map (A9 X)))->((W'.setCell ⟨w.heap.size+1+1,0,O⟩ d).ownsRow (w.heap.size+1+1+1) 9 1 a.vn a.N.nm.length (a.N.nm.map Z)/\(W'.setCell ⟨w.heap.size+1+1,0,O⟩ d).ownsRow (w.heap.size+1+1+1) 3 1 a.vk a.N.ks.length (a.N.ks.map (A9 X))):=λhy=>
  ⟨iF (hy.1.kept b (xc hy.1 h.row (by decide))) (by simp) _,iF (hy.2.kept b (xc hy.2 h.row (by decide))) (by simp) _⟩
 refine⟨g,(aC _ _ _ _ (by simp)).trans n,aL W' _ 0 _ _ _ g,?_,?_,(h.bl.grown b h.bl.size (λc b=>by have:=f c b;omega)).setCell (by simp;omega) _⟩
 .rw[aJ,rA,zn];simp only[bm,ej];rw[show cMb x++lL []=cMb x by simp[lL]];exact iF l (by simp) _
 .intro a hy;rcases List.mem_append.1 hy with hy|hy
  .exact i (h.each a hy)
  .obtain rfl:=List.mem_singleton.1 hy;exact i m
def aie{L:List Mb}(h:W.ownsRow lo 62 9 v L.length (lL L))(n:∀x∈L,W.ownsRow lo 9 1 x.vn x.N.nm.length (x.N.nm.map Z)/\W.ownsRow lo 3 1 x.vk x.N.ks.length (x.N.ks.map (A9 X))):eK W v (L.map Mb.N):=by
 rcases bB h with⟨o,rfl⟩|⟨m,l,rfl⟩
 .exact .inl ⟨by rw[jK o];rfl,_,_,rfl⟩
 .refine .inr ⟨⟨m,0,O⟩,l,by rw[bi],λp N a=>?_⟩;rw[cH]at a;cases hx:L[p]? with
  |none=>rw[hx]at a;cases a
  |some x=>
   rw[hx]at a;obtain rfl:=bc a;rw[adr];obtain⟨c,d,e,f,g,c5,i,j,k⟩:=rB h hx;have b:=n x (dz hx);exact⟨x.vn,x.vk,c,d,e,f,g,c5,i,j,k,Fj b.1,Fk b.2⟩
def ze(w:B2)(v:Ax)(ns:List Nd)(h:eK w v ns)(b6:ns.length<=1048576)(a6:∀N∈ns,N.nm.length<=1048576/\N.ks.length<=1048576):
  F0 B4 23 #[.agg #[v]] w λe w'=>∃au,e= .returned (.agg #[au])/\eK w' au (ns.map bareN)/\B5 w.heap.size w w':=by
 obtain⟨a,y,rfl⟩:=h.form;have bn:B3 (∀N∈ns,N.nm.length<=1048576/\N.ks.length<=1048576):=a6;obtain⟨i,j⟩:∃i,ns.length=i:=⟨_,rfl⟩;have a1:B3 (ns.length=i):=j;have bj:B3 (eK w (.slice a i y) ns):=by rw[<-j];exact h
 rw[j]at b6⊢;clear h a6 j;obtain⟨cn,b5,ce,cf,cl⟩:=eD afe;go_enter Tryz.func23,Tryz.ntmps23;go_wp2_with fail;obtain⟨u,z⟩:∃u,((w.alloc (.cells #[.slice a i y] 26)).alloc (.cells #[.slice O 0 0] 26)).alloc (.cells #[.slice O 0 0] 26)=u:=⟨_,rfl⟩;have cb:u.heap.size=w.heap.size+1+1+1:=by rw[<-z];simp
 have bh:Ak w (.slice O 0 0) [] u:=by
  rw[<-z];refine⟨?_,?_,eI _ _ _ _,λx E=>by simp at E,(((ai _ w).alloc (ag _) _).alloc (by simp) _).alloc (by simp;omega) _⟩
  .have:=aB (w.alloc (.cells #[.slice a i y] 26)) (.cells #[.slice O 0 0] 26);rw[de]at this;exact(dG _ _ _ (by simp)).trans this
  .have:=aB ((w.alloc (.cells #[.slice a i y] 26)).alloc (.cells #[.slice O 0 0] 26)) (.cells #[.slice O 0 0] 26);rw[de,de]at this;exact this
 rw[z];clear z;go_loopw [10] (λa0 wr=>∃(b:Nat) (v:Ax) (d:List Mb),b<=i/\a0= .int .i64 b/\d.length=b/\B3 (d.map Mb.N=(ns.take b).map bareN)/\Ak w v d wr/\w.heap.size+1+1+1<=wr.heap.size) (λa0 _=>i-(B1 a0).toNat)
 case atStart=>exact⟨0,_,[],aI _,rfl,rfl,rfl,bh,by omega⟩
 case round=>
  obtain⟨b,v,d,ct,rfl,r,a4,c,cz⟩:=hrel;clear bh cb;by_cases b7:b<i
  .obtain⟨N,C⟩:=cA a1.out b7;obtain⟨b9,ca⟩:=bn.out N (dz C);obtain⟨cq,rfl,dg,df,b4⟩:=(bj.out.below c.bl).get C;have cw:(b:Int)<(i:Int):=by omega
   have cu:(0:Int)<=(b:Int):=by omega
   obtain⟨br,bs,bt,bv,bw,c5,bx,bA,bD,j,af⟩:=b4;obtain⟨I,K,rfl⟩:=j.form;obtain⟨H,J,rfl⟩:=af.form;have bo:B3 ((ns.take (b+1)).map bareN=(ns.take b).map bareN++[bareN N]):=by
    show _=_;rw[GH C,dK];rfl
   have a2:B3 (dk wr (.slice I N.nm.length K) N.nm/\dB wr (.slice H N.ks.length J) N.ks):=⟨j,af⟩;have G:B3 (Ak w v d wr):=c;clear C j af c;go_wp2_with (go_at_call 47;fail);obtain⟨s,L⟩:∃s,wr.alloc (.cells #[.int .i64 N.k,.int .i64 N.f,.int .i64 N.t,.int .i64 N.l,.int .i64 N.op,.int .i64 N.n,.string N.x,.slice I N.nm.length K,.slice H N.ks.length J] 62)=s:=⟨_,rfl⟩;have A:B5 wr.heap.size wr s:=by rw[<-L];exact(ai _ wr).alloc (ag _) _
   rw[L];clear L;have al:=abk s N (.slice I N.nm.length K) (.slice H N.ks.length J) (a2.out.1.below A) (a2.out.2.below A) b9 ca;unfold jl at al;refine al.mono ?_;rintro e g ⟨dc,dd,rfl,ap,ar,a9⟩;obtain⟨k,n,rfl⟩:=bJ ap;obtain⟨m,o,rfl⟩:=bJ ar;have B:Ak w v d g:=(G.out.below A).below a9;have cB:=A.size;have cF:=a9.size;have a3:B3 (g.ownsRow (w.heap.size+1+1+1) 9 1 (.slice k N.nm.length n) N.nm.length (N.nm.map Z)/\g.ownsRow (w.heap.size+1+1+1) 3 1 (.slice m N.ks.length o) N.ks.length (N.ks.map (A9 .i64))):=⟨qL ap (by omega),qL ar (by omega)⟩;have F:B3 (Ak w v d g):=B;have cr:w.heap.size+1+1<g.heap.size:=by omega
   have b0:g.cell? ⟨w.heap.size+1+1,0,O⟩=U v:=by rw[am _ _ _ _ _ _ B.b3];rfl
   obtain⟨p,q,rfl⟩:=bJ B.row;have bk:B3 (g.ownsRow (w.heap.size+1+1+1) 62 9 (.slice p b q) b (lL d)):=by have:=F.out.row;rw[r]at this;exact this
   rw[r]at b0 F;have ad:∀an ao,B5 g.heap.size g ((g.alloc an).alloc ao):=λan ao=>((ai _ g).alloc (ag _) an).alloc (by simp) ao;clear br bs bt bv bw c5 bx bA bD al ap ar B;go_wp2_with (at_builtin;refine pd _ rfl _ _ 24 rfl (w.heap.size+1+1+1) 62 cn _ 9 112 Tryz.underlying24 b5 ce cf cl rfl (by decide) _ _ _ rfl ((bk.out.alloc _).alloc _) ⟨g.heap.size+1,0,O⟩ 1 1 [.int .i64 N.k,.int .i64 0,.int .i64 0,.int .i64 0,.int .i64 N.op,.int .i64 N.n,.string N.x,.slice k N.nm.length n,.slice m N.ks.length o] rfl rfl (Br (cs:=#[.int .i64 N.k,.int .i64 0,.int .i64 0,.int .i64 0,.int .i64 N.op,.int .i64 N.n,.string N.x,.slice k N.nm.length n,.slice m N.ks.length o]) (fr:=(0,0)) (by have:=aB (g.alloc (.cells #[.int .i64 N.k,.int .i64 0,.int .i64 0,.int .i64 0,.int .i64 N.op,.int .i64 N.n,.string N.x,.slice k N.nm.length n,.slice m N.ks.length o] 62)) (.cells #[.int .i64 N.k,.int .i64 0,.int .i64 0,.int .i64 0,.int .i64 N.op,.int .i64 N.n,.string N.x,.slice k N.nm.length n,.slice m N.ks.length o] 62);rw[de]at this;exact this)) (by intro da bd;simp at bd;rcases bd with rfl|rfl|rfl|rfl|rfl|rfl|rfl|rfl|rfl<;>rfl) (by unfold F2;omega) (by omega) (by simp;omega) ?_;intro au w5 bb ba cy;obtain⟨b1,bE,rfl⟩:=F1 bb;obtain⟨bf,cc⟩:=Ak.appended (x:=⟨bareN N,.slice k N.nm.length n,.slice m N.ks.length o⟩) r (F.out.below (ad _ _)) ⟨cJ a3.out.1 (ad _ _),cJ a3.out.2 (ad _ _)⟩ bb ba;have dn:w5.cell? ⟨w.heap.size+1+1,0,O⟩=U (.slice p b q):=by {rw[am _ _ _ _ _ _ bf];rfl};have cp:w5.frozen? ⟨w.heap.size+1+1,0,O⟩=B0:=ch _ _ _ _ _ bf);have cd:=ba.size;rw[de,de]at cd;have cI:(w5.setCell ⟨w.heap.size+1+1,0,O⟩ (.slice (U ⟨b1,0,O⟩) (b+1) bE)).heap.size=w5.heap.size:=by simp[Fs]
   refine⟨⟨b+1,_,d++[⟨bareN N,.slice k N.nm.length n,.slice m N.ks.length o⟩],by omega,by go_num,by simp[r],?_,cc,by omega⟩,by simp[B1];omega⟩;show _=_;rw[bo.out,dK,a4.out];rfl
  .obtain rfl:b=i:=by omega
   have G:B3 (Ak w v d wr):=c;have z0:wr.cell? ⟨w.heap.size+1,0,O⟩=U (.slice O 0 0):=by rw[am _ _ _ _ _ _ c.b2];rfl
   have cp:wr.frozen? ⟨w.heap.size+1,0,O⟩=B0:=ch _ _ _ _ _ c.b2;have c9:wr.cell? ⟨w.heap.size+1+1,0,O⟩=U v:=by rw[am _ _ _ _ _ _ c.b3];rfl
   have of:wr.frozen? ⟨w.heap.size+1+1,0,O⟩=B0:=ch _ _ _ _ _ c.b3;obtain⟨p,q,rfl⟩:=bJ c.row;clear c;go_wp2_with fail;have c:=G.out;have b8:d.map Mb.N=ns.map bareN:=by rw[a4.out,db (by rw[a1.out];exact ag _)]
   have a5:eK (wr.setCell ⟨w.heap.size+1,0,O⟩ (.slice p d.length q)) (.slice p d.length q) (ns.map bareN):=by
    rw[<-b8];exact aie (iF (a:=⟨w.heap.size+1,0,O⟩) c.row (by simp) _) λx E=>⟨iF (a:=⟨w.heap.size+1,0,O⟩) (c.each x E).1 (by simp) _,iF (a:=⟨w.heap.size+1,0,O⟩) (c.each x E).2 (by simp) _⟩
   rw[r]at a5;exact aH (gA rfl _ _ (w.heap.size+1) _ _ _ _ rfl (aL _ _ 0 _ _ _ c.b2) Tryz.underlying26 rfl (by kernel_rfl)) rfl ⟨_,rfl,a5,c.bl.setCell (by simp) _⟩
def aeC(w:B2)(k m:Ax)(l:List Int)(f:dB w k l)(g:dB w m l)(t:l.length<=1048576):
  F0 B4 41 #[k,m] w λe w'=>e= B7 (G0 G3)/\B5 w.heap.size w w':=by
 obtain⟨o,q,rfl⟩:=f.form;obtain⟨p,r,rfl⟩:=g.form;obtain⟨b,d⟩:=aF l.length;have n:=aq d;have j:B3 (dB w (V o b q) l/\dB w (V p b r) l):=by rw[<-d];exact⟨f,g⟩
 rw[d]at t⊢;clear f g d;go_in;go_wp21
 go_loopw [13] (λi wr=>∃a:Nat,a<=b/\i= Y X a/\B5 w.heap.size w wr) (λi _=>b-(B1 i).toNat)
 case atStart=>exact⟨0,by omega,rfl,ai _ _⟩
 case round=>
  obtain⟨a,A,rfl,c⟩:=hrel;by_cases u:a<b
  .obtain⟨B,h⟩:=cA n.out u;obtain⟨v,rfl,y⟩:=(j.1.below c).get h;obtain⟨x,rfl,z⟩:=(j.2.below c).get h;have s:(a:Int)<(b:Int):=by omega
   clear h;go_wp21
   go_quiet (fail)
   go_wp21
   exact⟨⟨a+1,by omega,by go_num,lK c _⟩,by simp[B1];omega⟩
  .obtain rfl:a=b:=by omega
   have s:¬(a:Int)<(a:Int):=by omega
   go_wp21
   go_ret;exact⟨rfl,c⟩
def abl(w:B2)(k m:Ax)(l:List ByteArray)(f:dk w k l)(g:dk w m l)(t:l.length<=1048576):
  F0 B4 40 #[k,m] w λe w'=>e= B7 (G0 G3)/\B5 w.heap.size w w':=by
 obtain⟨o,q,rfl⟩:=f.form;obtain⟨p,r,rfl⟩:=g.form;obtain⟨b,d⟩:=aF l.length;have n:=aq d;have j:B3 (dk w (V o b q) l/\dk w (V p b r) l):=by rw[<-d];exact⟨f,g⟩
 rw[d]at t⊢;clear f g d;go_in;go_wp21
 go_loopw [13] (λi wr=>∃a:Nat,a<=b/\i= Y X a/\B5 w.heap.size w wr) (λi _=>b-(B1 i).toNat)
 case atStart=>exact⟨0,by omega,rfl,ai _ _⟩
 case round=>
  obtain⟨a,A,rfl,c⟩:=hrel;by_cases u:a<b
  .obtain⟨B,h⟩:=cA n.out u;obtain⟨v,rfl,y⟩:=(j.1.below c).get h;obtain⟨x,rfl,z⟩:=(j.2.below c).get h;have s:(a:Int)<(b:Int):=by omega
   clear h;go_wp21
   go_quiet (fail)
   go_wp21
   exact⟨⟨a+1,by omega,by go_num,lK c _⟩,by simp[B1];omega⟩
  .obtain rfl:a=b:=by omega
   have s:¬(a:Int)<(a:Int):=by omega
   go_wp21
   go_ret;exact⟨rfl,c⟩
def aeD(w:B2)(N:Nd)(J H K I:Ax)(G:dk w J N.nm)(B:dB w H N.ks)(n2:dk w K N.nm)(C:dB w I N.ks)(af:N.nm.length<=1048576)(ak:N.ks.length<=1048576):
  F0 B4 19 #[jl N J H,jl N K I] w λe w'=>e= B7 (G0 G3)/\B5 w.heap.size w w':=by
 have u:∀o p,B5 w.heap.size w ((w.alloc o).alloc p):=λo p=>((ai _ w).alloc (ag _) o).alloc (by simp) p;have ks:=λo p=>abl ((w.alloc o).alloc p) J K N.nm (G.below (u o p)) (n2.below (u o p)) af;have F:=λL (ad:B5 w.heap.size w L)=>aeC L H I N.ks (B.below ad) (C.below ad) ak;obtain⟨q,s,rfl⟩:=G.form;obtain⟨r,t,rfl⟩:=n2.form;obtain⟨k,m,rfl⟩:=B.form;obtain⟨l,n,rfl⟩:=C.form;unfold jl;generalize N.nm.length=b at ks⊢;generalize N.ks.length=a at F⊢;clear G B n2 C af ak;obtain⟨d,c,i,f,h,g,j,av,au⟩:=N;simp only;go_in;go_wp2_with fail;have y:((w.alloc (A0 #[Y X d,Y X c,Y X i,Y X f,Y X h,Y X g,B6 j,V q b s,V k a m] 62)).alloc (A0 #[Y X d,Y X c,Y X i,Y X f,Y X h,Y X g,B6 j,V r b t,V l a n] 62)).cell? ⟨w.heap.size,8,O⟩=U (V k a m):=by
  rw[am _ _ _ _ _ _ ((dG _ _ _ (by simp)).trans (aB w _))];rfl
 have z:((w.alloc (A0 #[Y X d,Y X c,Y X i,Y X f,Y X h,Y X g,B6 j,V q b s,V k a m] 62)).alloc (A0 #[Y X d,Y X c,Y X i,Y X f,Y X h,Y X g,B6 j,V r b t,V l a n] 62)).cell? ⟨w.heap.size+1,8,O⟩=U (V l a n):=by
  have:=aB (w.alloc (A0 #[Y X d,Y X c,Y X i,Y X f,Y X h,Y X g,B6 j,V q b s,V k a m] 62)) (A0 #[Y X d,Y X c,Y X i,Y X f,Y X h,Y X g,B6 j,V r b t,V l a n] 62);rw[de]at this;rw[am _ _ _ _ _ _ this];rfl
 have x:=u (A0 #[Y X d,Y X c,Y X i,Y X f,Y X h,Y X g,B6 j,V q b s,V k a m] 62) (A0 #[Y X d,Y X c,Y X i,Y X f,Y X h,Y X g,B6 j,V r b t,V l a n] 62);have E:=ks (A0 #[Y X d,Y X c,Y X i,Y X f,Y X h,Y X g,B6 j,V q b s,V k a m] 62) (A0 #[Y X d,Y X c,Y X i,Y X f,Y X h,Y X g,B6 j,V r b t,V l a n] 62);generalize (w.alloc (A0 #[Y X d,Y X c,Y X i,Y X f,Y X h,Y X g,B6 j,V q b s,V k a m] 62)).alloc (A0 #[Y X d,Y X c,Y X i,Y X f,Y X h,Y X g,B6 j,V r b t,V l a n] 62)=ao at y z x E⊢;refine E.mono ?_;rintro e w1 ⟨rfl,v⟩;have ap:=ah v y;have ar:=ah v z;have A:=x.trans (v.mono x.size);have an:=F w1 A;clear y z E ks F v x u;go_wp2_with (go_at_call 41;refine an.mono ?_;rintro e ax ⟨rfl,al⟩);go_ret;exact⟨rfl,A.trans (al.mono A.size)⟩
def Gc(w:B2)(bf bh:Ax)(l:List Nd)(p:eK w bf l)(q:eK w bh l)(bo:l.length<=1048576)(E:∀N∈l,N.nm.length<=1048576/\N.ks.length<=1048576):
  F0 B4 7 #[H1 #[bf],H1 #[bh]] w λe w'=>e= B7 (G0 G3)/\B5 w.heap.size w w':=by
 obtain⟨i,g,rfl⟩:=p.form;obtain⟨j,h,rfl⟩:=q.form;obtain⟨c,n⟩:=aF l.length;have bj:=aq n;have A:B3 (eK w (V i c g) l/\eK w (V j c h) l):=by rw[<-n];exact⟨p,q⟩
 have bk:=aq E;rw[n]at bo⊢;clear p q n E;have F:∀v x,B5 w.heap.size w ((w.alloc v).alloc x):=λv x=>((ai _ w).alloc (ag _) v).alloc (by simp) x;have z:B3 (B5 w.heap.size w ((w.alloc (A0 #[V i c g] 26)).alloc (A0 #[V j c h] 26))/\((w.alloc (A0 #[V i c g] 26)).alloc (A0 #[V j c h] 26)).cell? ⟨w.heap.size,0,O⟩=U (V i c g)/\((w.alloc (A0 #[V i c g] 26)).alloc (A0 #[V j c h] 26)).cell? ⟨w.heap.size+1,0,O⟩=U (V j c h)):=by
  refine⟨F _ _,by rw[am _ _ _ _ _ _ ((dG _ _ _ (by simp)).trans (aB w _))];rfl,?_⟩;have:=aB (w.alloc (A0 #[V i c g] 26)) (A0 #[V j c h] 26);rw[de]at this;rw[am _ _ _ _ _ _ this];rfl
 clear F;go_in;go_wp2_with fail;go_loopw [16] (λy wr=>∃a:Nat,a<=c/\y= Y X a/\B5 w.heap.size w wr/\wr.cell? ⟨w.heap.size,0,O⟩=U (V i c g)/\wr.cell? ⟨w.heap.size+1,0,O⟩=U (V j c h)) (λy _=>c-(B1 y).toNat)
 case atStart=>exact⟨0,by omega,rfl,z.out⟩
 case round=>
  clear z;obtain⟨a,b6,rfl,k,bb,bd⟩:=hrel;by_cases br:a<c
  .obtain⟨N,o⟩:=cA bj.out br;obtain⟨G,H⟩:=bk.out N (dz o);obtain⟨d,rfl,bv,bs,bl⟩:=(A.1.below k).get o;obtain⟨f,rfl,bw,bt,bn⟩:=(A.2.below k).get o;have b8:(a:Int)<(c:Int):=by omega
   have b7:(0:Int)<=(a:Int):=by omega
   obtain⟨al,an,p2,ao,ap,ar,au,av,ax,t,r⟩:=bl;obtain⟨a0,a3,a4,a5,a6,a7,a8,a9,ba,u,s⟩:=bn;have m:=aeD wr.drew N bv bs bw bt t r u s G H;obtain⟨bx,b0,rfl⟩:=t.form;obtain⟨bA,b3,rfl⟩:=u.form;obtain⟨bD,b4,rfl⟩:=r.form;obtain⟨bE,b5,rfl⟩:=s.form;unfold jl at m;clear o t r u s G H;generalize N.nm.length=B at av a9 m;generalize N.ks.length=C at ax ba m;obtain⟨J,I,af,K,ad,L,ak,ca,b9⟩:=N;simp only at al an p2 ao ap ar au a0 a3 a4 a5 a6 a7 a8 m;go_wp2_with fail;go_region_held3 (λw'=>w'.cell? ⟨w.heap.size,0,O⟩=U (V (U d) c g)/\w'.cell? ⟨w.heap.size+1,0,O⟩=U (V (U f) c h)/\w'.cell? (d.add (a*9))=U (Y X J)/\w'.cell? ⟨(d.add (a*9)).block,(d.add (a*9)).off+1,O⟩=U (Y X I)/\w'.cell? ⟨(d.add (a*9)).block,(d.add (a*9)).off+2,O⟩=U (Y X af)/\w'.cell? ⟨(d.add (a*9)).block,(d.add (a*9)).off+3,O⟩=U (Y X K)/\w'.cell? ⟨(d.add (a*9)).block,(d.add (a*9)).off+4,O⟩=U (Y X ad)/\w'.cell? ⟨(d.add (a*9)).block,(d.add (a*9)).off+5,O⟩=U (Y X L)/\w'.cell? ⟨(d.add (a*9)).block,(d.add (a*9)).off+6,O⟩=U (B6 ak)/\w'.cell? ⟨(d.add (a*9)).block,(d.add (a*9)).off+7,O⟩=U (V bx B b0)/\w'.cell? ⟨(d.add (a*9)).block,(d.add (a*9)).off+8,O⟩=U (V bD C b4)/\w'.cell? (f.add (a*9))=U (Y X J)/\w'.cell? ⟨(f.add (a*9)).block,(f.add (a*9)).off+1,O⟩=U (Y X I)/\w'.cell? ⟨(f.add (a*9)).block,(f.add (a*9)).off+2,O⟩=U (Y X af)/\w'.cell? ⟨(f.add (a*9)).block,(f.add (a*9)).off+3,O⟩=U (Y X K)/\w'.cell? ⟨(f.add (a*9)).block,(f.add (a*9)).off+4,O⟩=U (Y X ad)/\w'.cell? ⟨(f.add (a*9)).block,(f.add (a*9)).off+5,O⟩=U (Y X L)/\w'.cell? ⟨(f.add (a*9)).block,(f.add (a*9)).off+6,O⟩=U (B6 ak)/\w'.cell? ⟨(f.add (a*9)).block,(f.add (a*9)).off+7,O⟩=U (V bA B b3)/\w'.cell? ⟨(f.add (a*9)).block,(f.add (a*9)).off+8,O⟩=U (V bE C b5)) (first|go_keep|exact⟨ah b bb,ah b bd,ah b al,ah b an,ah b p2,ah b ao,ah b ap,ah b ar,ah b au,ah b av,ah b ax,ah b a0,ah b a3,ah b a4,ah b a5,ah b a6,ah b a7,ah b a8,ah b a9,ah b ba⟩) ((go_at_call 19;refine m.mono ?_;rintro e cb ⟨rfl,b⟩))
   go_wp2_with fail;exact⟨⟨a+1,by omega,by go_num,(bH k).trans (b.mono k.size),ah b bb,ah b bd⟩,by simp[B1];omega⟩
  .obtain rfl:a=c:=by omega
   go_wp2_with fail;go_ret;exact⟨rfl,k⟩
section
variable {E : Pe} {i j k k1 : Nat} {x y R Ex : Fo}
def En{nk:Int}(a:fC nk=3)(b:Nat):gg nk b= A3 154 (C2 (U ⟨b,0,O⟩)):=by unfold gg;rw[a];rfl
def Lc{nk:Int}(a:fC nk=3)(s:Tk)(e:Int)(x:ByteArray):oy (nd nk s e 0 0 x []) (fC nk)=nd nk s e 0 0 x []:=by rw[a];rfl
def aif(w:i+1<E.n){nk k:Int}(r:k≠6)(c:fC nk=3)(a:(E.tk i).k=k):CN E 191 #[pV E,Y X nk] i (one (nd nk (E.tk i) (E.tk i).t 0 0 (E.tk i).x []) .nil) (i+1):=by
 intro z h y;have p:=Sw.start h;clear h;go_in;go_wp2_with fail;refine du (ll p a (by omega) r) λw1 q=>?_;obtain⟨s,j,d⟩:=E7 q a;simp only[pH]at j;go_wp2_with fail;clear j;have e:=sB d (bH (ai _ s));have m:=E8 d a;have o:=E8 e a;go_region_held3 (λb=>b.cell? ⟨w1.heap.size,0,O⟩=U (Y X k)/\b.cell? ⟨w1.heap.size,1,O⟩=U (Y X (E.tk i).f)/\b.cell? ⟨w1.heap.size,2,O⟩=U (Y X (E.tk i).t)/\b.cell? ⟨w1.heap.size,3,O⟩=U (Y X (E.tk i).l)/\b.cell? ⟨w1.heap.size,4,O⟩=U (Y X (E.tk i).n)/\b.cell? ⟨w1.heap.size,5,O⟩=U (B6 (E.tk i).x)) (first|exact m|exact o|exact E8 g a|go_keep) (first|(go_at_call 186;refine(rL e a (by omega) (by omega) _ _ _ _).mono ?_;rintro v u ⟨rfl,g⟩))
 go_wp2_with fail;go_ret;exact⟨_,rfl,En c u.heap.size ▸ KL g (nd nk (E.tk i) (E.tk i).t 0 0 (E.tk i).x []) (Lc c _ _ _) rfl (by show _=(_++exT _ _ (fC nk)).toArray;rw[c];rfl) (by show _=xb (fC nk);rw[c];rfl)⟩
def ari(u:i+1<E.n)(a:(E.tk i).k=2):CN E 224 #[pV E] i (one (nd 23 (E.tk i) (E.tk i).t 0 (E.tk i).n z0 []) .nil) (i+1):=by
 intro w g v;have o:=Sw.start g;clear g;go_in;go_wp21
 refine du (oE o a) λz q=>?_;go_wp21
 refine du (ll q a (by omega)) λw1 p=>?_;obtain⟨r,h,c⟩:=E7 p a;simp only[pH]at h;go_wp21
 clear h;have d:=sB c (bH (ai _ r));have j:=E8 c a;have m:=E8 d a;go_region_held3 (λb=>b.cell? ⟨w1.heap.size,0,O⟩=U (Y X 2)/\b.cell? ⟨w1.heap.size,1,O⟩=U (Y X (E.tk i).f)/\b.cell? ⟨w1.heap.size,2,O⟩=U (Y X (E.tk i).t)/\b.cell? ⟨w1.heap.size,3,O⟩=U (Y X (E.tk i).l)/\b.cell? ⟨w1.heap.size,4,O⟩=U (Y X (E.tk i).n)/\b.cell? ⟨w1.heap.size,5,O⟩=U (B6 (E.tk i).x)) (first|exact j|exact m|exact E8 e a|go_keep) (first|(go_at_call 186;refine(rL d a (by omega) (by omega) 23 _ _ _).mono ?_;rintro s y ⟨rfl,e⟩))
 go_wp21
 go_ret;exact⟨_,rfl,KL e (nd 23 (E.tk i) (E.tk i).t 0 (E.tk i).n z0 []) rfl rfl rfl rfl⟩
abbrev CXi(E:Pe)(p:Int)(i:Nat)(x:Fo)(j:Nat):Prop:=CN E 189 #[pV E,Y X p] i x j
def sT{c:Ax}{a:List Ax}{D:Fo}{b:Nat×E1×Array Ax}(S:B3 (Sw E W w i c a D vs (b::T) M)):B3 (Sw E W w i c a D vs T M):=S.drop (λe d=>dm _ d) (.inl rfl)
def aqh{k q:Int}{t:Tk}{d f:E1}{a b:Ax}(i:B3 (Sw E W w j s0 [] R [A3 d a,A3 f b] T M))(r:t.k=k)(l:1<=j)(p:j<=E.n)(s:10<=q)(u:q<=78):F0 B4 226 #[pV E,Y X q,H1 (pH k t),A3 d a,A3 f b] w λe w'=>∃g c,e= B7 (A3 g c)/\B3 (Sw E W w' j s0 [] (one (ue q t (E.tk (j-1)).t) R) [A3 g c] T M):=by
 unfold ue;by_cases m:q=10<;>by_cases o:q=26;all_goals
  try omega
 all_goals
  try subst m
  try subst o
  simp only[*,↓reduceIte,Int.reduceEq];go_in;go_wp2_with fail;refine du (rL (sLt (sBx i)) r l p _ _ _ _) λw h=>?_;go_wp2_with fail;go_ret;exact⟨_,_,rfl,sT (F9 h _ (by rfl) (by rfl) (by simp only[de]<;>rfl) (by rfl))⟩
def aqi{D:Fo}{k:Int}(S:B3 (Sw E W w i s0 [] D vs T M))(m:gx k=G3)(l:k<=78):F0 B4 225 #[Y X k] w λe w'=>e= B7 (.tuple #[H1 #[Y X k,Y X (As k),Y X (Jh k)],G0 G3])/\B3 (Sw E W w' i s0 [] D vs T M):=by
 obtain⟨c,b,rfl⟩:=am5 m l;obtain⟨n,j,a⟩:=S.pp.pw;obtain⟨f,g,_,h⟩:=acp c b;refine(aat w n j a c b _ rfl h).mono ?_;rintro e w' ⟨a,d⟩;rw[f,g]at a;exact⟨a,sB S d⟩
def aqj{D:Fo}{k:Int}(S:B3 (Sw E W w i s0 [] D vs T M))(f:gx k=B0):F0 B4 225 #[Y X k] w λe w'=>e= B7 (.tuple #[H1 #[Y X 0,Y X 0,Y X 0],G0 B0])/\B3 (Sw E W w' i s0 [] D vs T M):=by
 obtain⟨g,c,a⟩:=S.pp.pw;refine(aaC w g c a k (λi d e=>?_)).mono ?_
 .have:=(acp i d).2.2.1;rw[e,f]at this;cases this
 rintro e w' ⟨a,b⟩;exact⟨a,sB S b⟩
def aly{D:Fo}(S:B3 (Sw E W w i s0 [] D vs T M))(a b c:Ax):∃w',w.alloc (A0 #[a,b,c] 189)=w'/\B3 (Sw E W w' i s0 [] D vs ((w.heap.size,189,#[a,b,c])::T) M):=⟨_,rfl,S.boxg _ _ (by decide) (by decide)⟩
def sC3{D:Fo}{d:Nat}{a b c:Ax}(S:B3 (Sw E W w i s0 [] D vs ((d,189,#[a,b,c])::T) M)):w.cell? ⟨d,0,O⟩=U a/\w.cell? ⟨d,1,O⟩=U b/\w.cell? ⟨d,2,O⟩=U c:=by
 have e:=(S.tb _ (bg ..)).2.2;exact⟨by rw[am _ _ _ _ _ _ e];rfl,by rw[am _ _ _ _ _ _ e];rfl,by rw[am _ _ _ _ _ _ e];rfl⟩
def an9{p:Int}{m:Nat}(a1:(E.tk i).k≠6)(bl:i<E.n)(K:∀q,(E.tk q).k<=78)(a5:CN E 224 #[pV E] i x k)(v:Ms E (CXi E) p (E.tk i) m x k R j):CXi E p i R j:=by
 intro bf s bn;have F:=Sw.start s;have C:=aq v;have bo:=v.le;clear s v;go_in;go_wp21
 refine du (Ef F rfl (by omega) a1) λw1 G=>?_;obtain⟨bw,L,b⟩:=E7 G (t:=E.tk i) rfl;simp only[pH]at L;go_wp21
 refine(xu b a5).mono ?_;rintro h bx ⟨ba,a8,rfl,H⟩;clear L;have A:=aq H;go_wp21
 clear F G b H;go_loopg [6] m (λgk bd wr=>∃(k:Nat) (o:Fo) (t:E1) (ak:Ax),bd= A3 t ak/\B3 (Ms E (CXi E) p (E.tk i) gk o k R j/\Sw E bf wr k s0 [] o [A3 t ak] [tkB w1.heap.size (E.tk i)] []))
 case atStart=>exact⟨k,x,ba,a8,rfl,C,A⟩
 case round=>
  clear A C;obtain⟨c,o,bv,bs,rfl,B⟩:=hrel;obtain⟨a0,J⟩:=B.out;have b:=aq J;clear J B;cases a0 with
  |stop g au=>
   cases a:gx (E.tk j).k with
   |false=>
    go_wp21
    refine du (oE b rfl g) λal d=>?_;go_wp21
    refine du (aqj d a) λw5 e=>?_;go_wp21
    go_ret;exact⟨_,rfl,(e.boxg _ _ (by decide) (by decide)).drop (λp u=>by cases u) (.inr rfl)⟩
   |true=>
    go_wp21
    refine du (oE b rfl g) λal d=>?_;go_wp21
    refine du (aqi d a (K _)) λw5 e=>?_;obtain⟨bh,ad,f⟩:=aly e (Y X (E.tk j).k) (Y X (As (E.tk j).k)) (Y X (Jh (E.tk j).k));obtain⟨w,y,z⟩:=sC3 f;go_wp21
    go_ret;exact⟨_,rfl,f.drop (λp u=>by cases u) (.inr rfl)⟩
  |@go a7 _ a6 _ _ b6 bj g a au av bk ax r=>
   have a4:=r.le;rw[di,Fo.sz_app]at a4;have a2:(E.tk c).k≠6:=λh=>by rw[h]at a;revert a;decide
   have af:=K c;have a3:10<=(E.tk c).k:=by have s:=aE a;omega
   have ao:=aq r;clear r;go_wp21
   refine du (oE b rfl g) λal d=>?_;go_wp21
   refine du (aqi d a af) λw5 e=>?_;obtain⟨bh,ad,f⟩:=aly e (Y X (E.tk c).k) (Y X (As (E.tk c).k)) (Y X (Jh (E.tk c).k));obtain⟨w,y,z⟩:=sC3 f;go_wp21
   clear ad;refine du (ll f rfl g a2) λbA I=>?_;obtain⟨w,y,z⟩:=sC3 I;go_wp21
   refine(xu I av).mono ?_;rintro h bD ⟨bt,br,rfl,l⟩;obtain⟨w,y,z⟩:=sC3 l;obtain⟨b0,b1,b2,b3,b4,b5⟩:=E8 (sT l) rfl;go_wp21
   have ap:=aq l;refine(aqh ap (t:=E.tk i) rfl (by omega) ax a3 af).mono ?_;rintro h bE ⟨bb,a9,rfl,ar⟩;have an:=sT ar;go_wp21
   go_roundg a7
   case measure=>omega
   case rel=>exact⟨a6,_,bb,a9,rfl,ao,an⟩
end
section
variable {E : Pe} {i j k k1 : Nat} {x y R Ex : Fo}
def arj{m:Nat}(q:(E.tk i).k=42)(a8:i<E.n)(an:Es E (CN E 265 #[pV E]) m (i+1) Ex j)(av:(E.tk j).k=43)(a9:j+1<E.n):CN E 248 #[pV E] i (one (jm 35 (E.tk i) (E.tk j).t) Ex) (j+1):=by
 intro a6 ak ax;have ad:=Sw.start ak;have L:=aq an;simp only[di]at ax;clear ak an;go_in;go_wp21
 refine du (ll ad q (by omega)) λw1 af=>?_;obtain⟨bb,al,b⟩:=E7 af q;simp only[pH]at al;have J:=aq b;go_wp21
 clear al ad af b;go_loopg [4] m (λgk a4 wr=>∃(k:Nat) (D s:Fo) (w:Option Addr) (n y:Nat) (I:List Ax),a4= V w n y/\B3 (Es E (CN E 265 #[pV E]) gk k s j/\Sw E a6 wr k (V w n y) I D I [tkB w1.heap.size (E.tk i)] []/\D.app s=Ex))
 case atStart=>exact⟨i+1,.nil,Ex,O,0,0,[],rfl,L,J,rfl⟩
 case round=>
  clear J L;obtain⟨ba,D,s,w,n,y,I,rfl,K⟩:=hrel;obtain⟨ar,C,a⟩:=K.out;have b:=aq C;have a0:=Cl.len _ _ C.nn;clear C K;cases ar with
  |stop p l=>
   rw[Fo.app_nil]at a;go_wp21
   refine du (wF b av l) λao c=>?_;obtain⟨bd,bf,d,bh,bj,bk⟩:=E8 c q;clear a0;go_wp21
   refine du (rL c q (by omega) (by omega) 35 _ _ _) λap g=>?_;subst a;go_wp21
   go_ret;exact⟨_,rfl,KL g (jm 35 (E.tk i) (E.tk j).t) rfl rfl rfl rfl⟩
  |@com G _ F _ d f p l z A B o=>
   have a1:D.sz+(d.sz+f.sz)<=50000000:=by have h:=congrArg Fo.sz a;simp only[Fo.sz_app]at h;omega
   have au:=D.len_le;have e:=gE a o;clear a o;go_wp21
   refine du (Bf b p l) λao c=>?_;go_wp21
   refine(xu c z).mono ?_;rintro h ap ⟨a3,a2,rfl,g⟩;go_wp2_with (at_builtin;refine sAp g rfl (by omega) rfl _ _ rfl rfl rfl ?_;intro x H c5 w5 u);refine du (wF u A B) λa7 v=>?_;have r:=aq v;go_wp21
   go_roundg G
   case measure=>omega
   case rel=>exact⟨(F+1),D.app d,f,x,H,c5,_,rfl,e.2,r,by rw[Fo.app_app];exact e.1⟩
  |@last G _ F _ d f p l z A B o=>
   have a1:D.sz+(d.sz+f.sz)<=50000000:=by have h:=congrArg Fo.sz a;simp only[Fo.sz_app]at h;omega
   have au:=D.len_le;have e:=gE a o;clear a o;go_wp21
   refine du (Bf b p l) λao c=>?_;go_wp21
   refine(xu c z).mono ?_;rintro h ap ⟨a3,a2,rfl,g⟩;go_wp2_with (at_builtin;refine sAp g rfl (by omega) rfl _ _ rfl rfl rfl ?_;intro x H c5 w5 u);refine du (Bf u A B) λa7 v=>?_;have r:=aq v;go_wp21
   go_roundg G
   case measure=>omega
   case rel=>exact⟨F,D.app d,f,x,H,c5,_,rfl,e.2,r,by rw[Fo.app_app];exact e.1⟩
end
section
variable {E : Pe} {i j k k1 : Nat} {x y R Ex : Fo}
def Cl.top{e:Option Nat}{ks:Fo}{t:E1}{p:Ax}(h:Cl w lo e (one N ks) [A3 t p]):∃b,t=po (fC N.k)/\p= C2 (U ⟨b,0,O⟩)/\w.cell? ⟨b,0,O⟩=U (Y X N.k):=by
 obtain⟨i,b,l,n,m,j,o,f,g,d,⟨_,_,c,_⟩,_⟩:=h;have a:=(kD d.1).1;unfold gg at a;cases a;exact⟨b,rfl,rfl,by unfold gJ at c;rw[am _ _ _ _ _ _ c];rfl⟩
def aqk{ks:Fo}(b:(E.tk i).k=40)(av:i<E.n)(v:CN E 122 #[pV E] (i+1) (one N ks) k)(u:(E.tk k).k=41)(ax:i+1<=k)(a0:k+1<E.n):CN E 190 #[pV E] i (lJ N ks (E.tk i) (E.tk k).t) (k+1):=by
 intro c x a1;have q:=Sw.start x;clear x;have a2:(one N ks).sz<=(lJ N ks (E.tk i) (E.tk k).t).sz:=by unfold lJ;split<;>simp only[di]<;>omega
 rcases(by omega:N.k=34\/N.k=27\/(N.k≠34/\N.k≠27)) with hN|hN|hN
 .go_in;go_wp21
  refine du (ll q b (by omega)) λw1 h=>?_;obtain⟨B,e,j⟩:=E7 h b;simp only[pH]at e;go_wp21
  refine(xu j v).mono ?_;rintro w C ⟨A,z,rfl,l⟩;clear e;go_wp21
  refine du (ll l u (by omega)) λF d=>?_;obtain⟨a,rfl,rfl,f⟩:=Cl.top (N:=N) (ks:=ks) d.nn;have y:=λc=>FC (fC N.k) a c;have p:=λc=>fJ a c;have s:=f;rw[hN]at s;generalize o:po (fC N.k)=g at *;clear o f;obtain⟨J,K,L,ad,af,ak⟩:=E8 d b;obtain⟨w5,G,m⟩:=KJ d [A3 g (C2 (U ⟨a,0,O⟩))] #[A3 g (C2 (U ⟨a,0,O⟩))] rfl 1 rfl (by decide);obtain⟨al,an,ao,ap,ar,au⟩:=E8 m b;go_wp2_with (go_at_call 303;refine ft (p _) ?_);refine du (rL m b (by omega) (by omega) 37 _ _ _) λI r=>?_;go_wp21
  go_ret;refine⟨_,rfl,?_⟩;unfold lJ;rw[ab (by omega)];exact KL r (jm 37 (E.tk i) (E.tk k).t) rfl rfl rfl rfl
 .go_in;go_wp21
  refine du (ll q b (by omega)) λw1 h=>?_;obtain⟨B,e,j⟩:=E7 h b;simp only[pH]at e;go_wp21
  refine(xu j v).mono ?_;rintro w C ⟨A,z,rfl,l⟩;clear e;go_wp21
  refine du (ll l u (by omega)) λF d=>?_;obtain⟨a,rfl,rfl,f⟩:=Cl.top (N:=N) (ks:=ks) d.nn;have y:=λc=>FC (fC N.k) a c;have p:=λc=>fJ a c;have s:=f;rw[hN]at s;generalize o:po (fC N.k)=g at *;clear o f;obtain⟨J,K,L,ad,af,ak⟩:=E8 d b;obtain⟨w5,G,m⟩:=KJ d [A3 g (C2 (U ⟨a,0,O⟩))] #[A3 g (C2 (U ⟨a,0,O⟩))] rfl 1 rfl (by decide);obtain⟨al,an,ao,ap,ar,au⟩:=E8 m b;go_wp2_with (go_at_call 303;refine ft (p _) ?_);refine du (rL m b (by omega) (by omega) 37 _ _ _) λI r=>?_;go_wp21
  go_ret;refine⟨_,rfl,?_⟩;unfold lJ;rw[ab (by omega)];exact KL r (jm 37 (E.tk i) (E.tk k).t) rfl rfl rfl rfl
 .go_in;go_wp21
  refine du (ll q b (by omega)) λw1 h=>?_;obtain⟨B,e,j⟩:=E7 h b;simp only[pH]at e;go_wp21
  refine(xu j v).mono ?_;rintro w C ⟨A,z,rfl,l⟩;clear e;go_wp21
  refine du (ll l u (by omega)) λF d=>?_;obtain⟨a,rfl,rfl,f⟩:=Cl.top (N:=N) (ks:=ks) d.nn;have y:=λc=>FC (fC N.k) a c;have p:=λc=>fJ a c;generalize o:po (fC N.k)=g at *;clear o;go_wp2_with (first|(go_at_call 303;refine ft (p _) ?_));go_ret;refine⟨_,rfl,?_⟩;unfold lJ;rw[aa (by omega)];exact d.drop (λa3 H=>by cases H) (.inr rfl)
def aql(f:(E.tk i).k=40)(e:(E.tk (i+1)).k=41)(g:i+1<E.n):CR E 192 #[pV E] i (.nil) (i+2):=by
 intro j a h;have b:=Sw.start a;clear a;go_in;go_wp2_with fail;refine du (ll b f (by omega)) λw1 c=>?_;go_wp2_with fail;refine du (wF c e) λl d=>?_;go_wp2_with fail;go_ret;exact⟨_,[],rfl,d⟩
def ark(j:(E.tk i).k=40)(r:i+1<E.n)(l:(E.tk (i+1)).k≠41)(h:CR E 185 #[pV E,.func (.func 122) #[pV E] #[]] (i+1) Ex k)(g:(E.tk k).k=41)(s:k<E.n):CR E 192 #[pV E] i (Ex) (k+1):=by
 intro w a t;have b:=Sw.start a;clear a;go_in;go_wp21
 refine du (ll b j (by omega)) λw1 c=>?_;go_wp21
 refine du (Bf c l) λx d=>?_;go_wp21
 refine(ac2 d h).mono ?_;rintro q y ⟨o,v,p,m,rfl,e,u⟩;go_wp21
 refine du (ll e g (by omega)) λz f=>?_;go_wp21
 go_ret;exact⟨_,m,rfl,f⟩
def alz{q:Int}{m:Nat}(a:(E.tk i).k=q)(cr:i<E.n)(bx:(q=1/\CN E 191 #[pV E,Y X 26] i x k)\/(q=40/\CN E 190 #[pV E] i x k))(a8:K6 E (λi x j=>CN E 122 #[pV E] i x j) (λi x j=>CR E 185 #[pV E,.func (.func 122) #[pV E] #[]] i x j) (E.tk i) m x k R j):CN E 123 #[pV E] i R j:=by
 intro b6 br cs;have a2:=Sw.start br;have bk:=a8;have ct:=a8.le;rcases bx with⟨rfl,an⟩|⟨rfl,an⟩
 case' inl=>
  go_in;go_wp2_with fail;refine du (Ef a2 a (by omega) (by decide)) λw1 L=>?_;obtain⟨b7,af,e⟩:=E7 L a;simp only[pH]at af;obtain⟨bE,b0,b1,b2,b3,r5⟩:=E8 e a;go_wp2_with fail;refine(xu e an).mono ?_;rintro J H ⟨bf,ba,rfl,f⟩;have a1:=aq f;go_wp2_with fail
 case' inr=>
  go_in;go_wp2_with fail;refine du (Ef a2 a (by omega) (by decide)) λw1 L=>?_;obtain⟨b7,af,e⟩:=E7 L a;simp only[pH]at af;obtain⟨bE,b0,b1,b2,b3,r5⟩:=E8 e a;go_wp2_with fail;refine(xu e an).mono ?_;rintro J H ⟨bf,ba,rfl,f⟩;have a1:=aq f;go_wp2_with fail
 all_goals
  go_loopg [4] m (λgk b5 wr=>∃(k:Nat) (I:Fo) (bd:E1) (a9:Ax),b5= A3 bd a9/\B3 (K6 E (λi x j=>CN E 122 #[pV E] i x j) (λi x j=>CR E 185 #[pV E,.func (.func 122) #[pV E] #[]] i x j) (E.tk i) gk I k R j/\Sw E b6 wr k s0 [] I [A3 bd a9] [tkB w1.heap.size (E.tk i)] []))
  case atStart=>exact⟨k,x,bf,ba,rfl,bk,a1⟩
  case round=>
   obtain⟨F,I,o,l,rfl,bj⟩:=hrel;obtain⟨bs,bt⟩:=bj.out;have e:=aq bt;cases bs with
   |stop b g=>
    have cn:((E.tk j).k==48)=B0:=by have:=mj g;simp;omega
    have cl:((E.tk j).k==44)=B0:=by have:=mj g;simp;omega
    have ck:((E.tk j).k==40)=B0:=by have:=mj g;simp;omega
    go_wp2_with fail;refine du (oE e rfl b) λK h=>?_;go_wp2_with fail;go_ret;exact⟨_,rfl,h.drop (λcu bw=>by cases bw) (.inr rfl)⟩
   |@dot u _ _ _ _ b g z c=>
    have cp:=akj;have p:=c;have t:=c.le;simp only[di,Fo.sz_app]at t;go_wp2_with fail;refine du (oE e b) λH f=>?_;go_wp2_with fail;refine du (ll f b (by omega)) λK h=>?_;go_wp2_with fail;refine du (ll h g (by omega)) λw5 d=>?_;simp only[pH];obtain⟨ap,ar,au,av,ax,a0⟩:=E8 d a;obtain⟨b8,bv,v⟩:=KJ d [A3 o l] #[A3 o l] rfl 1 rfl (by decide);obtain⟨ca,cb,cc,cd,ce,cf⟩:=E8 v a;go_wp2_with fail;refine du (rL v a (by omega) (by omega) 33 _ _ _) λao s=>?_;go_wp2_with fail;go_roundg u
    case measure=>omega
    case rel=>
     refine⟨F+2,_,_,_,rfl,p,?_⟩;rw[<-En (nk:=33) (by decide)];exact(F9 s (nd 33 (E.tk i) (E.tk (F+1)).t 0 0 (E.tk (F+1)).x []) (Lc (by decide) _ _ _) rfl (by show _=(_++exT _ _ (fC 33)).toArray;rw[show fC 33=3 by decide];rfl) (by show _=xb (fC 33);rw[show fC 33=3 by decide];rfl)).out
   |@sq u _ C _ _ a4 _ b g z ad a6 c=>
    have p:=c;have t:=c.le;simp only[di,Fo.sz_app]at t;go_wp2_with fail;refine du (oE e b) λH f=>?_;go_wp2_with fail;refine du (ll f b (by omega)) λK h=>?_;go_wp2_with fail;refine(xu h z).mono ?_;rintro J w5 ⟨bh,bb,rfl,d⟩;go_wp2_with fail;refine du (ll d ad (by omega)) λcv a3=>?_;obtain⟨ap,ar,au,av,ax,a0⟩:=E8 a3 a;obtain⟨b8,bv,v⟩:=KJ a3 [A3 o l,A3 bh bb] #[A3 o l,A3 bh bb] rfl 2 rfl (by decide);obtain⟨ca,cb,cc,cd,ce,cf⟩:=E8 v a;go_wp2_with fail;refine du (rL v a (by omega) (by omega) 32 _ _ _) λao s=>?_;go_wp2_with fail;go_roundg u
    case measure=>omega
    case rel=>exact⟨C+1,_,_,_,rfl,p,(F9 s (jm 32 (E.tk i) (E.tk C).t) rfl rfl rfl rfl).out⟩
   |@call0 u _ _ _ _ b g z c=>
    have p:=c;have t:=c.le;simp only[di,Fo.sz_app]at t;clear c;go_wp2_with fail;refine du (oE e b) λH f=>?_;obtain⟨K,ak,h⟩:=KJ f [A3 o l] #[A3 o l] rfl 1 rfl (by decide);go_wp2_with fail;clear ak;refine(ahG h (aql b g (by omega)) (by decide)).mono ?_;rintro J w5 ⟨bl,bA,c5,b4,rfl,d,r⟩;go_wp2_with (at_builtin;refine ti rfl _ _ rfl rfl d.ro rfl r.1 r.2.1 (by have:=r.2.2;have:Fo.nil.len=0:=rfl;have:=(.nil:Fo).len_le;show 1+_<=_;omega) (by have:=d.gr.size;omega) ?_;intro bn bD bo b9 G al B A;have y:=d.put G B A;clear G al B A;have w:=y;clear y;obtain⟨ap,ar,au,av,ax,a0⟩:=E8 w a);refine du (rL w a (by omega) (by omega) 34 _ _ _) λao s=>?_;go_wp2_with fail;go_roundg u
    case measure=>omega
    case rel=>exact⟨(F+2),_,_,_,rfl,p,(F9 (Fo.app_nil I ▸ s) (jm 34 (E.tk i) (E.tk (F+1)).t) rfl rfl rfl rfl).out⟩
   |@call u _ C _ _ a4 _ b g z ad a6 cq c=>
    have p:=c;have t:=c.le;simp only[di,Fo.sz_app]at t;clear c;go_wp2_with fail;refine du (oE e b) λH f=>?_;obtain⟨K,ak,h⟩:=KJ f [A3 o l] #[A3 o l] rfl 1 rfl (by decide);go_wp2_with fail;clear ak;refine(ahG h (ark b g z ad a6 (by omega)) (by omega)).mono ?_;rintro J w5 ⟨bl,bA,c5,b4,rfl,d,r⟩;go_wp2_with (at_builtin;refine ti rfl _ _ rfl rfl d.ro rfl r.1 r.2.1 (by have:=r.2.2;have:Fo.nil.len=0:=rfl;have:=(a4:Fo).len_le;show 1+_<=_;omega) (by have:=d.gr.size;omega) ?_;intro bn bD bo b9 G al B A;have y:=d.put G B A;clear G al B A;have w:=y;clear y;obtain⟨ap,ar,au,av,ax,a0⟩:=E8 w a);refine du (rL w a (by omega) (by omega) 34 _ _ _) λao s=>?_;go_wp2_with fail;go_roundg u
    case measure=>omega
    case rel=>exact⟨(C+1),_,_,_,rfl,p,(F9 s (jm 34 (E.tk i) (E.tk C).t) rfl rfl rfl rfl).out⟩
end
section
variable {E : Pe} {i j k k1 : Nat} {x y R Ex : Fo}
abbrev Eo(vn:Ax)(r:Bool):Array Ax:=#[Y X 0,Y X 0,Y X 0,Y X 0,Y X 0,V O 0 0,vn,G0 r]
def Sw.setL{q:Nat}{cs:Array Ax}{u:Ax}(h:Sw E W w i s0 [] .nil [] ((b,162,cs)::T) M)(v:∀p∈T,p.2.1≠162):Sw E W (w.setCell ⟨b,q,O⟩ u) i s0 [] .nil [] ((b,162,cs.setIfInBounds q u)::T) M:=by
 obtain⟨g,l,k⟩:=h.tb _ (bg ..);have a:∀{e:Nat}{cs:Array Ax}{f:E1}{c:Nat×Nat},w.heap[e]?=U (A0 cs f c)->f≠162->(w.setCell ⟨b,q,O⟩ u).heap[e]?=U (A0 cs f c):=λ{e cs f c} d B=>by
  rw[aC _ _ _ _ (λa=>by rw[a]at d;have:=k.symm.trans d;simp only[fi,jL]at this;exact B this.2.1.symm)];exact d
 obtain⟨n,c,H,I⟩:=h.pp.tks;obtain⟨L,r,J⟩:=h.pp.pw;have z:=h.lt;have A:=h.pp.pg;refine⟨⟨h.pp.hn,⟨n,c,a H (by decide),I⟩,a h.pp.row (by decide),A,L,r,(aC _ _ _ _ (show 1≠b from λaf=>by simp only at g;omega)).trans J⟩,?_,z,eI _ _ _ _,⟨[],⟨rfl,rfl⟩,by obtain⟨ad,F,G⟩:=h.nb;obtain⟨_,rfl⟩:=F;exact G⟩,λp hp=>?_,λp hp=>?_⟩
 .exact h.gr.andThen (qz (uf w _) q u) (λe d=> .inl (by cases d;exact g))
 .rcases List.mem_cons.1 hp with rfl|hp
  .exact⟨g,l,aL _ b q _ _ _ k⟩
  .exact⟨(h.tb p (dm _ hp)).1,(h.tb p (dm _ hp)).2.1,a (h.tb p (dm _ hp)).2.2 (v p hp)⟩
 .obtain⟨t,j⟩:=h.nm p hp;refine⟨t,?_⟩;rcases j with j|⟨s,m,o,C,y,x,K⟩
  .exact .inl j
  .exact .inr ⟨s,m,o,C,y,a x (by decide),K⟩
def aeE(h:w.heap[b]?=U (A0 (Eo vn r) 162 (0,0))):w.cell? ⟨b,6,O⟩=U vn/\w.cell? ⟨b,7,O⟩=U (G0 r)/\∀j,w.frozen? ⟨b,j,O⟩=B0:=⟨by rw[am _ _ _ _ _ _ h];rfl,by rw[am _ _ _ _ _ _ h];rfl,λj=>ch _ _ _ _ _ h⟩
def sLC(S:B3 (Sw E W w i s0 [] .nil [] ((b,162,Eo vn r)::T) M)):w.cell? ⟨b,6,O⟩=U vn/\w.cell? ⟨b,7,O⟩=U (G0 r)/\∀j,w.frozen? ⟨b,j,O⟩=B0:=aeE (S.tb _ (bg ..)).2.2
end
section
variable {E : Pe} {i j k k1 : Nat} {x y R Ex : Fo}
def Sw.lam{o u:B2}{s:Tk}{C:Ax}{H:List ByteArray}(h:Sw E W w i s0 [] .nil [] ((b,162,Eo vn r)::T) ((vn,H)::M))(m:Sw E w o j C [v] R [v] [] []){e:Int}(ad:u.heap[b]?=U (A0 #[Y X 36,Y X s.f,Y X e,Y X s.l,Y X 0,C,vn,G0 r] 162 (0,0)))(z:o.grownBy u (U b)):Sw E W u j s0 [] (one (nd 36 s e (opR r) 0 z0 H) R) [A3 160 (C2 (U ⟨b,0,O⟩))] [] []:=by
 obtain⟨x,ap,y⟩:=h.tb _ (bg ..);have af:=aj y;simp only at x af;have al:=h.lt;have B:∀d,d<o.heap.size->d≠b->u.heap[d]?=o.heap[d]?:=λd p k=>z.block d p (λe=>k (by cases e;rfl));have av:=m.gr.size;obtain⟨I,K,an⟩:=m.nb;refine⟨m.pp.other (by omega) (λe=>?_) (by omega) z,(h.gr.trans m.gr).andThen z (λd ak=> .inl (by cases ak;exact x)),al,eI _ _ _ _,⟨_,⟨b,0,vn,C,[v],[],I,[],⟨rfl,rfl⟩,⟨x,by simp[A2],?_,?_⟩,⟨?_,λg _=>by simp[A2]⟩,⟨?_,λg _=>by simp[A2]⟩,?_,rfl,rfl⟩,?_⟩,λao A=>(by cases A),λao A=>(by cases A)⟩
 .obtain⟨ar,au,F,_⟩:=h.pp.tks;rw[<-e,y]at F;simp only[fi,jL]at F;exact absurd F.2.1 (by decide)
 .unfold gJ;rw[ad];cases r<;>rfl
 .cases r<;>rfl
 .have t:=h.nm _ (bg ..);refine jG (w:=w) t (λg J p k=>⟨?_,p⟩);rw[B g (by omega) (λe=>gq t y (show 162≠9 by decide) (by rw[<-e];exact J))];exact m.gr.block g k (λe=>by cases e;omega)
 .exact jG (w:=o) m.ro (λg J p k=>⟨B g k (by omega),by omega⟩)
 .exact th.mono (w:=o) (λd p k L=>⟨B d L (by omega),by omega,by simp[A2]⟩) _ _ _ K
 .rw[show mB []=[] from rfl,dr,dr];have t:=h.nm _ (bg ..);have:=nd3 (a:=vn.ownBlock.toList) (b:=I) (c:=[]) (n:=w.heap.size) (by rw[dr];exact It _) (by simpa [mB] using an) (λG q=>by rw[dr]at q;exact(t.lt G (by simpa using q)).2) (λG q=>(K.lt _ _ _ G q).1);rw[dr]at this;exact this
def aqm{s:Tk}{q:Int}{B:List ByteArray}(a3:s.k=q)(b4:(E.tk i).k=40)(b3:i+1<E.n)(b6:Lx E.tk E.n (i+1) B r k)(b8:CN E 124 #[pV E] k x j)(a2:k+1<=j)(ct:j<=E.n):CN E 187 #[pV E,.agg (pH q s)] i (one (nd 36 s (E.tk (j-1)).t (opR r) 0 z0 B) x) j:=by
 intro l ar b5;have br:=Sw.start ar;have bo:=aq b6;have cz:=ar.hn;have cr:=akj;simp only[di]at b5;obtain⟨w1,b0,bs⟩:=E7 br a3;simp only[pH]at b0;go_in;go_wp2_with fail;refine du (ll bs b4 (by omega)) λc bt=>?_;have bj:B3 (Sw E l (c.alloc (.cells (Eo s0 B0) 162)) (i+1) s0 [] .nil [] [(c.heap.size,162,Eo (s0) B0),tkB l.heap.size s] [(s0,[])]):=by
  have F:=bt.boxg (Eo s0 B0) 162 (by decide) (by decide);exact⟨F.pp,F.gr,F.lt,F.ro,⟨[],⟨rfl,rfl⟩,by simp[mB,A2]⟩,F.tb,λbf ak=>by obtain rfl:=List.mem_singleton.1 ak;exact eI _ _ _ _⟩
 go_wp2_with fail;go_loopg [13] (E.n-(i+1)) (λgk c0 wr=>∃(a:Nat) (D au:List ByteArray) (p an:Bool) (g:Option Addr) (n h:Nat),gk=E.n-a/\D.length=n/\n<=a/\a<E.n/\B3 (Lx E.tk E.n a au an k/\Sw E l wr a s0 [] .nil [] [(c.heap.size,162,Eo (.slice g n h) p),tkB l.heap.size s] [(.slice g n h,D)]/\D++au=B/\(p||an)=r))
 case atStart=>exact⟨i+1,[],B,B0,r,O,0,0,rfl,rfl,by omega,b3,bo,bj,rfl,by simp⟩
 case round=>
  obtain⟨a,D,au,p,an,g,n,h,rfl,af,cy,cu,bn⟩:=hrel;obtain⟨F,bE,L,ad⟩:=bn.out;have ax:=aq bE;cases F with
  |close w z=>
   rw[dr]at L;rw[Gl]at ad;subst L ad;go_wp2_with fail;refine du (wF ax w) λa6 u=>?_;go_wp2_with fail;refine(b8 _ u.pp (by omega)).mono ?_;rintro e w5 ⟨cI,rfl,m⟩;obtain⟨a5,a4,rfl⟩:=Cl.form m.nn;have a7:=u.step m.gr m.pp;obtain⟨c1,b1,J⟩:=KJ m [.iface a5 a4] #[.iface a5 a4] rfl 1 rfl (by decide);have bv:=sB a7 (dE w5 (.cells #[.iface a5 a4] 52));rw[b1]at bv;obtain⟨c3,c4,c7,c8,c9,da⟩:=E8 (sT (b:=(c.heap.size,162,Eo (.slice g n h) p)) a7) a3;go_wp2_with fail;refine du (rL J a3 (by omega) (by omega) 36 _ _ _) λf H=>?_;have bw:=u.step H.gr H.pp;have A:=(bw.tb _ (bg ..)).2.2;have dc:f.cell? ⟨c.heap.size,0,O⟩=U (.int .i64 0):=by rw[am _ _ _ _ _ _ A];rfl
   have dd:f.cell? ⟨c.heap.size,1,O⟩=U (.int .i64 0):=by rw[am _ _ _ _ _ _ A];rfl
   have dg:f.cell? ⟨c.heap.size,2,O⟩=U (.int .i64 0):=by rw[am _ _ _ _ _ _ A];rfl
   have dn:f.cell? ⟨c.heap.size,3,O⟩=U (.int .i64 0):=by rw[am _ _ _ _ _ _ A];rfl
   have dq:f.cell? ⟨c.heap.size,4,O⟩=U (.int .i64 0):=by rw[am _ _ _ _ _ _ A];rfl
   have ds:f.cell? ⟨c.heap.size,5,O⟩=U (.slice O 0 0):=by rw[am _ _ _ _ _ _ A];rfl
   have dx:∀j,f.frozen? ⟨c.heap.size,j,O⟩=B0:=λj=>ch _ _ _ _ _ A;have bl:=aq A;go_wp2_with fail;go_ret;exact⟨_,rfl,u.lam (s:=s) (e:=(E.tk (j-1)).t) H (aL _ _ 5 _ _ _ (aL _ _ 4 _ _ _ (aL _ _ 3 _ _ _ (aL _ _ 2 _ _ _ (aL _ _ 1 _ _ _ (aL _ _ 0 _ _ _ bl)))))) (qz (qz (qz (qz (qz (qz (uf f _) 0 _) 1 _) 2 _) 3 _) 4 _) 5 _)⟩
  |rest w z a9=>
   have y:B3 (D++[]=B/\(G3||false)=r):=⟨L,by rw[<-ad,Bool.or_true];rfl⟩;go_wp2_with fail;refine du (Bf ax (by rw[w];decide)) λcl a0=>?_;go_wp2_with fail;refine du (wF a0 w) λa6 u=>?_;obtain⟨ba,ce,cf⟩:=sLC u;have m:B3 (Sw E l (a6.setCell ⟨c.heap.size,7,O⟩ (.bool G3)) (a+1) s0 [] .nil [] [(c.heap.size,162,Eo (.slice g n h) G3),tkB l.heap.size s] [(.slice g n h,D)]):=u.setL (by intro bf ak;obtain rfl:=List.mem_singleton.1 ak;show 46≠162;decide);go_wp2_with fail;refine du (Bf m (by rw[z];decide)) λbh K=>?_;go_wp2_with fail;go_roundg (E.n-(a+1))
   case measure=>omega
   case rel=>exact⟨a+1,D,[],G3,B0,g,n,h,rfl,af,by omega,by omega,.close z (by omega),K,y.1,y.2⟩
  |last w z a9=>?_
  |@go _ _ bb _ w z a9 bD=>?_
  all_goals
   first
    |have y:B3 ((D++[(E.tk a).x])++[]=B/\(p||false)=r):=⟨by rw[dr];exact L,ad⟩
    |(have y:B3 ((D++[(E.tk a).x])++bb=B/\(p||an)=r):=⟨by rw[cg];exact L,ad⟩
      have bk:=aq bD)
   have cx:n<=50000000:=by omega
   go_wp2_with fail;refine du (Bf ax (by rw[w];decide)) λcl a0=>?_;go_wp2_with fail;refine du (Bf a0 (by rw[w];decide)) λa6 u=>?_;go_wp2_with fail;have a8:=sB u (bH (ai _ _));obtain⟨ba,ce,cf⟩:=sLC a8;refine H0 (S:=λ_=>True) (by kernel_rfl) trivial (λhS=>?_);simp only[ir,bm,ej,Nat.reduceAdd,jb,jp,jq,eu,ez];refine dF 0 (.pointer (U ⟨c.heap.size,0,O⟩)) rfl rfl (by kernel_rfl) (λ_ _ _=>id) hS (λao al=>by go_simp) ?_;simp only[E2];refine dF 1 (.pointer (U ⟨c.heap.size,0,O⟩)) rfl rfl (by kernel_rfl) (λ_ _ _=>id) hS (λao al=>by go_simp) ?_;simp only[E2];refine dF 2 (.pointer (U ⟨c.heap.size,0,O⟩)) rfl rfl (by kernel_rfl) (λ_ _ _=>id) hS (λao al=>by go_simp) ?_;simp only[E2];refine dF 3 (.pointer (U ⟨c.heap.size,6,O⟩)) rfl rfl (by kernel_rfl) (λ_ _ _=>id) hS (λao al=>by go_simp) ?_;simp only[E2];refine dF 5 (.pointer (U ⟨E.pb,0,O⟩)) rfl rfl (by kernel_rfl) (λ_ _ _=>id) hS (λao al=>by go_simp) ?_;simp only[E2];refine rF (S:=λbx=>bx.cell? ⟨c.heap.size,6,O⟩=U (.slice g n h)) (C:=λj=>!(j==9||j==10||j==11||j==12)) (i:=4) (v:= .slice g n h) rfl (xD (by kernel_rfl)) (λ_ _ _ ar=>ar) ?hC _ _ _ _ (xF rfl (by kernel_rfl)) (List.contains_iff_mem.1 (by kernel_rfl)) (Or.inl ⟨by rfl,λao al=>by go_simp⟩) hS ba ?_
   case hC=>
    intro j cB a2 o;simp only[Bool.not_eq_false',ve,jB]at o;rcases o with((rfl|rfl)|rfl)|rfl
    .obtain rfl:=bc a2;exact⟨{on:=4,ground:=Ground.data},by simp,rfl,rfl⟩
    all_goals
     obtain rfl:=bc a2;exact⟨{on:=4,ground:=Ground.phase},by simp,rfl,rfl⟩
   simp only[Act.put,cm,co,cC];refine fh (i:=6) (by kernel_rfl) rfl (λG d=>?_);go_simp;refine du (ll a8 w (by omega)) λw5 m=>?_;have c5:=(sLC m).1;refine d _ _ trivial (λ_=>c5) ?_;try simp only[cm,co,cC]
   refine fh (i:=7) (by kernel_rfl) rfl (λG d=>?_);simp only[pH];go_simp;refine d _ _ trivial (λ_=>c5) ?_;try simp only[cm,co,cC]
   refine fh (i:=8) (by kernel_rfl) rfl (λG d=>?_);go_simp;have J:=sB m (dE w5 (.cells #[.string (E.tk a).x] 9));have bA:=(sLC J).1;have bd:=J.nm _ (bg ..);rw[bi,af]at bd;refine d _ _ trivial (λ_=>bA) ?_;try simp only[cm,co,cC]
   obtain⟨b9,ca,cb,cc,cd⟩:=eD KI;refine fh (i:=9) (by kernel_rfl) rfl (λG d=>?_);refine step_append_lies _ (by rfl) _ _ 59 (by rfl) l.heap.size 9 b9 _ 1 16 Tryz.underlying59 ca cb cc cd rfl (by decide) (.slice g n h) n _ (by rfl) bd ⟨w5.heap.size,0,O⟩ 1 1 [.string (E.tk a).x] (by rfl) rfl (Br (aB w5 _)) (by intro cF b7;rw[List.mem_singleton.1 b7];rfl) (by decide) (by unfold F2;omega) (by omega) (bG m.gr.size (dE w5 _).size) _ rfl ?_;intro ap I f ck b2 cs cw;have H:B3 (Sw E l f (a+1) s0 [] .nil [] [(c.heap.size,162,Eo (.slice g n h) p),tkB l.heap.size s] [(.slice (U ⟨ap,0,O⟩) (n+1) I,D++[(E.tk a).x])]):=J.putN (by rw[bi,aJ,af,dK];exact ck) b2;obtain⟨cn,cp,cq⟩:=sLC H;refine d _ _ trivial (λo=>by cases o) ?_;simp only[Act.put,cm,co,cC];refine fh (i:=10) (by kernel_rfl) rfl (λG d=>?_);go_simp;refine d _ _ trivial (λo=>by cases o) ?_;try simp only[cm,co,cC]
   refine fh (i:=11) (by kernel_rfl) rfl (λG d=>?_);go_simp;refine d _ _ trivial (λo=>by cases o) ?_;try simp only[cm,co,cC]
   refine fh (i:=12) (by kernel_rfl) rfl (λG d=>?_);go_simp;have a1:B3 (Sw E l (f.setCell ⟨c.heap.size,6,O⟩ (.slice (U ⟨ap,0,O⟩) (n+1) I)) (a+1) s0 [] .nil [] [(c.heap.size,162,Eo (.slice (U ⟨ap,0,O⟩) (n+1) I) p),tkB l.heap.size s] [(.slice (U ⟨ap,0,O⟩) (n+1) I,D++[(E.tk a).x])]):=H.setL (by intro bf ak;obtain rfl:=List.mem_singleton.1 ak;show 46≠162;decide);refine d _ _ trivial (λo=>by cases o) ?_;refine uk (by kernel_rfl) ?_ _;generalize f.setCell _ _=c2 at a1⊢;go_wp2_with fail;first
    |(refine du (Bf a1 (by rw[z];decide)) λbh K=>?_
      go_wp2_with fail;go_roundg (E.n-(a+1))
      case measure=>omega
      case rel=>exact⟨a+1,D++[(E.tk a).x],[],p,B0,_,n+1,I,rfl,by rw[aJ,af];rfl,by omega,by omega,.close z (by omega),K,y.1,y.2⟩)
    |(refine du (wF a1 z) λbh K=>?_
      go_wp2_with fail;go_roundg (E.n-(a+2))
      case measure=>omega
      case rel=>exact⟨a+2,D++[(E.tk a).x],bb,p,an,_,n+1,I,rfl,by rw[aJ,af];rfl,by omega,by omega,bk,K,y.1,y.2⟩)
end
abbrev CxP(E:Pe)(i:Nat)(x:Fo)(j:Nat):Prop:=CN E 122 #[pV E] i x j
abbrev ClP(E:Pe)(i:Nat)(x:Fo)(j:Nat):Prop:=CR E 185 #[pV E,.func (.func 122) #[pV E] #[]] i x j
def PI(E:Pe):xz->Nat->Fo->Nat->Prop
 | .unit,i,R,j=>CN E 224 #[pV E] i R j
 | .expr p,i,R,j=>CXi E p i R j
 | .more p s x,i,R,j=>∃m,Ms E (CXi E) p s m x i R j
 | .base,i,R,j=>CN E 123 #[pV E] i R j
 | .post s x,i,R,j=>∃m,K6 E (CxP E) (ClP E) s m x i R j
 | .exprs,i,R,j=>ClP E i R j
 | .moreE,i,R,j=>∃m,Ls E (CN E 122 #[pV E]) m i R j
 | .moreB,i,R,j=>∃m,Ls E (CN E 123 #[pV E]) m i R j
 | .stat,i,R,j=>CN E 67 #[pV E] i R j
 | .stats,i,R,j=>∃m,Ss E (CN E 67 #[pV E]) m i R j
 | .block,i,R,j=>CN E 124 #[pV E] i R j
 | .body s,i,R,j=>CN E 187 #[pV E,H1 (pH s.k s)] i R j
 | .entry,i,R,j=>CN E 265 #[pV E] i R j
 | .entries,i,R,j=>∃m,Es E (CN E 265 #[pV E]) m i R j
 | .branch,i,R,j=>CN E 115 #[pV E] i R j
def akz(h:jt k=G3):k=25\/k=50\/k=62\/k=69:=by
 have:=aE h;omega
def Ep{k:Nat}{x:Fo}(b:∀(args:Array Ax) (w:B2),(callFunc f args).run B4 w= .ok (.enter f args) w)(d:CN E f #[pV E] i x k)(h:(E.tk k).k≠46)(c:k<E.n):CR E 185 #[pV E,.func (.func f) #[pV E] #[]] i x k:=by
 have a:=ac3 b d (Ls.stop h c);rw[Fo.app_nil]at a;exact a
def aig(y:∀q,(E.tk q).k<=78){t:xz}{j:Nat}{R:Fo}(h:P E.tk E.n t i R j):PI E t i R j:=by
 induction h with
 |upre a b d c=>
  have:=d.pos;simp only[eB]at this;rcases akz a with h|h|h|h
  .rw[h];exact wm (by constructor) h b (iD (.pre (by decide) h b c (by omega) (by omega)))
  .rw[h];exact wm (by constructor) h b (iD (.pre (by decide) h b c (by omega) (by omega)))
  .rw[h];exact wm (by constructor) h b (iD (.pre (by decide) h b c (by omega) (by omega)))
  .rw[h];exact wm (by constructor) h b (iD (.pre (by decide) h b c (by omega) (by omega)))
 |uint a b=>exact ari b a
 |uflt a b=>exact wm (by constructor) a (by omega) (aif b (by decide) (by decide) a)
 |ustr a b=>exact wm (by constructor) a (by omega) (aif b (by decide) (by decide) a)
 |unil a b=>exact wm (by constructor) a (by omega) (iD (.leaf (by decide) (by decide) a b))
 |utru a b=>exact wm (by constructor) a (by omega) (iD (.leaf (by decide) (by decide) a b))
 |ufls a b=>exact wm (by constructor) a (by omega) (iD (.leaf (by decide) (by decide) a b))
 |urst a b=>exact wm (by constructor) a (by omega) (iD (.leaf (by decide) (by decide) a b))
 |@ufn i j R a b d c=>exact iD (.ufn a b (by have q:CN E 187 #[pV E,H1 (pH (E.tk i).k (E.tk i))] (i+1) R j:=c;rw[a]at q;exact q))
 |utab a b d f g c=>obtain⟨o,c⟩:=c;exact wm (by constructor) a b (arj a b c f g)
 |ubas a b d c=>
  rcases a with h|h
  .exact wm (by constructor) h b c
  .exact wm (by constructor) h b c
 |ex a b d f m p=>obtain⟨o,c⟩:=p;exact an9 a b y m c
 |mstop a b=>exact⟨0,.stop a b⟩
 |mgo a b d f g p w=>obtain⟨o,c⟩:=w;have:=f.pos;simp only[eB]at this;exact⟨o+1,.go a b d p (by omega) (by omega) c⟩
 |bname a b d c=>obtain⟨o,c⟩:=c;have:=d.pos;simp only[eB]at this;exact alz a b (.inl ⟨rfl,aif (by omega) (by decide) (by decide) a⟩) c
 |bopen a b d f g l m s=>obtain⟨o,c⟩:=s;have:=d.pos;have:=l.pos;simp only[eB]at *;exact alz a b (.inr ⟨rfl,aqk a b (iD (.expr m)) f (by omega) (by omega)⟩) c
 |pstop a b=>exact⟨0,.stop a b⟩
 |pdot a b d f c=>obtain⟨o,c⟩:=c;have:=f.pos;exact⟨o+1,.dot a b (by omega) c⟩
 |psq a b d f g l m s=>obtain⟨o,c⟩:=s;have:=l.pos;exact⟨o+1,.sq a b (iD (.expr m)) f (by omega) c⟩
 |pcall0 a b d f c=>obtain⟨o,c⟩:=c;have:=f.pos;exact⟨o+1,.call0 a b (by omega) c⟩
 |pcall a b d f g l r p u=>obtain⟨o,c⟩:=u;have:=r.pos;exact⟨o+1,.call a b d p g (by omega) c⟩
 |es a b A B=>obtain⟨o,c⟩:=B;exact ac3 cfE (iD (.expr A)) c
 |estop a b=>exact⟨0,.stop a b⟩
 |ego a b d f m p=>obtain⟨o,c⟩:=p;exact⟨o+1,.go a b (iD (.expr m)) c⟩
 |bstop a b=>exact⟨0,.stop a b⟩
 |bgo a b d f m p=>obtain⟨o,c⟩:=p;exact⟨o+1,.go a b m c⟩
 |body a b d f c=>have:=d.pos;have:=f.pos;simp only[eB]at *;exact aqm rfl a (by omega) d c (by omega) (by omega)
 |block a b d f g c=>obtain⟨o,c⟩:=c;exact iD (.blk a b (ahF (.inl f) c) f g)
 |sstop a b=>exact⟨0,.stop b⟩
 |ssep a b d c=>obtain⟨o,c⟩:=c;exact⟨o+1,.sep a b c⟩
 |sgo a b d f g l w s=>obtain⟨o,c⟩:=s;exact⟨o+1,.go a b d f w c⟩
 |nstop a b=>exact⟨0,.stop a b⟩
 |ncom a b d f g l m s=>obtain⟨o,c⟩:=s;exact⟨o+1,.com a b m f g c⟩
 |nlast a b d f g l m s=>obtain⟨o,c⟩:=s;exact⟨o+1,.last a b m f g c⟩
 |item a b d f g c=>have:=g.pos;simp only[eB]at this;exact iD (.item a b d rfl f (iD (.expr c)) (by omega) (by omega))
 |pair a b d f g l r m u=>have:=d.pos;have:=r.pos;simp only[eB]at *;exact iD (.pair a b (iD (.expr m)) f g l (iD (.expr u)) (by omega) (by omega))
 |named a b d f g c=>have:=g.pos;simp only[eB]at this;exact iD (.named a b d f (iD (.expr c)) (by omega) (by omega))
 |belif a b d f g l r m p u=>have:=d.pos;have:=f.pos;have:=r.pos;simp only[eB]at *;exact iD (.if1 a rfl b (iD (.expr m)) p l g u (by omega) (by omega))
 |belse a b d f g l r m p u=>have:=d.pos;have:=f.pos;have:=r.pos;simp only[eB]at *;exact iD (.if2 a rfl b (iD (.expr m)) p l g u (by omega) (by omega))
 |bno a b d f g l r m p=>have:=d.pos;have:=f.pos;simp only[eB]at *;exact iD (.if0 a rfl b (iD (.expr m)) p (by omega) r g l)
 |tlet0 a b d f g=>have:=f.pos;exact wm (by constructor) a (by omega) (iD (.let0 a (by omega) (xw d b f) (by omega) (by omega) g))
 |tlet a b d f g l c=>have:=f.pos;have:=l.pos;simp only[eB]at *;exact wm (by constructor) a (by omega) (iD (.let1 a (by omega) (xw d b f) (by omega) g c (by omega) (by omega)))
 |tcon a b d f g c=>have:=g.pos;simp only[eB]at *;exact wm (by constructor) a (by omega) (iD (.con a (by omega) (xw b (by omega) (.stop (by rw[d];decide) (by omega))) (by omega) d (iD (.expr c)) (by omega) (by omega)))
 |@tfn i j x a b d f g c=>have:=g.pos;simp only[eB]at *;exact wm (by constructor) a (by omega) (iD (.fn a (by omega) (xw b (by omega) (.stop (by rw[d];decide) (by omega))) (by omega) d (by have q:CN E 187 #[pV E,H1 (pH (E.tk (i+2)).k (E.tk (i+2)))] (i+2) x j:=c;rw[d]at q;exact q) (by omega) (by omega)))
 |tif a b d c=>exact wm (by constructor) a b c
 |twhile a b d f m p=>have:=d.pos;have:=f.pos;simp only[eB]at *;exact wm (by constructor) a b (iD (.whl a b (iD (.expr m)) p (by omega) (by omega)))
 |tfor a b d f g l r s u=>have:=f.pos;have:=l.pos;have:=r.pos;simp only[eB]at *;exact wm (by constructor) a (by omega) (iD (.for_ (by decide) a (by omega) (xw d b f) (by omega) g s u (by omega) (by omega)))
 |teach a b d f g l r v z s F=>have:=f.pos;have:=l.pos;have:=z.pos;simp only[eB]at *;exact wm (by constructor) a (by omega) (iD (.for_ (by decide) a (by omega) (xw d b f) (by omega) g (Ep cfE (iD (.expr s)) (by rw[r];decide) v) F (by omega) (by omega)))
 |tbreak a b=>exact wm (by constructor) a (by omega) (iD (.leaf (by decide) (by decide) a b))
 |tnext a b=>exact wm (by constructor) a (by omega) (iD (.leaf (by decide) (by decide) a b))
 |tret0 a b d=>exact wm (by constructor) a (by omega) (iD (.ret0 a b (bp d)))
 |tret a b d f c=>have:=f.pos;simp only[eB]at *;exact wm (by constructor) a (by omega) (iD (.ret1 a b (aD λe=>by rcases e with e|e|e<;>(rw[e]at d;revert d;decide)) c (by omega) (by omega)))
 |ttry a b d f g l r v m C=>have:=d.pos;have:=r.pos;have:=v.pos;simp only[eB]at *;exact wm (by constructor) a b (iD (.try_ a b m f (by omega) (xw l g r) C (by omega) (by omega)))
 |tthrow a b d c=>have:=d.pos;simp only[eB]at *;exact wm (by constructor) a b (iD (.wthE a b (iD (.expr c)) (by omega) (by omega)))
 |tdefer a b d c=>have:=d.pos;simp only[eB]at *;exact wm (by constructor) a b (iD (.wthB a b c (by omega) (by omega)))
 |tblock a b d c=>exact wm (by constructor) a b c
 |tdo a b d f g l c=>
  have:=d.pos;simp only[eB]at *;rcases a with h|h
  .exact wm (by constructor) h b (iD (.do_ (.inl rfl) h b (Ep cfB c f l) g l (by omega)))
  .exact wm (by constructor) h b (iD (.do_ (.inr rfl) h b (Ep cfB c f l) g l (by omega)))
 |tset a b d f g l r m p u=>
  obtain⟨o,p⟩:=p;have:=d.pos;have:=f.pos;have:=r.pos;simp only[eB]at *;rcases a with h|h
  .exact wm (by constructor) h b (setP (.inl rfl) h b (ac3 cfB m p) g l u (by omega) (by omega))
  .exact wm (by constructor) h b (setP (.inr rfl) h b (ac3 cfB m p) g l u (by omega) (by omega))
def arl(b c a d e f:Ax)(w:B2):(Instr.field 46 (H1 #[b,c,a,d,e,f]) 2).run B4 w= .ok a w:=by kernel_rfl
def aqn{j:Nat}{R:Fo}(hS:CR E 34 #[pV E] i R j)(g:j<E.n):CN E 16 #[pV E] i (one ⟨1,0,(E.tk j).t,1,0,0,z0,[],[]⟩ R) j:=by
 intro s b h;have c:=Sw.start b;have m:=arl;simp only[di]at h;clear b;go_in;go_wp21
 refine(ac2 c hS).mono ?_;rintro f u ⟨k,q,l,r,rfl,a,o⟩;go_wp21
 refine(ahE a.pp g).mono ?_;rintro f v ⟨⟨p,_,rfl⟩,e⟩;have d:=sB a e;go_wp21
 go_ret;exact⟨_,rfl,KL d ⟨1,0,(E.tk j).t,1,0,0,z0,[],[]⟩ rfl rfl rfl rfl⟩
structure Fm (lo:Nat) (lb:Option Nat) (w w':B2):Prop where
 bl:B5 lo w w'
 at_:∀k cs t fr,w.heap[k]?=U (.cells cs t fr)->lb≠U k->w'.heap[k]?=U (.cells cs t fr)\/∃c u,t=xb c/\w'.heap[k]?=U (.cells (cs.setIfInBounds 4 (.int .i64 u)) t fr)
def arm(cs:Array Ax)(u v:Ax):(cs.setIfInBounds 4 u).setIfInBounds 4 v=cs.setIfInBounds 4 v:=by simp
def Fm.trans{lb c:Option Nat}{x m z:B2}(h:Fm lo lb x m)(k:Fm lo c m z)(p:∀g,c=U g->lb=U g\/x.heap.size<=g):Fm lo lb x z:=by
 refine⟨h.bl.trans k.bl,λa n q o f i=>?_⟩;have j:c≠U a:=λe=>by
  rcases p a e with e|e
  .exact i e
  .have:=aj f;omega
 rcases h.at_ a n q o f i with g|⟨d,r,l,g⟩
 .exact k.at_ a _ _ _ g j
 .rcases k.at_ a _ _ _ g j with b|⟨t,s,u,b⟩
  .exact .inr ⟨d,r,l,b⟩
  .rw[arm]at b;exact .inr ⟨d,s,l,b⟩
def Fm.of_below{c:B2}(b:B5 w.heap.size w c)(d:lo<=w.heap.size)(lb:Option Nat):Fm lo lb w c:=⟨b.mono d,λg e h f a _=> .inl ((b.block _ (aj a)).trans a)⟩
def gL{c:Nat}:xb c≠9/\xb c≠52/\xb c≠3/\xb c≠62:=by
 match c with
 |0=>decide
 |1=>decide
 |2=>decide
 |3=>decide
 |4=>decide
 |5=>decide
 |n+6=>exact⟨show 96≠9 by decide,show 96≠52 by decide,show 96≠3 by decide,show 96≠62 by decide⟩
section
variable {lo : Nat} {lb : Option Nat} {w w' : World}
def Fm.blk(h:Fm lo lb w w'){k:Nat}{cs:Array Ax}{t:E1}{fr:Nat×Nat}(d:w.heap[k]?=U (A0 cs t fr))(e:lb≠U k)(ht:∀c,t≠xb c):w'.heap[k]?=U (A0 cs t fr):=by
 rcases h.at_ k cs t fr d e with a|⟨c,f,b,_⟩
 .exact a
 .exact absurd b (ht c)
def Fm.row(h:Fm lo lb w w'){b e size:Nat}{xs:List Ax}(o:w.ownsRow b e size v n xs)(l:∀g,v.ownBlock=U g->lb≠U g)(ht:∀c,e≠xb c):w'.ownsRow b e size v n xs:=by
 obtain⟨i,a⟩:=o;refine⟨i,?_⟩;rcases a with a|⟨g,d,f,rfl,k,j,m⟩
 .exact .inl a
 .exact .inr ⟨g,d,f,rfl,k,h.blk j (l g rfl) ht,m⟩
def Fm.box(h:Fm lo lb w w'){d:Int}(c:gJ w b N vn d vk)(e:lb≠U b):∃f,gJ w' b N vn f vk:=by
 unfold gJ at c;rcases h.at_ b _ _ _ c e with a|⟨i,g,_,a⟩
 .exact⟨d,a⟩
 .exact⟨g,a⟩
def Fm.nodes(h:Fm lo lb w w')(j:∀g,lb=U g->∃cs t fr,w.heap[g]?=U (A0 cs t fr)/\t≠9/\t≠52/\∀c,t≠xb c):∀(R:Fo)(vs:List Ax)(f:List Nat){d:Nat}{a:Option Nat},th w d a R vs f->th w' d a R vs f
 | .nil,vs,f,d,a,q=>q
 | .cons N k r,vs,f,d,a,⟨b,af,vn,vk,kv,vs',bk,br,e,⟨s,u,m,v⟩,F,k1,H,I⟩=>by
  have nb:∀{g:Nat}{cs:Array Ax}{t:E1}{fr:Nat×Nat},w.heap[g]?=U (A0 cs t fr)->(t=9\/t=52\/∃c,t=xb c)->lb≠U g:=λ{g cs t fr} i ht e=>by
   obtain⟨K,ak,ad,q,z,A,B⟩:=j _ e;rw[i]at q;simp only[fi,jL]at q;obtain⟨_,rfl,_⟩:=q;rcases ht with ht|ht|⟨c,ht⟩
   .exact z ht
   .exact A ht
   .exact B c ht
  have n:∀{t:E1}{o:Ax}{p:List Ax},Rv w d a t o p->(t=9\/t=52)->(∀c,t≠xb c)->Rv w' d a t o p:=λl ht E=>⟨h.row l.1 (λg i=>by
   rcases l.1.2 with⟨rfl,_⟩|⟨y,J,L,rfl,_,C,_⟩
   .simp[A2]at i
   .obtain rfl:y=g:=by simpa [A2] using i
    exact nb C (by rcases ht with ht|ht;exact .inl ht;exact .inr (.inl ht))) E,l.2⟩
  obtain⟨G,x⟩:=h.box m (nb m (.inr (.inr ⟨_,rfl⟩)));exact⟨b,G,vn,vk,kv,vs',bk,br,e,⟨s,u,x,v⟩,n F (.inl rfl) (λc=>gL.1.symm),n k1 (.inr rfl) (λc=>gL.2.1.symm),Fm.nodes h j k kv bk H,Fm.nodes h j r vs' br I⟩
def Fm.num{g:Int}(a:gJ w b N vn g vk)(h:lo<=b)(u:Int)(lb:Option Nat):Fm lo lb w (w.setCell ⟨b,4,O⟩ (Y X u))/\gJ (w.setCell ⟨b,4,O⟩ (Y X u)) b N vn u vk:=by
 unfold gJ at a⊢;have d:(w.setCell ⟨b,4,O⟩ (Y X u)).heap[b]?=U (A0 (([Y X N.k,Y X N.f,Y X N.t,Y X N.l,Y X g,vk]++exT N vn (fC N.k)).toArray.setIfInBounds 4 (Y X u)) (xb (fC N.k)) (0,0)):=aL _ b 4 _ _ _ a;refine⟨⟨(ai _ w).setCell h _,λi j m k c _=>?_⟩,d⟩;by_cases e:i=b
 .subst e;rw[a]at c;cases c;exact .inr ⟨_,u,rfl,d⟩
 .exact .inl ((aC _ _ _ _ e).trans c)
end
def Fr(s:Nat)(v:Ax):Prop:=∀g,v.ownBlock=U g->s<=g
def Fr.le{s t:Nat}(h:Fr s v)(ht:t<=s):Fr t v:=λa b=>bG ht (h a b)
def LP(lo:Nat)(N:Nd)(ks:Fo)(w:B2)(v:Ax)(f:List Nat)(L:List Mb)(d:Ax)(e:Ending)(c:B2):Prop:=∃a M,e= B7 a/\Lw c lo a (L++M)/\M.map Mb.N=(one N ks).flat L.length/\(∀y,(M.flatMap λx=>x.vn.ownBlock.toList).count y<=f.count y)/\((∀x∈M,Fr w.heap.size x.vk)/\(M.flatMap λx=>x.vk.ownBlock.toList).Nodup)/\Fm lo d.ownBlock w c/\(∀g,a.ownBlock=U g->d.ownBlock=U g\/w.heap.size<=g)/\∃b h,v= A3 h (C2 (U ⟨b,0,O⟩))/\c.cell? ⟨b,4,O⟩=U (Y X ((L.length+ks.sz:Nat):Int))
def LC(lo:Nat)(N:Nd)(ks:Fo):Prop:=∀(w:B2)(v:Ax)(a:List Nat)(L:List Mb)(lv:Ax),th w lo O (one N ks) [v] a->Lw w lo lv L->lo<=w.heap.size->L.length+(one N ks).sz<=50000000->
 F0 B4 15 #[v,lv] w (LP lo N ks w v a L lv)
def LCs(lo:Nat):Fo->Prop
 | .nil=>True
 | .cons N k r=>LC lo N k/\LCs lo r
def kB(a:List Mb):List Nat:=a.flatMap λx=>x.vk.ownBlock.toList
def nB'(a:List Mb):List Nat:=a.flatMap λx=>x.vn.ownBlock.toList
structure Lj (lo:Nat) (w wr:B2) (N:Nd) (b rb:Nat) (vn vk lv lv1:Ax) (L M:List Mb) (ks D R':Fo) (kv us vs':List Ax) (bk bd br:List Nat) (tp:List Int) (ac:Option Addr) (nc cc:Nat):Prop where
 e1:D.app R'=ks
 e2:us++vs'=kv
 ln:us.length=D.len
 lc:LCs lo R'
 nr:th wr lo O R' vs' br
 pb:(bd++br).Perm bk
 lw:Lw wr lo lv1 (L++M)
 mf:M.map Mb.N=D.flat L.length
 mp:∀y,(nB' M).count y<=bd.count y
 mr:∀x∈M,Fr w.heap.size x.vk
 fm:Fm lo lv.ownBlock w wr
 lb:∀g,lv1.ownBlock=U g->lv.ownBlock=U g\/w.heap.size<=g
 rb:w.heap.size<=rb/\lv1.ownBlock≠U rb/\wr.heap[rb]?=U (.cells (wg N (tJ vn (fC N.k)) (.slice ac nc cc)) 62 (0,0))
 kr:wr.ownsRow w.heap.size 3 1 (.slice ac nc cc) nc (tp.map (A9 .i64))
 kd:(kB M++(A5 ac nc cc).ownBlock.toList).Nodup
 bx:∃num,gJ wr b N vn num vk
 vr:wr.ownsRow lo 52 1 vk kv.length kv
 lq:∀x∈L,∀g,x.vk.ownBlock=U g->g<w.heap.size
 nw:wr.ownsRow lo 9 1 vn (N.nm.map Z).length (N.nm.map Z)
section
variable {lo : Nat} {w wr w4 : World} {N N' : Nd} {b rb : Nat} {vn vk lv lv1 lv2 v : Value} {L M M2 : List Mb} {ks D k' r : Fo} {kv us vs' : List Value} {bk bd br : List Nat} {tp : List Int} {ac : Option Addr} {nc cc : Nat}
def aoa(a b:List Mb):kB (a++b)=kB a++kB b:=uK
def aob(a b:List Mb):nB' (a++b)=nB' a++nB' b:=uK
def pE{w:B2}{base e size:Nat}{v:Ax}{xs:List Ax}(o:w.ownsRow base e size v n xs)(a:v.ownBlock=U g):∃cs fr,w.heap[g]?=U (A0 cs e fr):=by
 rcases o.2 with⟨rfl,_⟩|⟨b,d,f,rfl,_,c,_⟩
 .simp[A2]at a
 .obtain rfl:b=g:=by simpa [A2] using a
  exact⟨_,_,c⟩
def Lj.kid(h:Lj lo w wr N b rb vn vk lv lv1 L M ks D (.cons N' k' r) kv us (v::vs') bk bd br tp ac nc cc)(k:Fm lo lv1.ownBlock wr w4)(af:Lw w4 lo lv2 ((L++M)++M2))(ak:M2.map Mb.N=(one N' k').flat (L++M).length){l:List Nat}(J:∃d,br=l++d/\th wr lo O r vs' d)(an:∀y,(nB' M2).count y<=l.count y)(q:∀x∈M2,Fr wr.heap.size x.vk)(F:(kB M2).Nodup)(p:∀g,lv2.ownBlock=U g->lv1.ownBlock=U g\/wr.heap.size<=g):∃d,Lj lo w w4 N b rb vn vk lv lv2 L (M++M2) ks (D.app (one N' k')) r kv (us++[v]) vs' bk (bd++l) d tp ac nc cc:=by
 obtain⟨d,rfl,al⟩:=J;have ad:=h.fm.bl.size;have t:∀g,lv1.ownBlock=U g->∃i j,wr.heap[g]?=U (A0 i 62 j):=λg a=>pE h.lw.row a;have z:∀{g:Nat}{i:Array Ax}{B:E1}{j:Nat×Nat},wr.heap[g]?=U (A0 i B j)->B≠62->lv1.ownBlock≠U g:=λa K e=>by
  obtain⟨ao,ap,c⟩:=t _ e;rw[a]at c;simp only[fi,jL]at c;exact K c.2.1
 have o:∀{u e size n:Nat}{C:Ax}{E:List Ax},wr.ownsRow u e size C n E->e≠62->(∀f,e≠xb f)->w4.ownsRow u e size C n E:=λA G H=>k.row A (λg a=>by obtain⟨i,j,c⟩:=pE A a;exact z c G) H;have I:(L++M).length=L.length+D.sz:=by
  have e:=congrArg List.length h.mf;rw[bi,Fo.flat_len]at e;rw[aJ,e]
 obtain⟨au,s⟩:=h.bx;have ar:=aj h.rb.2.2;refine⟨d,?_,?_,?_,h.lc.2,k.nodes (λg a=>by obtain⟨i,j,c⟩:=t g a;exact⟨i,_,j,c,by decide,by decide,λf=>gL.2.2.2.symm⟩) _ _ _ al,?_,by rw[<-cg];exact af,?_,?_,?_,h.fm.trans k h.lb,?_,⟨h.rb.1,?_,k.blk h.rb.2.2 h.rb.2.1 (λf=>gL.2.2.2.symm)⟩,o h.kr (by decide) (λf=>gL.2.2.1.symm),?_,k.box s (z s gL.2.2.2),o h.vr (by decide) (λf=>gL.2.1.symm),h.lq,o h.nw (by decide) (λf=>gL.1.symm)⟩
 .rw[Fo.app_app];exact h.e1
 .rw[cg];exact h.e2
 .rw[aJ,Fo.len_app,h.ln];rfl
 .rw[cg];exact h.pb
 .rw[dK,h.mf,ak,Fo.flat_app,I]
 .intro y;have av:=h.mp y;have ax:=an y;rw[aob,Gk,Gk];omega
 .intro x hx;rcases List.mem_append.1 hx with hx|hx
  .exact h.mr x hx
  .exact(q x hx).le ad
 .intro g a;rcases p g a with e|e
  .exact h.lb g e
  .exact .inr (by omega)
 .intro e;rcases p rb e with e|e
  .exact h.rb.2.1 e
  .omega
 .rw[aoa];refine nd3 (n:=wr.heap.size) h.kd F (λx hx=>?_) (λx hx=>?_)
  .rcases List.mem_append.1 hx with hx|hx
   .obtain⟨y,m,hx⟩:=List.mem_flatMap.1 hx;exact((h.lw.each y (Gm _ m)).2.lt x (by simpa using hx)).2
   .exact(h.kr.lt x (by simpa using hx)).2
  .obtain⟨y,m,hx⟩:=List.mem_flatMap.1 hx;exact q y m x (by simpa using hx)
def Lj.put{ad:Fo}{o:Obj}{s:Nat}{m:B2}(h:Lj lo w wr N b rb vn vk lv lv1 L M ks D ad kv us vs' bk bd br tp ac nc cc)(an:m.ownsRow w.heap.size 3 1 (V (U ⟨g,0,O⟩) (nc+1) s) (nc+1) ((tp++[z]).map (A9 X)))(n:(wr.alloc o).grownBy m (A5 ac nc cc).ownBlock)(ap:(A5 ac nc cc).ownBlock=U g\/g=(wr.alloc o).heap.size)(C:lo<=w.heap.size):Lj lo w (m.setCell ⟨rb,8,O⟩ (V (U ⟨g,0,O⟩) (nc+1) s)) N b rb vn vk lv lv1 L M ks D ad kv us vs' bk bd br (tp++[z]) (U ⟨g,0,O⟩) (nc+1) s:=by
 have al:=h.fm.bl.size;have au:=(dE wr o).size;have H:∀c,(A5 ac nc cc).ownBlock=U c->w.heap.size<=c:=λc a=>(h.kr.lt c a).1;have x:Fm lo (A5 ac nc cc).ownBlock wr m:=⟨((dE wr o).mono (bG C al)).trans ((ai lo (wr.alloc o)).grown n (bG C (bG al au)) (λc a=>bG C (H c a))),λc j t k a F=> .inl ((n.block c (by have:=aj a;omega) (λe=>F e.symm)).trans (((dE wr o).block c (aj a)).trans a))⟩;have E:∀{c:Nat}{j:Array Ax}{t:E1}{k:Nat×Nat},wr.heap[c]?=U (A0 j t k)->t≠3->(A5 ac nc cc).ownBlock≠U c:=λa G e=>gq h.kr a G e;have I:=x.blk h.rb.2.2 (E h.rb.2.2 (by decide)) (λi=>gL.2.2.2.symm);have y:Fm lo (U rb) m (m.setCell ⟨rb,8,O⟩ (V (U ⟨g,0,O⟩) (nc+1) s)):=⟨(ai lo m).setCell (show lo<=(⟨rb,8,O⟩:Addr).block from bG C h.rb.1) _,λc j t k a F=> .inl ((aC _ _ _ _ (λe=>F (by rw[e]))).trans a)⟩;have ao:∀{c:Nat}{j:Array Ax}{t:E1}{k:Nat×Nat},m.heap[c]?=U (A0 j t k)->t≠62->U rb≠U c:=λa G e=>by
  cases e;rw[I]at a;simp only[fi,jL]at a;exact G a.2.1.symm
 have J:∀{p e size q:Nat}{l:Ax}{r:List Ax},wr.ownsRow p e size l q r->(∀g,l.ownBlock=U g->(A5 ac nc cc).ownBlock≠U g)->(∀g,l.ownBlock=U g->g≠rb)->(∀i,e≠xb i)->(m.setCell ⟨rb,8,O⟩ (V (U ⟨g,0,O⟩) (nc+1) s)).ownsRow p e size l q r:=λf u A B=>y.row (x.row f u B) (λg n e=>A g n (by cases e;rfl)) B;have K:∀{p e size q:Nat}{l:Ax}{r:List Ax},wr.ownsRow p e size l q r->e≠3->e≠62->(∀i,e≠xb i)->(m.setCell ⟨rb,8,O⟩ (V (U ⟨g,0,O⟩) (nc+1) s)).ownsRow p e size l q r:=λf u A B=>J f (λg n=>by obtain⟨j,k,d⟩:=pE f n;exact E d u) (λg n e=>by obtain⟨j,k,d⟩:=pE f n;rw[e,h.rb.2.2]at d;simp only[fi,jL]at d;exact A d.2.1.symm) B;have ax:∀{p q:Nat}{l:Ax}{r:List Ax},wr.ownsRow p 3 1 l q r->(∀g,l.ownBlock=U g->(A5 ac nc cc).ownBlock≠U g)->(m.setCell ⟨rb,8,O⟩ (V (U ⟨g,0,O⟩) (nc+1) s)).ownsRow p 3 1 l q r:=λf u=>J f u (λg n e=>by obtain⟨j,k,d⟩:=pE f n;rw[e,h.rb.2.2]at d;simp only[fi,jL]at d;exact absurd d.2.1 (by decide)) (λi=>gL.2.2.1.symm);obtain⟨a2,af⟩:=h.bx;obtain⟨a3,ak⟩:=x.box af (E af gL.2.2.1);refine⟨h.e1,h.e2,h.ln,h.lc,y.nodes (λc a=>by cases a;exact⟨_,_,_,I,by decide,by decide,λi=>gL.2.2.2.symm⟩) _ _ _ (x.nodes (λc a=>by obtain⟨j,k,d⟩:=pE h.kr a;exact⟨_,_,_,d,by decide,by decide,λi=>gL.2.2.1.symm⟩) _ _ _ h.nr),h.pb,⟨J h.lw.row (λc a=>by obtain⟨j,k,d⟩:=pE h.lw.row a;exact E d (by decide)) (λc a e=>h.rb.2.1 (by rw[<-e];exact a)) (λi=>gL.2.2.2.symm),λv hx=>⟨K (h.lw.each v hx).1 (by decide) (by decide) (λi=>gL.1.symm),ax (h.lw.each v hx).2 (λc a e=>?_)⟩⟩,h.mf,h.mp,h.mr,(h.fm.trans x (λc a=> .inr (H c a))).trans y (λc a=> .inr (by cases a;exact h.rb.1)),h.lb,⟨h.rb.1,h.rb.2.1,aL _ rb 8 _ _ _ I⟩,?_,?_,y.box ak (ao ak gL.2.2.2),K h.vr (by decide) (by decide) (λi=>gL.2.1.symm),h.lq,K h.nw (by decide) (by decide) (λi=>gL.1.symm)⟩
 .rcases List.mem_append.1 hx with hx|hx
  .have:=h.lq v hx c a;have:=H c e;omega
  .have f:=List.nodup_append.1 h.kd;exact f.2.2 c (List.mem_flatMap.2 ⟨v,hx,by simp[a]⟩) c (by simp[e]) rfl
 .exact y.row an (λc a=>by obtain⟨j,k,d⟩:=pE an a;exact ao d (by decide)) (λi=>gL.2.2.1.symm)
 .rcases ap with e|e
  .have f:=h.kd;rw[e]at f;exact f
  .have f:=(List.nodup_append.1 h.kd).1;rw[qw];refine⟨f,It _,λv hx a1 av=>?_⟩;obtain⟨a0,ar,hx⟩:=List.mem_flatMap.1 hx;have u:=((h.lw.each a0 (Gm _ ar)).2.lt v (by simpa using hx)).2;have A:a1=g:=by simpa [A2] using av
   omega
def arn:∀(c:Nat),oy N c=N->w.ownsRow lo 9 1 vn (N.nm.map Z).length (N.nm.map Z)->w.ownsRow lo 9 1 (tJ vn c) N.nm.length (N.nm.map Z)/\∀y,(tJ vn c).ownBlock.toList.count y<=vn.ownBlock.toList.count y
 |0,_,o=>⟨by rw[bi]at o;exact o,λy=>ag _⟩
 |5,_,o=>⟨by rw[bi]at o;exact o,λy=>ag _⟩
 |1,e,_|2,e,_|3,e,_|4,e,_|n+6,e,_=>by
  have h:[]=N.nm:=congrArg Nd.nm e;rw[<-h];exact⟨eI _ _ _ _,λy=>by simp[tJ,A2]⟩
def Lj.fin{u:Int}{o:Obj}{m:Nat}{e:B2}(h:Lj lo w wr N b rb vn vk lv lv1 L M ks ks .nil kv us [] bk bd [] (ks.tops L.length) ac nc cc)(ad:lo<=b)(K:oy N (fC N.k)=N)(al:lo<=w.heap.size)(ao:nc=ks.len)(ar:u=((L.length+ks.sz:Nat):Int))(au:e.ownsRow lo 62 9 (V (U ⟨g,0,O⟩) ((L++M).length+1) m) ((L++M).length+1) (lL ((L++M)++[⟨{N with ks:=ks.tops L.length},tJ vn (fC N.k),V ac nc cc⟩])))(d:((wr.setCell ⟨b,4,O⟩ (Y X u)).alloc o).grownBy e lv1.ownBlock)(A:lv1.ownBlock=U g\/g=((wr.setCell ⟨b,4,O⟩ (Y X u)).alloc o).heap.size)(t:E1):
  ∃M',Lw e lo (V (U ⟨g,0,O⟩) ((L++M).length+1) m) (L++M')/\M'.map Mb.N=(one N ks).flat L.length/\(∀y,(M'.flatMap λx=>x.vn.ownBlock.toList).count y<=(vn.ownBlock.toList++(bk++[])).count y)/\((∀x∈M',Fr w.heap.size x.vk)/\(M'.flatMap λx=>x.vk.ownBlock.toList).Nodup)/\Fm lo lv.ownBlock w e/\(∀k,(A5 (U ⟨g,0,O⟩) ((L++M).length+1) m).ownBlock=U k->lv.ownBlock=U k\/w.heap.size<=k)/\∃v a2,Value.iface t (C2 (U ⟨b,0,O⟩))= A3 a2 (C2 (U ⟨v,0,O⟩))/\e.cell? ⟨v,4,O⟩=U (Y X ((L.length+ks.sz:Nat):Int)):=by
 have a5:=h.fm.bl.size;obtain⟨a7,af⟩:=h.bx;obtain⟨i,j⟩:=Fm.num (lo:=lo) af ad u O;generalize a6:wr.setCell ⟨b,4,O⟩ (Y X u)=w5 at i j d A;have a3:=(dE w5 o).size;have a4:=i.bl.size;have H:=i.row h.lw.row (λ_ _=>by simp) (λf=>gL.2.2.2.symm);have E:∀{k:Nat}{n:Array Ax}{t:E1}{p:Nat×Nat},w5.heap[k]?=U (A0 n t p)->t≠62->lv1.ownBlock≠U k:=λc ap a=>gq H c ap a;have ak:∀k,lv1.ownBlock=U k->lo<=k:=λk c=>(h.lw.row.lt k c).1;have s:Fm lo lv1.ownBlock w5 e:=⟨((dE w5 o).mono (by omega)).trans ((ai lo (w5.alloc o)).grown d (by omega) ak),λk n t p c an=> .inl ((d.block k (by have:=aj c;omega) (λa=>an a.symm)).trans (((dE w5 o).block k (aj c)).trans c))⟩;have l:∀{B a size C:Nat}{u:Ax}{G:List Ax},wr.ownsRow B a size u C G->a≠62->(∀f,a≠xb f)->e.ownsRow B a size u C G:=λq J z=>by
  have F:=i.row q (λ_ _=>by simp) z;exact s.row F (λg d=>by obtain⟨n,p,av⟩:=pE F d;exact E av J) z
 have I:=(d.block b (by have:=aj j;omega) (λa=>E j gL.2.2.2 a.symm)).trans (((dE w5 o).block b (aj j)).trans j);obtain⟨a0,a1⟩:=arn (fC N.k) K (l h.nw (by decide) (λf=>gL.1.symm));refine⟨M++[⟨{N with ks:=ks.tops L.length},tJ vn (fC N.k),V ac nc cc⟩],⟨?_,λx hx=>?_⟩,?_,λy=>?_,⟨λx hx=>?_,?_⟩,(h.fm.trans (i:Fm lo O wr w5) (λk c=>by cases c)).trans s h.lb,λk c=>?_,b,t,rfl,?_⟩
 .rw[<-cg];have a:∀(r:List Mb)(x:Mb),(r++[x]).length=r.length+1:=λr x=>by simp
  rw[a (L++M)];exact au
 .rw[<-cg]at hx;rcases List.mem_append.1 hx with hx|hx
  .exact⟨l (h.lw.each x hx).1 (by decide) (λf=>gL.1.symm),l (h.lw.each x hx).2 (by decide) (λf=>gL.2.2.1.symm)⟩
  .obtain rfl:=List.mem_singleton.1 hx;refine⟨a0,?_⟩;have q:=qL (l h.kr (by decide) (λf=>gL.2.2.1.symm)) al;show e.ownsRow lo 3 1 _ (ks.tops L.length).length _;rw[Fo.tops_len,<-ao];exact q
 .rw[dK,h.mf,yh];rfl
 .have a8:=h.mp y;have ax:=h.pb.count_eq y;have a9:=a1 y;have a:(List.flatMap (λx=>x.vn.ownBlock.toList) (M++[(⟨{N with ks:=ks.tops L.length},tJ vn (fC N.k),V ac nc cc⟩:Mb)]))=nB' M++((tJ vn (fC N.k)).ownBlock.toList++[]):=uK;rw[a];simp only[dr,Gk]at ax⊢;omega
 .rcases List.mem_append.1 hx with hx|hx
  .exact h.mr x hx
  .obtain rfl:=List.mem_singleton.1 hx;exact λg d=>(h.kr.lt g d).1
 .have q:=h.kd;have a:(List.flatMap (λx=>x.vk.ownBlock.toList) (M++[(⟨{N with ks:=ks.tops L.length},tJ vn (fC N.k),V ac nc cc⟩:Mb)]))=kB M++((A5 ac nc cc).ownBlock.toList++[]):=uK;rw[a,dr];exact q
 .obtain rfl:g=k:=by simpa [A2] using c
  rcases A with q|q
  .exact h.lb g q
  .exact .inr (by omega)
 .rw[am _ _ _ _ _ _ I,ar];rfl
end
def AK{ks:Fo}(fg:LCs lo ks):LC lo N ks:=by
 intro n v g8 f hB ct K a6 cB;obtain⟨p,ek,hK,hJ,a7,F,a0,bt,⟨eL,bD⟩,⟨dn,g0,dq,ds⟩,ei,eg,em,gs⟩:=ct;obtain⟨rfl,rfl⟩:=gs;obtain rfl:=(kD eL).1;obtain⟨bo,bA,rfl⟩:=bJ ei.1;obtain⟨bn,bw,rfl⟩:=bJ K.row;obtain⟨bj,cq,rfl⟩:=bJ eg.1;have fk:=Cl.len _ _ ⟨a0,em⟩;have b6:=λn=>FC (fC N.k) p n;have f8:=λn=>fJ p n;obtain⟨H,ao,J,b7⟩:∃ew d d1,tJ (.slice bo (N.nm.map Z).length bA) (fC N.k)= .slice ew d d1:=by unfold tJ;split<;>exact⟨_,_,_,rfl⟩
 have af:=FE n p N _ _ ek ⟨_,_,_,rfl⟩ dq;rw[ds,b7]at af;unfold jl at af;unfold gg at af⊢;generalize ho:po (fC N.k)=gp at af b6⊢;have y:=aq dq;obtain⟨d,L⟩:=aF a7.length;obtain⟨E,a5⟩:=aF f.length;have hl:d<=50000000:=by have:=ks.len_le;rw[di]at cB;omega
 rw[L]at y;rw[a5];go_in;go_wp2_with (go_at_call 303;refine ft (f8 _) ?_);refine af.mono ?_;rintro e k ⟨rfl,I⟩;have fd:∀o,(k.alloc o).cell? ⟨p,5,O⟩=U (.slice bj d cq):=λo=>by
  have a:=((dE k o).block _ (ip (aj y) I.size)).trans ((I.block _ (aj y)).trans y);rw[am _ _ _ _ _ _ a];rfl
 have ec:=dE k (.cells (wg N (.slice H ao J) (.slice O 0 0)) 62);have t:=I.trans (ec.mono I.size);have dc:B3 (Lj lo n (k.alloc (.cells (wg N (.slice H ao J) (.slice O 0 0)) 62)) N p k.heap.size (.slice bo (N.nm.map Z).length bA) (.slice bj d cq) (.slice bn E bw) (.slice bn E bw) f [] ks .nil ks a7 [] a7 a0 [] a0 [] O 0 0):=by
  refine⟨rfl,rfl,rfl,fg,th.mono (λf7 e3 e4 e5=>⟨t.block f7 e5,e3,e4⟩) _ _ _ em,List.Perm.refl _,?_,rfl,λh4=>ag _,λbf ad=>(by cases ad),Fm.of_below t a6 _,λg cw=> .inl cw,⟨I.size,λe=>?_,by rw[b7];exact aB k _⟩,eI _ _ _ _,by simp[kB,A2],⟨ek,(t.block _ (aj y)).trans y⟩,by have:=cJ eg.1 t;rw[L]at this⊢;exact this,λbf ad g cw=>((K.each bf ad).2.lt g cw).2,cJ ei.1 t⟩
  .rw[dr];exact⟨by have:=cJ K.row t;rw[a5]at this⊢;exact this,λbf ad=>⟨cJ (K.each bf ad).1 t,cJ (K.each bf ad).2 t⟩⟩
  .have:=(K.row.lt _ (by rw[a5];exact e)).2;have:=I.size;omega
 go_wp2_with fail;clear af t ec fd;go_loopw [1,18] (λgu da wr=>∃(a:Nat) (D av:Fo) (a9 F:List Ax) (ce bt:List Nat) (j:List Mb) (cd:Option Addr) (x cf:Nat) (ac:Option Addr) (l:Nat),gu= .slice cd x cf/\da= .int .i64 a/\a<=d/\a9.length=a/\B3 (Lj lo n wr N p k.heap.size (.slice bo (N.nm.map Z).length bA) (.slice bj d cq) (.slice bn E bw) (.slice cd x cf) f j ks D av a7 a9 F a0 ce bt (D.tops E) ac a l)) (λ_ da _=>d-(B1 da).toNat)
 case atStart=>exact⟨0,.nil,ks,[],a7,[],a0,[],bn,E,bw,O,0,rfl,rfl,aI _,rfl,dc⟩
 case round=>
  clear dc;obtain⟨a,D,av,a9,F,ce,bt,j,cd,x,cf,ac,l,rfl,rfl,hr,cF,b⟩:=hrel;by_cases hf:a<d
  .have fq:a9.length+F.length=d:=by rw[<-L,<-b.out.e2,aJ]
   obtain⟨v,au,rfl⟩:∃v au,F=v::au:=by
    cases F with
    |nil=>simp at fq;omega
    |cons v au=>exact⟨v,au,rfl⟩
   cases av with
   |nil=>have:=b.nr.1;cases this
   |cons r B b9=>
    obtain⟨s,el,ba,eo,eh,gv,a3,d0,⟨bE,d3⟩,d6,d7,d8,d9,ea⟩:=b.nr;obtain⟨rfl,rfl⟩:=kD bE;obtain⟨g,rfl⟩:∃g,bj=U ⟨g,0,O⟩:=by
     have o:=b.vr;rw[L]at o;rcases bB o with⟨hd,_⟩|⟨g,hb,cI⟩
     .omega
     .exact⟨g,(abt cI).1⟩
    have d2:wr.cell? ⟨g,a,O⟩=U (gg r.k s):=by
     have:=b.vr.cells (g:=g) rfl a (gg r.k s) (by rw[<-b.out.e2,gh (by omega),cF,fG];rfl);have fb:(⟨g,0,O⟩:Addr).add a=⟨g,a,O⟩:=by unfold Addr.add;split<;>simp_all
     rw[fb]at this;exact this
    have e8:B3 (th wr lo O (one r B) [gg r.k s] (ba.ownBlock.toList++(a3++[]))):=⟨s,el,ba,eo,eh,[],a3,[],⟨rfl,rfl⟩,d6,d7,d8,d9,rfl,rfl⟩;have e6:B3 (∃bv,bt=(ba.ownBlock.toList++(a3++[]))++bv/\th wr lo O b9 au bv):=⟨d0,by rw[d3];simp,ea⟩;have fu:=λn=>FC (fC r.k) s n;have f9:=λn=>fJ s n;have b0:(f++j).length=f.length+D.sz:=by
     have e:=congrArg List.length b.mf;rw[bi,Fo.flat_len]at e;rw[aJ,e]
    have hw:D.sz+(B.sz+1+b9.sz)=ks.sz:=by have e:=congrArg Fo.sz b.e1;rw[Fo.sz_app]at e;exact e
    have er:=aq b.lc.1;have fr:=bG a6 b.fm.bl.size;clear d6 d7 d8 d9 ea bE d3;have cu:=e8;unfold gg at d2 cu;generalize hp:po (fC r.k)=gr at d2 cu fu;have hs:(0:Int)<=(a:Int):=by omega
    have ht:(a:Int)<(d:Int):=by omega
    go_wp2_with fail;refine(er wr _ _ (f++j) _ cu b.lw fr (by rw[b0,di];rw[di]at cB;omega)).mono ?_;rintro e q ⟨hE,dg,rfl,c9,ge,gn,⟨d5,eF⟩,ff,dx,g6,hH,cI,fB⟩;obtain⟨ey,eA,rfl⟩:=bJ c9.row;cases cI;generalize fv:((f++j)++dg).length=gd at c9 dx⊢;clear fv;obtain⟨bv,dd⟩:=b.kid ff c9 ge e6 gn d5 eF dx;have G:=aq dd;clear dd;have a8:q.drew.cell? ⟨k.heap.size,8,O⟩=U (.slice ac a l):=by have m:=G.rb.2.2;show q.cell? _=_;rw[am _ _ _ _ _ _ m];rfl
    have fA:q.drew.cell? ⟨s,4,O⟩=U (.int .i64 (((f++j).length+B.sz:Nat):Int)):=fB;generalize f6:((((f++j).length+B.sz:Nat)):Int)=z at fA;go_wp2_with fail;refine H0 (S:=λ_=>True) (by kernel_rfl) trivial (λhS=>?_);simp only[ir,bm,ej,Nat.reduceAdd,jb,jp,jq,eu,ez];refine dF 0 (.pointer (U ⟨k.heap.size,8,O⟩)) rfl rfl (by kernel_rfl) (λ_ _ _=>id) hS (λep ef=>by go_simp) ?_;simp only[E2];refine dF 2 (.iface gr (.pointer (U ⟨s,0,O⟩))) rfl rfl (by kernel_rfl) (λ_ _ _=>id) hS (λep ef=>by go_simp) ?_;simp only[E2];refine rF (S:=λev=>ev.cell? ⟨k.heap.size,8,O⟩=U (.slice ac a l)) (C:=λA=>!(A==8||A==9||A==10)) (i:=1) (v:= .slice ac a l) rfl (xD (by kernel_rfl)) (λ_ _ _ ct=>ct) ?hC _ _ _ _ (xF rfl (by kernel_rfl)) (List.contains_iff_mem.1 (by kernel_rfl)) (Or.inl ⟨by rfl,λep ef=>by go_simp⟩) hS a8 ?_
    case hC=>
     intro A hG ed w;simp only[Bool.not_eq_false',ve,jB]at w;rcases w with(rfl|rfl)|rfl
     .obtain rfl:=bc ed;exact⟨{on:=1,ground:=Ground.data},by simp,rfl,rfl⟩
     all_goals
      obtain rfl:=bc ed;exact⟨{on:=1,ground:=Ground.phase},by simp,rfl,rfl⟩
    simp only[Act.put,cm,co,cC];refine fh (i:=3) (by kernel_rfl) rfl (λh c=>?_);go_simp;refine ft (f9 _) ?_;refine c _ _ trivial (λ_=>a8) ?_;clear c h;try simp only[cm,co,cC]
    refine fh (i:=4) (by kernel_rfl) rfl (λh c=>?_);go_simp;refine c _ _ trivial (λ_=>a8) ?_;clear c h;try simp only[cm,co,cC]
    refine fh (i:=5) (by kernel_rfl) rfl (λh c=>?_);go_simp;refine c _ _ trivial (λ_=>a8) ?_;clear c h;try simp only[cm,co,cC]
    refine fh (i:=6) (by kernel_rfl) rfl (λh c=>?_);go_simp;refine c _ _ trivial (λ_=>a8) ?_;clear c h;try simp only[cm,co,cC]
    refine fh (i:=7) (by kernel_rfl) rfl (λh c=>?_);go_simp;have m:=G.rb.2.2;have gb:∀o,(q.alloc o).cell? ⟨k.heap.size,8,O⟩=U (.slice ac a l):=λo=>by rw[am _ _ _ _ _ _ (((dE q o).block _ (aj m)).trans m)];rfl
    refine c _ _ trivial (λ_=>gb _) ?_;clear c h;try simp only[cm,co,cC]
    obtain⟨c0,c3,c6,c7,c8⟩:=eD ahB;have f5:=G.fm.bl.size;refine fh (i:=8) (by kernel_rfl) rfl (λh c=>?_);refine step_append_lies _ (by rfl) _ _ 60 (by rfl) n.heap.size 3 c0 _ 1 8 Tryz.underlying60 c3 c6 c7 c8 rfl (by decide) (.slice ac a l) a _ (by rfl) (cJ G.kr (bH (dE q (.cells #[.int .i64 z] 3)))) ⟨q.heap.size,0,O⟩ 1 1 [.int .i64 z] (by rfl) rfl (Br (aB q _)) (by intro gt b8;rw[List.mem_singleton.1 b8];rfl) (by decide) (by unfold F2;omega) (by omega) (bG f5 (dE q (.cells #[.int .i64 z] 3)).size) _ rfl ?_;intro cs cp ca ap u a4 fo;have cy:(q.alloc (.cells #[.int .i64 z] 3)).grownBy ca (A5 ac a l).ownBlock:=⟨u.os,u.tape,u.output,u.size,u.block⟩;have df:=G.put (z:=z) (o:= .cells #[.int .i64 z] 3) (by rw[dK];exact ap) cy a4 a6;have en:=(cy.block _ (by have:=aj m;rw[de];omega) (λe=>gq G.kr m (by decide) e.symm)).trans (((dE q (.cells #[.int .i64 z] 3)).block _ (aj m)).trans m);have hz:ca.cell? ⟨k.heap.size,8,O⟩=U (.slice ac a l):=by rw[am _ _ _ _ _ _ en];rfl
    have hA:∀A,ca.frozen? ⟨k.heap.size,A,O⟩=B0:=λA=>ch _ _ _ _ _ en;have es:=aq df;clear df ap u cy a4 fo;refine c _ _ trivial (λw=>by cases w) ?_;clear c h;simp only[Act.put,cm,co,cC];refine fh (i:=9) (by kernel_rfl) rfl (λh c=>?_);go_simp;refine c _ _ trivial (λw=>by cases w) ?_;clear c h;try simp only[cm,co,cC]
    refine fh (i:=10) (by kernel_rfl) rfl (λh c=>?_);go_simp;refine c _ _ trivial (λw=>by cases w) ?_;clear c h;refine uk (by kernel_rfl) ?_ _;go_wp2_with fail;refine⟨⟨a+1,D.app (one r B),b9,a9++[gg r.k s],au,ce++(ba.ownBlock.toList++(a3++[])),bv,j++dg,ey,gd,eA,U ⟨cs,0,O⟩,cp,rfl,by go_num,by omega,by rw[aJ,cF];rfl,?_⟩,by simp[B1];omega⟩;have e:(D.app (one r B)).tops E=D.tops E++[z]:=by rw[Fo.tops_app,<-f6,b0,a5];rfl
    rw[e];exact es
  .have fF:d=a:=by omega
   subst fF;have b0:(f++j).length=f.length+D.sz:=by
    have e:=congrArg List.length b.mf;rw[bi,Fo.flat_len]at e;rw[aJ,e]
   have f3:F=[]:=by
    have e:=congrArg List.length b.e2;rw[aJ,cF,L]at e;exact jK (by omega)
   subst f3;have e9:av= .nil:=by
    cases av with
    |nil=>rfl
    |cons r B b9=>obtain⟨s,el,ba,eo,eh,gv,a3,d0,⟨bE,_⟩,_⟩:=b.nr;cases bE
   subst e9;obtain⟨_,rfl⟩:=b.nr;have e7:D=ks:=by have e:=b.e1;rw[Fo.app_nil]at e;exact e
   subst e7;obtain⟨gz,g9,ee⟩:=bJ b.lw.row;have cz:B3 (x=(f++j).length):=(abt ee).2.1;clear ee;have fz:B3 (d=D.len):=by show d=_;rw[<-L];exact fk
   subst a5;have eq:=aq bD;clear bD;have hi:x<=50000000:=by have:=cz.out;rw[di]at cB;omega
   obtain⟨gf,b5⟩:=b.bx;have he:=aj y.out;have m:=b.rb.2.2;have hy:=b.rb.1;rw[b7]at m;have ha:wr.cell? ⟨p,4,O⟩=U (.int .i64 gf):=by rw[am _ _ _ _ _ _ b5];rfl
   have d5:wr.frozen? ⟨p,4,O⟩=B0:=ch _ _ _ _ _ b5;have eb:(wr.setCell ⟨p,4,O⟩ (.int .i64 (x:Int))).heap[k.heap.size]?=_:=(aC _ _ _ _ (by show k.heap.size≠p;omega)).trans m;obtain⟨ax,cv⟩:=aF (wr.setCell ⟨p,4,O⟩ (.int .i64 (x:Int)));rw[cv]at eb;obtain⟨h5,h6,h7,h9,ia,ib,ih,ii,iy,i1⟩:=be eb;have hh:¬(d:Int)<(d:Int):=by omega
   have bh:=(Fm.num (lo:=lo) b5 dn (x:Int) O).1;rw[cv]at bh;have cb:=bh.row b.lw.row (λ_ _=>by simp) (λd1=>gL.2.2.2.symm);have fn:lo<=ax.heap.size:=bG a6 (bG b.fm.bl.size bh.bl.size);rw[<-cz.out]at cb;have gm:=cJ cb (dE ax (.cells (wg N (.slice H ao J) (.slice ac d l)) 62));have f0:=(dE ax (.cells (wg N (.slice H ao J) (.slice ac d l)) 62)).size;obtain⟨c0,c3,c6,c7,c8⟩:=eD yA;clear b6 b5 m bh cb;go_wp2_with (at_builtin;refine G2 _ rfl _ _ 24 rfl lo 62 c0 _ 9 112 Tryz.underlying24 c3 c6 c7 c8 rfl (by decide) _ _ _ rfl gm ⟨ax.heap.size,0,O⟩ 1 1 (wg N (.slice H ao J) (.slice ac d l)).toList rfl rfl (Br (aB ax _)) (by intro gt b8;simp at b8;rcases b8 with rfl|rfl|rfl|rfl|rfl|rfl|rfl|rfl|rfl<;>rfl) (by unfold F2;omega) (by omega) (bG fn f0) ?_;intro hI ca ap u _ a4;obtain⟨cs,cp,rfl⟩:=F1 ap);go_ret;have e0:lL (f++j)++(wg N (.slice H ao J) (.slice ac d l)).toList=lL ((f++j)++[⟨{N with ks:=D.tops f.length},tJ (.slice bo (N.nm.map Z).length bA) (fC N.k),.slice ac d l⟩]):=by rw[rA (f++j),b7];show _=lL (f++j)++(cMb _++[]);rw[dr];rfl
   rw[e0]at ap;have b6:=cz.out;subst b6;rw[<-cv]at u a4;obtain⟨et,a⟩:=b.fin dn ds a6 fz (by rw[b0]) ap u (by rcases a4 with e|e;exact .inl e.symm;exact .inr (by simpa [A2] using e)) gp;have bD:=eq.out;subst bD;exact(show LP _ _ _ _ _ _ _ _ _ _ from⟨.slice (U ⟨cs,0,O⟩) ((f++j).length+1) cp,et,rfl,a⟩)
