import Derived.Test.YtiaechpcebhcdaaGreatDoorHYk10
import Derived.Test.YtiaechpcebhcdaaGreatDoorHYk07
import Derived.Test.YtiaechpcebhcdaaGreatDoorHYk13
set_option linter.all false
set_option maxRecDepth 100000
set_option maxHeartbeats 12800000
open List renaming length->M
open Bool renaming false->Q,true->V
open Go.Value renaming int->S,slice->A0,string->A2,agg->A3,bool->A5
open Go.IntKind renaming i64->T
open Go.Proofs.Tryz renaming prog->W
open Go.Ending renaming returned->X
open Go.RowKit renaming Below->Y,intOf->Ax
namespace Go.Proofs.YtiaechpcebhcdaaGreatDoor
open Go.RowKit
variable{N:Nd}{ns:List Nd}{vt:Value}{w:World}
def bgC(c k:Int):Bool:=decide ((k=1/\aJ c=V)\/((k=2\/k=3)/\aC c=V)\/(k=4/\c=34))
def bgT(x:Bz)(k:Int):Bool:=decide (x.size<=(eI k).size)&&(((eI k).extract 0 x.size).toList==x.toList)
def bgL(x:Bz):List Int->Bool
 |[]=>Q
 |k::r=>if bgC (ae x 0) k=V then V else if bgT x k=V then V else bgL x r
def jI(ks:List Int)(x:Bz):Bool:=if x.size=1/\ae x 0=45 then V else bgL x ks
structure apa (x:Bz) (ks:List Int) (R:Bool):Prop where
 out:bgL x ks=R
theorem aak(w:World)(v:Value)(ks:List Int)(x:Bz)(h:dz w v ks)(av:M ks<=1000)(an:0<x.size)(ba:x.size<=70000):
  Calls W 143 #[v,A2 x] w λe d=>e= X (A5 (jI ks x))/\Y w.heap.size w d:=by
 have E:=λw=>dx an w;rw[show(((0:Nat):Int))=0 from rfl]at E;obtain⟨a3,a5,rfl⟩:=h.form;unfold jI;by_cases l:x.size=1/\ae x 0=45
 .rw[ab l];rw[l.2]at E;have bb:=l.1;go_in;go_wp2;go_ret;exact⟨rfl,ai _ _⟩
 .rw[aa l];have⟨t,u⟩:=aw (bgL x ks);rw[u];obtain⟨p,C⟩:=aw (M ks);rw[C]at h av⊢;have r:=fD h C;have K:apa x (ks.drop 0) t:=⟨u⟩;obtain⟨g,z⟩:=aw (ae x 0);have af:=aj z;rw[z]at E l;have ao:((x.size:Int)=1/\(g==45)=Q)\/((x.size:Int)==1)=Q:=by
   grind
  clear h C u z l;rcases ao with⟨p1,p2⟩|p1;all_goals
   go_in;go_wp2_with fail;clear p1;try clear p2
   go_loopw [18] (λH wr=>∃f:Nat,f<=p/\H= S T f/\apa x (ks.drop f) t/\Y w.heap.size w wr) (λH _=>p-(Ax H).toNat)
   case atStart=>exact⟨0,nH,rfl,K,ai _ _⟩
   case round=>
    obtain⟨f,a7,rfl,s,q⟩:=hrel;clear K;have b:=s.out;by_cases ar:f<p
    .have a9:(f:Int)<(p:Int):=O;have a8:(0:Int)<=(f:Int):=O;obtain⟨c,B⟩:=dh r.2 ar;obtain⟨a4,rfl,a6⟩:=(r.1.below q).get B;have A:=List.getElem?_eq_some_iff.1 B;rw[ja A.1,A.2,bgL,af.out]at b;have i:=aj q;clear B A s q;by_cases n:bgC g c=V
     .rw[ab n]at b;have j:=aj b;have G:=be n;clear b n;rcases G with⟨rfl,a⟩|⟨rfl|rfl,a⟩|⟨rfl,rfl⟩
      .go_wp2_with (go_at_call 50;refine(lp a _).mono ?_;rintro e d ⟨rfl,m⟩;subst d);go_ret;exact⟨by rw[<-j.out];rfl,i⟩
      .go_wp2_with (go_at_call 52;refine(eG a _).mono ?_;rintro e d ⟨rfl,m⟩;subst d);go_ret;exact⟨by rw[<-j.out];rfl,i⟩
      .go_wp2_with (go_at_call 52;refine(eG a _).mono ?_;rintro e d ⟨rfl,m⟩;subst d);go_ret;exact⟨by rw[<-j.out];rfl,i⟩
      .go_wp2;go_ret;exact⟨by rw[<-j.out];rfl,i⟩
     .rw[aa n]at b;have G:¬((c=1/\aJ g=V)\/((c=2\/c=3)/\aC g=V)\/(c=4/\g=34)):=λap=>n (dB ap);have L:(c=1/\aJ g=Q)\/(c=2/\aC g=Q)\/(c=3/\aC g=Q)\/(c=4/\(g==34)=Q)\/((c==1)=Q/\(c==2)=Q/\(c==3)=Q/\(c==4)=Q):=by
       grind
      have F:=λw=>uf c w;unfold bgT at b;generalize eI c=k at F b;clear G n;by_cases o:(decide (x.size<=k.size)&&((k.extract 0 x.size).toList==x.toList))=V
      .rw[ab o]at b;have j:=aj b;rw[cH]at o;obtain⟨a0,a1⟩:=o;have t3:(x.size:Int)<=(k.size:Int):=U;clear b a0;rcases L with⟨rfl,a⟩|⟨rfl,a⟩|⟨rfl,a⟩|⟨rfl,a⟩|⟨ag,ak,al,am⟩;all_goals
        go_wp2_with (first|(go_at_call 50;refine(lp a _).mono ?_;rintro e d ⟨rfl,m⟩;subst d)|(go_at_call 52;refine(eG a _).mono ?_;rintro e d ⟨rfl,m⟩;subst d)|(go_at_call 59;refine(F _).mono ?_;rintro e a2 ⟨rfl,y⟩));go_ret;exact⟨by rw[<-j.out];rfl,i.out.trans (y.mono i.size)⟩
      .rw[aa o]at b;have ad:apa x (ks.drop (f+1)) t:=⟨b⟩;clear b;have aL:(x.size:Int)<=(k.size:Int)/\((k.extract 0 x.size).toList==x.toList)=Q\/¬(x.size:Int)<=(k.size:Int):=by
        grind
       clear o;rcases aL with⟨t3,a1⟩|t3;all_goals
        rcases L with⟨rfl,a⟩|⟨rfl,a⟩|⟨rfl,a⟩|⟨rfl,a⟩|⟨ag,ak,al,am⟩;all_goals
         go_wp2_with (first|(go_at_call 50;refine(lp a _).mono ?_;rintro e d ⟨rfl,m⟩;subst d)|(go_at_call 52;refine(eG a _).mono ?_;rintro e d ⟨rfl,m⟩;subst d)|(go_at_call 59;refine(F _).mono ?_;rintro e a2 ⟨rfl,y⟩));exact⟨⟨f+1,O,by go_num,ad,i.out.trans (y.mono i.size)⟩,by simp[Ax];omega⟩
    .obtain rfl:f=p:=O;rw[kD (by rw[r.out.2];omega),bgL]at b;have j:=aj b;clear b s;go_wp2;go_ret;exact⟨by rw[<-j.out];rfl,q⟩
def my(s:Bz)(p n:Nat):Bool:=aJ (ae s p)&&(!(aJ (lk s (p+n)))&&!(aC (lk s (p+n))))
def Hi(s:Bz)(p:Nat)(ks:List Int):Nat->Nat->Nat
 |0,n=>n
 |f+1,n=>if p+n<s.size/\jI ks (s.extract p (p+n+1))=V then(if my s p (n+1)=V then n+1 else Hi s p ks f (n+1)) else n
def wrongF(s:Bz)(p:Nat)(ks:List Int):Nat:=p+Hi s p ks (s.size+1) 0
structure aip (s:Bz) (p:Nat) (ks:List Int) (f n R:Nat):Prop where
 out:Hi s p ks f n=R
theorem B9(w:World)(s:Bz)(p:Nat)(v:Value)(ks:List Int)(h:dz w v ks)(L:M ks<=1000)(bd:s.size<=70000)(a5:p<s.size):
  Calls W 91 #[A2 s,S T p,v] w λe a7=>e= X (S T (wrongF s p ks))/\Y w.heap.size w a7:=by
 have a6:=λw=>dx a5 w;obtain⟨G,H,rfl⟩:=h.form;unfold wrongF;have⟨j,u⟩:=aw (Hi s p ks (s.size+1) 0);rw[u];have⟨ak,af⟩:=aw (M ks);have C:Hid (dz w (A0 G ak H) ks/\M ks<=1000):=⟨U,L⟩;have E:aip s p ks (s.size+1) 0 j:=⟨u⟩;rw[af];have⟨ar,A⟩:=aw (ae s p);have am:=aj A;rw[A]at a6;have bf:(p:Int)<(s.size:Int):=O;clear h L u A af;go_in;go_wp2;go_loopw [7] (λB wr=>∃(a d:Nat),p+a<=s.size/\s.size<p+a+d/\B= S T a/\aip s p ks d a j/\Y w.heap.size w wr) (λB _=>s.size+1-(Ax B).toNat)
 case atStart=>exact⟨0,s.size+1,O,O,rfl,E,ai _ _⟩
 case round=>
  obtain⟨a,d,bb,ba,rfl,n,k⟩:=hrel;clear E;obtain⟨d,rfl⟩:∃a1,d=a1+1:=⟨d-1,O⟩;have b:=n.out;rw[Hi]at b;by_cases ad:p+a<s.size
  .have a4:(p:Int)+(a:Int)<(s.size:Int):=O;have bc:(0:Int)<=(p:Int)+(a:Int):=O;have ag:(s.extract p (p+a+1)).size=a+1:=by rw[im];omega
   have l:=λ(F:World) (a2:Y w.heap.size w F)=>aak F (A0 G ak H) ks (s.extract p (p+a+1)) (C.1.below a2) C.2 O O;have av:(p:Int)+(a:Int)+1<=(s.size:Int):=O;have aL:IntKind.i64.wrap ((p:Int)+(a:Int)+1)=(p:Int)+(a:Int)+1:=by rw[bJ];omega
   have a0:((p:Int)+(a:Int)+1).toNat=p+a+1:=O;have c:=aj k;have⟨al,t⟩:=aw (jI ks (s.extract p (p+a+1)));rw[t]at l b;have a3:=c.out;cases al with
   |false=>
    rw[aa (λh=>U)]at b;have f:=aj b;clear b n k t ag;go_wp2_with fail;refine dm (l _ c) λa8 g=>?_;clear l;go_wp2;go_ret;exact⟨by first|(rw[<-f.out,zu];rfl)|(rw[<-f.out];rfl),c.out.trans (g.mono c.size)⟩
   |true=>
    rw[ab ⟨ad,rfl⟩]at b;unfold my at b;rw[am.out]at b;have m:=λw=>iw s O ((p:Int)+((a:Int)+1)) (p+(a+1)) O w;generalize lk s (p+(a+1))=K at m b;have⟨an,x⟩:=aw (aJ ar);have⟨ao,y⟩:=aw (aJ K);have⟨ap,z⟩:=aw (aC K);rw[x,y,z]at b;have q:=λw=>lp x w;have r:=λw=>lp y w;have o:=λw=>eG z w;have a9:=aj k;clear x y z n k t ag a3;go_wp2_with fail;refine dm (l _ c) λa8 g=>?_;clear l av aL a0;cases an with
    |false=>
     have i:aip s p ks d (a+1) j:=⟨b⟩;clear b r o m;go_wp2_with (first|(go_at_call 50;with_reducible refine eE (q _) ?_));exact⟨⟨a+1,d,O,O,by go_num,i,c.out.trans (g.mono c.size)⟩,by simp[Ax];omega⟩
    |true=>
     cases ao with
     |true=>
      have i:aip s p ks d (a+1) j:=⟨b⟩;clear b o;go_wp2_with (first|(go_at_call 50;with_reducible refine eE (q _) ?_)|(go_at_call 50;with_reducible refine eE (r _) ?_)|(go_at_call 49;refine eE (m _) ?_));exact⟨⟨a+1,d,O,O,by go_num,i,c.out.trans (g.mono c.size)⟩,by simp[Ax];omega⟩
     |false=>
      cases ap with
      |true=>
       have i:aip s p ks d (a+1) j:=⟨b⟩;clear b;go_wp2_with (first|(go_at_call 50;with_reducible refine eE (q _) ?_)|(go_at_call 50;with_reducible refine eE (r _) ?_)|(go_at_call 52;refine eE (o _) ?_)|(go_at_call 49;refine eE (m _) ?_));exact⟨⟨a+1,d,O,O,by go_num,i,c.out.trans (g.mono c.size)⟩,by simp[Ax];omega⟩
      |false=>
       have f:=aj b;clear b;go_wp2_with (first|(go_at_call 50;with_reducible refine eE (q _) ?_)|(go_at_call 50;with_reducible refine eE (r _) ?_)|(go_at_call 52;refine eE (o _) ?_)|(go_at_call 49;refine eE (m _) ?_));go_ret;exact⟨by first|(rw[<-f.out,zu,zu];rfl)|(rw[<-f.out,zu];rfl)|(rw[<-f.out];rfl),c.out.trans (g.mono c.size)⟩
  .rw[aa (λh=>ad h.1)]at b;have f:=aj b;have a4:¬(p:Int)+(a:Int)<(s.size:Int):=O;clear b n;go_wp2;go_ret;exact⟨by first|(rw[<-f.out,zu];rfl)|(rw[<-f.out];rfl),k⟩
open Go.Maps Go.WideMaps
def aiq{vn vk:Value}(b:NArg w vt ns N vn vk)(d:0<M N.ks):
  Calls W 156 #[A3 #[vt],A3 #[S T N.k,S T N.f,S T N.t,S T N.l,S T N.op,S T N.n,A2 N.x,vn,vk],S T ((M N.ks:Int)-1)] w λe c=>e= X (S T (gq ns N (M N.ks-1)))/\Y w.heap.size w c:=by
 have a:=rD b (M N.ks-1) O;rw[(O:((M N.ks-1:Nat):Int)=(M N.ks:Int)-1)]at a;exact a
def al8{vn vk:Value}(a:NArg w vt ns N vn vk)(d:0<M N.ks):
  Calls W 159 #[A3 #[vt],A3 #[S T N.k,S T N.f,S T N.t,S T N.l,S T N.op,S T N.n,A2 N.x,vn,vk],S T 0,S T ((M N.ks:Int)-1)] w λe c=>e= X (A5 (mD ns N (M N.ks-1) 0))/\Y w.heap.size w c:=by
 have b:=mE w vt ns N vn vk 0 (M N.ks-1) a.t a.n a.k a.ok O a.ln a.l2;rw[(O:((M N.ks-1:Nat):Int)=(M N.ks:Int)-1)]at b;exact b
theorem al9{vn vk:Value}(c:NArg w vt ns N vn vk)(g:N.k=9):
  Calls W 96 #[A3 #[vt],jA N vn vk] w λe h=>e= X (A5 (bK N Q Q Q V&&(gg N 1 1&&(((M N.ks:Int)==3||(M N.ks:Int)==4)&&(mD ns N (M N.ks-1) 0&&(gq ns N (M N.ks-1)==1))))))/\Y w.heap.size w h:=by
 obtain⟨y,B,rfl⟩:=c.t.form;obtain⟨z,C,rfl⟩:=c.n.form;obtain⟨A,E,rfl⟩:=c.k.form;have b:=St.start c;have F:=c.l2;clear c;have G:=kqf g;have H:=kqt g 9 rfl;clear g;unfold jA;cases t0:bK N Q Q Q V
 case' true=>
  cases t1:gg N 1 1
  case' true=>
   cases t2:((M N.ks:Int)==3)
   case' false=>cases t5:((M N.ks:Int)==4)
   case' false.true=>
    have f:Hid (0<M N.ks):=by show _<_;grind
    cases t3:mD ns N (M N.ks-1) 0
    case' true=>cases t4:(gq ns N (M N.ks-1)==1)
   case' true.true.true=>
    have f:Hid (0<M N.ks):=by show _<_;grind
    cases t3:mD ns N (M N.ks-1) 0
    case' true=>cases t4:(gq ns N (M N.ks-1)==1)
 all_goals
  go_in;go_wp2_with (first|(go_at_call 157;refine b.bare λx b=>?_;obtain⟨i,j,l,m,o,p,q,r,s,u⟩:=co b.bn;have v:=b.bt)|(go_at_call 158;refine b.named λx b=>?_;obtain⟨i,j,l,m,o,p,q,r,s,u⟩:=co b.bn;have v:=b.bt)|(go_at_call 159;with_reducible refine(al8 b.a f.out).mono ?_;rintro e h ⟨rfl,d⟩;replace b:=b.below d;clear d;obtain⟨i,j,l,m,o,p,q,r,s,u⟩:=co b.bn;have v:=b.bt)|(go_at_call 156;with_reducible refine(aiq b.a f.out).mono ?_;rintro e h ⟨rfl,d⟩;replace b:=b.below d;clear d;obtain⟨i,j,l,m,o,p,q,r,s,u⟩:=co b.bn;have v:=b.bt));go_ret;exact⟨rfl,b.bel⟩
def tgB(ns:List Nd)(N:Nd):Nat->Nat->Bool
 |0,_=>V
 |f+1,j=>BE (gq ns N j)&&tgB ns N f (j+1)
structure apb (ns:List Nd) (N:Nd) (f j:Nat) (R:Bool):Prop where
 out:tgB ns N f j=R
theorem ama{vn vk:Value}(h:NArg w vt ns N vn vk)(E:N.k=5):
  Calls W 96 #[A3 #[vt],jA N vn vk] w λe A=>e= X (A5 (bK N Q V Q Q&&(decide (1<=N.n/\N.n<(M N.ks:Int))&&(tgB ns N N.n.toNat 0&&mD ns N (M N.ks-N.n.toNat) N.n.toNat))))/\Y w.heap.size w A:=by
 obtain⟨ak,ao,rfl⟩:=h.t.form;obtain⟨al,ap,rfl⟩:=h.n.form;obtain⟨am,ar,rfl⟩:=h.k.form;have b:=St.start h;have a6:=h.l2;clear h;have a9:=kqf E;have ba:=kqt E 5 rfl;clear E;unfold jA;cases t0:bK N Q V Q Q with
 |false=>
  go_in;go_wp2_with (first|(go_at_call 157;refine b.bare λC b=>?_;obtain⟨i,j,l,m,o,p,q,r,s,u⟩:=co b.bn;have v:=b.bt));go_ret;exact⟨rfl,b.bel⟩
 |true=>
  by_cases a0:N.n<1
  .rw[aG O];go_in;go_wp2_with (first|(go_at_call 157;refine b.bare λC b=>?_;obtain⟨i,j,l,m,o,p,q,r,s,u⟩:=co b.bn;have v:=b.bt));go_ret;exact⟨rfl,b.bel⟩
  by_cases a4:(M N.ks:Int)<=N.n
  .rw[aG O];go_in;go_wp2_with (first|(go_at_call 157;refine b.bare λC b=>?_;obtain⟨i,j,l,m,o,p,q,r,s,u⟩:=co b.bn;have v:=b.bt));go_ret;exact⟨rfl,b.bel⟩
  rw[dB O];obtain⟨d,L⟩:∃d:Nat,N.n=(d:Int):=⟨N.n.toNat,O⟩;have ad:N.n.toNat=d:=O;rw[ad];have a8:d<M N.ks:=O;have ag:=aj L;have⟨B,F⟩:=aw (tgB ns N d 0);rw[F];have aL:apb ns N d 0 B:=⟨F⟩;clear F L ad;go_in;go_wp2_with (first|(go_at_call 157;refine b.bare λC b=>?_;obtain⟨i,j,l,m,o,p,q,r,s,u⟩:=co b.bn;have v:=b.bt));go_loopw [7] (λK wr=>∃(c:Nat),K= S T c/\c<=d/\apb ns N (d-c) c B/\St w (A0 ak (M ns) ao) ns N (A0 al (M N.nm) ap) (A0 am (M N.ks) ar) wr) (λK _=>d-(Ax K).toNat)
  case atStart=>grind
  case round=>
   clear b;obtain⟨c,rfl,a5,af,b⟩:=hrel;have⟨bb,bc,bd,bf,bg,bh,bj,bk,bl,bo⟩:=co b.bn;have bp:=b.bt;have f:=af.out;have G:=ag.out;by_cases a7:c<d
   .rw[(O:d-c=(d-(c+1))+1),tgB]at f;have av:(c:Int)<N.n:=O;have z:=rD b.a c O;unfold jA at z;have y:=λw=>IC (gq ns N c) w;clear G;generalize gq ns N c=an at f z y;cases hx:BE an with
    |false=>
     rw[hx,gJ]at f;rw[hx]at y;have x:=aj f;clear f hx;go_wp2_with (first|(go_at_call 156;refine z.mono ?_;rintro e A ⟨rfl,g⟩;replace b:=b.below g;clear g;obtain⟨i,j,l,m,o,p,q,r,s,u⟩:=co b.bn;have v:=b.bt)|(go_at_call 160;refine eE (y _) ?_));go_ret;exact⟨by rw[<-x.out];rfl,b.bel⟩
    |true=>
     rw[hx,gK]at f;rw[hx]at y;have x:apb ns N (d-(c+1)) (c+1) B:=⟨f⟩;clear f hx;go_wp2_with (first|(go_at_call 156;refine z.mono ?_;rintro e A ⟨rfl,g⟩;replace b:=b.below g;clear g;obtain⟨i,j,l,m,o,p,q,r,s,u⟩:=co b.bn;have v:=b.bt)|(go_at_call 160;refine eE (y _) ?_));exact⟨⟨c+1,by go_num,O,x,b⟩,by simp[Ax];omega⟩
   .rw[(O:d-c=0),tgB]at f;have x:=aj f;have av:¬(c:Int)<N.n:=O;have H:=mE _ _ ns N _ _ d (M N.ks) b.a.t b.a.n b.a.k b.a.ok cJ b.a.ln b.a.l2;unfold jA at H;rw[<-G]at H;clear f G;go_wp2_with (go_at_call 159;refine H.mono ?_;rintro e A ⟨rfl,g⟩;replace b:=b.below g;clear g;obtain⟨i,j,l,m,o,p,q,r,s,u⟩:=co b.bn;have v:=b.bt);go_ret;exact⟨by rw[<-x.out];rfl,b.bel⟩
