import Derived.Test.YtnlhhmlcjbohbaaGreatDoorHNk21
import Derived.Test.YtnlhhmlcjbohbaaGreatDoorHNk20
import Derived.Test.YtnlhhmlcjbohbaaGreatDoorHNk19
import Derived.Test.YtnlhhmlcjbohbaaGreatDoorHNk18
set_option linter.all false
set_option maxRecDepth 100000
set_option maxHeartbeats 12800000
open Bool renaming true->O,false->Ce
open Go.Value renaming iface->U,int->Z,slice->A5,string->B6,string->C2,bool->C4,agg->C5,slice->C7
open Option renaming some->V,none->Y
open Go.Proofs.Tryz renaming prog->X
open Go.IntKind renaming i64->Ax
open Go.Ending renaming returned->A0
open ByteArray renaming empty->A2
open Go.RowKit renaming Hid->A9,Below->C6
open List renaming range->B0,replicate->B4
open Go renaming Calls->B1,Value->B3,maxLen->Ck,World->Cr
open Go.Obj renaming cells->B7
namespace Go.Proofs.YtnlhhmlcjbohbaaGreatDoor
open Go.RowKit
variable{Br:Int->ByteArray->ByteArray}{E:Int->ByteArray}{M:List (Value×List ByteArray)}{N:Nd}{NS:List ByteArray}{S:Int->Nat->ByteArray}{T:Bxs}{W w:World}{cs:Array Value}{f:FuncId}{i tab:Nat}{k m nk:Int}{kn vs:List Value}{kv:Value}{ns:List Nd}{st:TypeId}{t:Tk}
section
variable {E : Pe} {w w' : World} {i : Nat}
theorem Pp.cells(h:Pp E w i):w.cell? ⟨E.pb,0,Y⟩=V (A5 (V ⟨E.tb,0,Y⟩) E.n E.cap)/\w.cell? ⟨E.pb,1,Y⟩=V (Z Ax i)/\∀j,w.frozen? ⟨E.pb,j,Y⟩=Ce:=
 ⟨by rw[au _ _ _ _ _ _ h.row];rfl,by rw[au _ _ _ _ _ _ h.row];rfl,fun j=>bI _ _ _ _ _ h.row⟩
theorem Pp.tok(h:Pp E w i){q:Nat}(d:q<E.n):∃l,((E.tk q).k≠6->l=(E.tk q).l)/\w.cell? ⟨E.tb,q*6,Y⟩=V (Z Ax (E.tk q).k)/\w.cell? ⟨E.tb,q*6+1,Y⟩=V (Z Ax (E.tk q).f)/\w.cell? ⟨E.tb,q*6+2,Y⟩=V (Z Ax (E.tk q).t)/\w.cell? ⟨E.tb,q*6+3,Y⟩=V (Z Ax l)/\w.cell? ⟨E.tb,q*6+4,Y⟩=V (Z Ax (E.tk q).n)/\w.cell? ⟨E.tb,q*6+5,Y⟩=V (C2 (E.tk q).x):=by
 obtain⟨e,g,b,c⟩:=h.tks;obtain⟨l,a⟩:=c q d;exact⟨l,a.hl,by rw[au _ _ _ _ _ _ b];exact a.c0,by rw[au _ _ _ _ _ _ b];exact a.c1,by rw[au _ _ _ _ _ _ b];exact a.c2,by rw[au _ _ _ _ _ _ b];exact a.c3,by rw[au _ _ _ _ _ _ b];exact a.c4,by rw[au _ _ _ _ _ _ b];exact a.c5⟩
theorem Pp.tkw(h:Pp E w i){q:Nat}(d:q<E.n)(b:(E.tk q).k≠6):TkW w E q:=by
 obtain⟨m,c,e,f,g,a,j,l⟩:=h.tok d;rw[c b]at a;exact⟨e,f,g,a,j,l⟩
theorem Pp.ne(h:Pp E w i):E.tb≠E.pb:=fun b=>by
 obtain⟨c,d,a,e⟩:=h.tks;rw[b,h.row]at a;cases a
theorem Pp.move(h:Pp E w i)(j:Nat):Pp E (w.setCell ⟨E.pb,1,Y⟩ (Z Ax j)) j/\w.grownBy (w.setCell ⟨E.pb,1,Y⟩ (Z Ax j)) (V E.pb):=by
 obtain⟨a,c,d,e⟩:=h.tks;obtain⟨g,b,f⟩:=h.pw;exact⟨⟨h.hn,⟨a,c,(aC _ _ _ _ h.ne).trans d,e⟩,aL _ E.pb 1 _ _ _ h.row,h.pg,g,b,(aC _ _ _ _ (Nat.ne_of_lt h.pg)).trans f⟩,rm (uB w _) 1 _⟩
theorem Pp.other(h:Pp E w i){b:Nat}(k:b≠E.pb)(l:b≠E.tb)(o:E.pb<=b)(g:w.grownBy w' (V b)):Pp E w' i:=by
 obtain⟨e,j,d,m⟩:=h.tks;obtain⟨n,f,c⟩:=h.pw;exact⟨h.hn,⟨e,j,(g.block _ (ai d) (fun a=>l (by cases a;rfl))).trans d,m⟩,(g.block _ h.lt (fun a=>k (by cases a;rfl))).trans h.row,h.pg,n,f,(g.block _ (ai c) (fun a=>by cases a;have:=h.pg;omega)).trans c⟩
theorem ahG(h:Pp E w i)(a:i<E.n):B1 X 92 #[pV E] w fun e w'=>e= A0 (Z Ax (E.tk i).k)/\C6 w.heap.size w w':=by
 obtain⟨b,c,d⟩:=h.cells;obtain⟨j,g,l,m,o,p,q,r⟩:=h.tok a;have f:(i:Int)<(E.n:Int):=by omega
 clear h a;go_in;go_wp21
 go_quiet (fail)
 go_wp2;go_ret;exact⟨rfl,rfl,rfl,rfl,ae _,fun _ _=>rfl⟩
theorem aql(h:Pp E w i)(a1:i<E.n)(a0:(E.tk i).k≠6):B1 X 93 #[pV E] w fun e w'=>e= .returned (vTk (E.tk i))/\Pp E w' (i+1)/\w.grownBy w' (V E.pb):=by
 have a9:=h.lt;have B:=bG w (.cells #[.int .i64 0,.int .i64 0,.int .i64 0,.int .i64 0,.int .i64 0,.string ⟨#[]⟩] 49);have A:=h.keep (rE B _);obtain⟨d,F⟩:=A.move (i+1);obtain⟨ao,ap,ar⟩:=A.cells;obtain⟨o,p,ag⟩:=d.cells;obtain⟨r,s,u,v,y,z⟩:=d.tkw a1 a0;have av:((i+1:Nat):Int)=(i:Int)+1:=by omega
 rw[av]at d F p o ag r s u v y z;have a8:=h.hn;have bb:IntKind.i64.wrap (i:Int)=(i:Int):=by rw[di];omega
 obtain⟨b,q⟩:=aA ((w.alloc (.cells #[.int .i64 0,.int .i64 0,.int .i64 0,.int .i64 0,.int .i64 0,.string ⟨#[]⟩] 49)).setCell ⟨E.pb,1,Y⟩ (.int .i64 ((i:Int)+1)));have C:b.heap[w.heap.size]?=V (.cells #[.int .i64 0,.int .i64 0,.int .i64 0,.int .i64 0,.int .i64 0,.string ⟨#[]⟩] 49 (0,0)):=by
  rw[<-q,aC _ _ _ _ (by show w.heap.size≠E.pb;omega)];exact ay w _
 have ak:w.grownBy b (V E.pb):=by rw[<-q];exact(rE B _).trans F
 rw[q]at d o p ag r s u v y z;go_in;go_wp21
 have m:=iF d ak C;have af:=aw h;clear q A B d F ao ap ar h ak C;obtain⟨z0,bd,be,bf,bh,bj⟩:=gI m.2.2;obtain⟨bk,bl,bn,bo,br,bs⟩:=sf m.2.2;have al:E.pb≠w.heap.size:=by omega
 have am:E.tb≠w.heap.size:=by
  obtain⟨a6,a7,a3,_⟩:=af.tks;have:=ai a3;omega
 have G:∀a H I J K L ad,(Cl b w.heap.size H I J K L ad).drew.cell? ⟨E.pb,a,Y⟩=b.cell? ⟨E.pb,a,Y⟩:=fun a=>pI al a;have c:∀a H I J K L ad,(Cl b w.heap.size H I J K L ad).drew.cell? ⟨E.tb,a,Y⟩=b.cell? ⟨E.tb,a,Y⟩:=fun a=>pI am a;unfold Cl at G c;go_region_held3 (fun w'=>w'.cell? ⟨E.pb,0,Y⟩=V (.slice (V ⟨E.tb,0,Y⟩) E.n E.cap)/\w'.cell? ⟨E.pb,1,Y⟩=V (.int .i64 ((i:Int)+1))/\w'.cell? ⟨E.tb,i*6,Y⟩=V (.int .i64 (E.tk i).k)/\w'.cell? ⟨E.tb,i*6+1,Y⟩=V (.int .i64 (E.tk i).f)/\w'.cell? ⟨E.tb,i*6+2,Y⟩=V (.int .i64 (E.tk i).t)/\w'.cell? ⟨E.tb,i*6+3,Y⟩=V (.int .i64 (E.tk i).l)/\w'.cell? ⟨E.tb,i*6+4,Y⟩=V (.int .i64 (E.tk i).n)/\w'.cell? ⟨E.tb,i*6+5,Y⟩=V (.string (E.tk i).x)) (first|with_reducible exact⟨(G 0 _ _ _ _ _ _).trans o,(G 1 _ _ _ _ _ _).trans p,(c (i*6) _ _ _ _ _ _).trans r,(c (i*6+1) _ _ _ _ _ _).trans s,(c (i*6+2) _ _ _ _ _ _).trans u,(c (i*6+3) _ _ _ _ _ _).trans v,(c (i*6+4) _ _ _ _ _ _).trans y,(c (i*6+5) _ _ _ _ _ _).trans z⟩|exact⟨o,p,r,s,u,v,y,z⟩) (fail)
 have j:=CG b w.heap.size (.int .i64 (E.tk i).k) (.int .i64 (E.tk i).f) (.int .i64 (E.tk i).t) (.int .i64 (E.tk i).l) (.int .i64 (E.tk i).n) (.string (E.tk i).x);have g:=GL m.2.2 (.int .i64 (E.tk i).k) (.int .i64 (E.tk i).f) (.int .i64 (E.tk i).t) (.int .i64 (E.tk i).l) (.int .i64 (E.tk i).n) (.string (E.tk i).x);rw[<-sh]at g;unfold Cl at j g;generalize World.drew _=a5 at j g⊢;go_wp2;obtain⟨a4,an,C⟩:=m.out;exact aI (gi rfl _ _ w.heap.size _ _ _ _ rfl g Tryz.underlying49 rfl (by kernel_rfl)) rfl ⟨rfl,a4.other al.symm am.symm (eE af.out.lt) j,an.andThen j (fun a a2=> .inl (by cases a2;exact ae _))⟩
end
section
variable {E : Pe} {w w' : World} {i : Nat}
theorem aqm(h:Pp E w i)(l:i<E.n)(d:(E.tk i).k=k):B1 X 177 #[pV E,Z Ax k] w fun e w'=>e= A0 (C4 O)/\Pp E w' (i+1)/\w.grownBy w' (V E.pb):=by
 have r:((E.tk i).k !=k)=Ce:=by simp[d]
 have f:=ahG h l;have g:=aw h;have q:=h.hn;clear h d;go_in;go_wp21
 refine f.mono ?_;rintro e w1 ⟨rfl,c⟩;have a:=g.keep (rE c _);obtain⟨m,o,p⟩:=a.cells;have j:=aw a;clear a f;go_wp21
 go_ret;have b:=j.move (i+1);rw[show((i+1:Nat):Int)=(i:Int)+1 by omega]at b;exact⟨rfl,b.1,(rE c _).trans b.2⟩
theorem aqn(h:Pp E w i)(a:i<E.n)(b:(E.tk i).k≠k):B1 X 177 #[pV E,Z Ax k] w fun e w'=>e= A0 (C4 Ce)/\C6 w.heap.size w w':=by
 have f:((E.tk i).k !=k)=O:=by simp[b]
 have d:=ahG h a;clear h b a;go_in;go_wp2_with (go_at_call 92;refine d.mono ?_;rintro e w1 ⟨rfl,c⟩);go_ret;exact⟨rfl,c⟩
theorem ahH(h:Pp E w i)(ad:i<E.n):B1 X 61 #[pV E] w fun e w'=>(∃l,((E.tk i).k≠6->l=(E.tk i).l)/\e= .returned (.agg #[.int .i64 (E.tk i).k,.int .i64 (E.tk i).f,.int .i64 (E.tk i).t,.int .i64 l,.int .i64 (E.tk i).n,.string (E.tk i).x]))/\C6 w.heap.size w w':=by
 have j:=bG w (.cells #[.int .i64 0,.int .i64 0,.int .i64 0,.int .i64 0,.int .i64 0,.string ⟨#[]⟩] 49);have m:=h.keep (rE j _);obtain⟨p,q,L⟩:=m.cells;obtain⟨l,ag,u,v,y,z,A,B⟩:=m.tok ad;obtain⟨c,r⟩:=aA (w.alloc (.cells #[.int .i64 0,.int .i64 0,.int .i64 0,.int .i64 0,.int .i64 0,.string ⟨#[]⟩] 49));have K:c.heap[w.heap.size]?=V (.cells #[.int .i64 0,.int .i64 0,.int .i64 0,.int .i64 0,.int .i64 0,.string ⟨#[]⟩] 49 (0,0)):=by rw[<-r];exact ay w _
 rw[r]at m p q L u v y z A B j;have d:=dC K j;have ak:E.pb≠w.heap.size:=by have:=h.lt;omega
 have al:E.tb≠w.heap.size:=by
  obtain⟨ao,ap,am,_⟩:=h.tks;have:=ai am;omega
 clear h m K j;go_in;go_wp21
 clear r;obtain⟨z0,ar,av,a0,a1,a2⟩:=gI d.1;obtain⟨a3,a4,a5,a6,a7,a8⟩:=sf d.1;have s:∀a C F G H I J,(Cl c w.heap.size C F G H I J).drew.cell? ⟨E.pb,a,Y⟩=c.cell? ⟨E.pb,a,Y⟩:=fun a=>pI ak a;have b:∀a C F G H I J,(Cl c w.heap.size C F G H I J).drew.cell? ⟨E.tb,a,Y⟩=c.cell? ⟨E.tb,a,Y⟩:=fun a=>pI al a;unfold Cl at s b;go_region_held3 (fun w'=>w'.cell? ⟨E.pb,0,Y⟩=V (.slice (V ⟨E.tb,0,Y⟩) E.n E.cap)/\w'.cell? ⟨E.pb,1,Y⟩=V (.int .i64 (i:Int))/\w'.cell? ⟨E.tb,i*6,Y⟩=V (.int .i64 (E.tk i).k)/\w'.cell? ⟨E.tb,i*6+1,Y⟩=V (.int .i64 (E.tk i).f)/\w'.cell? ⟨E.tb,i*6+2,Y⟩=V (.int .i64 (E.tk i).t)/\w'.cell? ⟨E.tb,i*6+3,Y⟩=V (.int .i64 l)/\w'.cell? ⟨E.tb,i*6+4,Y⟩=V (.int .i64 (E.tk i).n)/\w'.cell? ⟨E.tb,i*6+5,Y⟩=V (.string (E.tk i).x)) (first|with_reducible exact⟨(s 0 _ _ _ _ _ _).trans p,(s 1 _ _ _ _ _ _).trans q,(b (i*6) _ _ _ _ _ _).trans u,(b (i*6+1) _ _ _ _ _ _).trans v,(b (i*6+2) _ _ _ _ _ _).trans y,(b (i*6+3) _ _ _ _ _ _).trans z,(b (i*6+4) _ _ _ _ _ _).trans A,(b (i*6+5) _ _ _ _ _ _).trans B⟩|exact⟨p,q,u,v,y,z,A,B⟩) (fail)
 have o:=CG c w.heap.size (.int .i64 (E.tk i).k) (.int .i64 (E.tk i).f) (.int .i64 (E.tk i).t) (.int .i64 l) (.int .i64 (E.tk i).n) (.string (E.tk i).x);have g:=GL d.1 (.int .i64 (E.tk i).k) (.int .i64 (E.tk i).f) (.int .i64 (E.tk i).t) (.int .i64 l) (.int .i64 (E.tk i).n) (.string (E.tk i).x);rw[<-sh]at g;unfold Cl at o g;generalize World.drew _=an at o g⊢;go_wp2;exact aI (gi rfl _ _ w.heap.size _ _ _ _ rfl g Tryz.underlying49 rfl (by kernel_rfl)) rfl ⟨⟨l,ag,rfl⟩,d.2.grown o (by have:=d.2.size;omega) (fun k af=>by cases af;omega)⟩
theorem ala(h:Pp E w (i+1))(ad:i<E.n)(nk:Int)(T:Tk)(a:Option Addr)(n c:Nat):B1 X 179 #[pV E,.int .i64 nk,vTk T,.slice a n c] w fun e w'=>e= .returned (.agg #[.int .i64 nk,.int .i64 T.f,.int .i64 (E.tk i).t,.int .i64 T.l,.int .i64 0,.slice a n c])/\C6 w.heap.size w w':=by
 have F:=bG w (.cells (mj T.k T) 49);have u:C6 w.heap.size w ((w.alloc (.cells (mj T.k T) 49)).alloc (.cells #[.int .i64 0,.int .i64 0,.int .i64 0,.int .i64 0,.int .i64 0,.slice Y 0 0] 115)):=F.alloc (by simp) _;have x:=h.keep (rE u _);obtain⟨z,v,L⟩:=x.cells;obtain⟨l,a4,an,ao,C,ap,ar,av⟩:=x.tok ad;rw[show((i+1:Nat):Int)=(i:Int)+1 by omega]at v;have a3:=h.hn;have a5:IntKind.i64.wrap (i:Int)=(i:Int):=by rw[di];omega
 obtain⟨d,j⟩:=aA ((w.alloc (.cells (mj T.k T) 49)).alloc (.cells #[.int .i64 0,.int .i64 0,.int .i64 0,.int .i64 0,.int .i64 0,.slice Y 0 0] 115));have H:d.heap[w.heap.size+1]?=V (.cells #[.int .i64 0,.int .i64 0,.int .i64 0,.int .i64 0,.int .i64 0,.slice Y 0 0] 115 (0,0)):=by
  have:=ay (w.alloc (.cells (mj T.k T) 49)) (.cells #[.int .i64 0,.int .i64 0,.int .i64 0,.int .i64 0,.int .i64 0,.slice Y 0 0] 115);rw[dr]at this;rw[<-j];exact this
 have G:d.heap[w.heap.size]?=V (.cells (mj T.k T) 49 (0,0)):=by
  rw[<-j];exact((bG (w.alloc (.cells (mj T.k T) 49)) _).block _ (by simp)).trans (ay w _)
 rw[j]at x z v L an ao C ap ar av u;have g:=dC H u;obtain⟨a7,J,a8,K,a9,bb⟩:=gI G;have ag:E.pb≠w.heap.size+1:=by have:=h.lt;omega
 have ak:E.tb≠w.heap.size+1:=by
  obtain⟨a1,a2,am,_⟩:=h.tks;have:=ai am;omega
 have al:w.heap.size≠w.heap.size+1:=by omega
 clear h x H u F G;simp only[mj]at j;unfold vTk;go_in;go_wp21
 clear j;obtain⟨z0,bd,be,bf,bh,bj⟩:=gI g.1;obtain⟨bk,bl,bn,bo,br,bs⟩:=sf g.1;have B:∀b k m o p q r,(Cl d (w.heap.size+1) k m o p q r).drew.cell? ⟨E.pb,b,Y⟩=d.cell? ⟨E.pb,b,Y⟩:=fun b=>pI ag b;have I:∀b k m o p q r,(Cl d (w.heap.size+1) k m o p q r).drew.cell? ⟨E.tb,b,Y⟩=d.cell? ⟨E.tb,b,Y⟩:=fun b=>pI ak b;have A:∀b k m o p q r,(Cl d (w.heap.size+1) k m o p q r).drew.cell? ⟨w.heap.size,b,Y⟩=d.cell? ⟨w.heap.size,b,Y⟩:=fun b=>pI al b;unfold Cl at B I A;go_region_held3 (fun w'=>w'.cell? ⟨E.pb,0,Y⟩=V (.slice (V ⟨E.tb,0,Y⟩) E.n E.cap)/\w'.cell? ⟨E.pb,1,Y⟩=V (.int .i64 ((i:Int)+1))/\w'.cell? ⟨E.tb,i*6+2,Y⟩=V (.int .i64 (E.tk i).t)/\w'.cell? ⟨w.heap.size,1,Y⟩=V (.int .i64 T.f)/\w'.cell? ⟨w.heap.size,3,Y⟩=V (.int .i64 T.l)) (first|with_reducible exact⟨(B 0 _ _ _ _ _ _).trans z,(B 1 _ _ _ _ _ _).trans v,(I (i*6+2) _ _ _ _ _ _).trans C,(A 1 _ _ _ _ _ _).trans J,(A 3 _ _ _ _ _ _).trans K⟩|exact⟨z,v,C,J,K⟩) (fail)
 have y:=CG d (w.heap.size+1) (.int .i64 nk) (.int .i64 T.f) (.int .i64 (E.tk i).t) (.int .i64 T.l) (.int .i64 0) (.slice a n c);have s:=GL g.1 (.int .i64 nk) (.int .i64 T.f) (.int .i64 (E.tk i).t) (.int .i64 T.l) (.int .i64 0) (.slice a n c);rw[<-sh]at s;unfold Cl at y s;generalize World.drew _=a0 at y s⊢;go_wp2;exact aI (gi rfl _ _ (w.heap.size+1) _ _ _ _ rfl s Tryz.underlying115 rfl (by kernel_rfl)) rfl ⟨rfl,g.2.grown y (by have:=g.2.size;omega) (fun a6 af=>by cases af;omega)⟩
end
section
variable {E : Pe} {W w w' : World} {i j q : Nat} {k nk : Int} {kv v : Value} {kn vs us ws : List Value} {D R : Fo} {T : Bxs} {M : List (Value × List ByteArray)} {f : FuncId} {args : Array Value}
theorem jd(S:A9 (Sw E W w i kv kn D vs T M))(d:(E.tk i).k=k)(c:i<E.n:=by omega):B1 X 92 #[pV E] w fun e w'=>e= A0 (Z Ax k)/\A9 (Sw E W w' i kv kn D vs T M):=by
 rw[<-d];refine(ahG S.pp c).mono ?_;rintro e w' ⟨b,a⟩;exact⟨b,sB S a⟩
theorem er(S:A9 (Sw E W w i kv kn D vs T M))(f:(E.tk i).k=k)(d:i<E.n)(a:k≠6:=by decide):B1 X 93 #[pV E] w fun e w'=>e= A0 (C5 (mj k (E.tk i)))/\A9 (Sw E W w' (i+1) kv kn D vs T M):=by
 rw[<-f]at a⊢;refine(aql S.pp d a).mono ?_;rintro e w' ⟨c,b⟩;exact⟨c,sX S b⟩
theorem vy(S:A9 (Sw E W w i kv kn D vs T M))(d:(E.tk i).k=k)(c:i<E.n:=by omega):B1 X 177 #[pV E,Z Ax k] w fun e w'=>e= A0 (C4 O)/\A9 (Sw E W w' (i+1) kv kn D vs T M):=by
 refine(aqm S.pp c d).mono ?_;rintro e w' ⟨b,a⟩;exact⟨b,sX S a⟩
theorem wG(S:A9 (Sw E W w i kv kn D vs T M))(d:(E.tk i).k≠k)(c:i<E.n:=by omega):B1 X 177 #[pV E,Z Ax k] w fun e w'=>e= A0 (C4 Ce)/\A9 (Sw E W w' i kv kn D vs T M):=by
 refine(aqn S.pp c d).mono ?_;rintro e w' ⟨b,a⟩;exact⟨b,sB S a⟩
theorem ud(S:A9 (Sw E W w i kv kn D vs T M))(f:(E.tk i).k=k)(d:i<E.n)(b:k≠6):B1 X 61 #[pV E] w fun e w'=>e= A0 (C5 (mj k (E.tk i)))/\A9 (Sw E W w' i kv kn D vs T M):=by
 rw[<-f]at b⊢;refine(ahH S.pp d).mono ?_;rintro e w' ⟨⟨h,g,a⟩,c⟩;rw[g b]at a;exact⟨a,sB S c⟩
theorem lB(S:A9 (Sw E W w i kv kn D vs T M))(a:t.k=k):∃w',w.alloc (B7 (mj k t) 49)=w'/\A9 (Sw E W w' i kv kn D vs (tkB w.heap.size t::T) M):=by
 rw[<-a];exact⟨_,rfl,S.box t⟩
theorem nF{b:Nat}(S:A9 (Sw E W w i kv kn D vs (tkB b t::T) M))(a:t.k=k):w.cell? ⟨b,0,Y⟩=V (Z Ax k)/\w.cell? ⟨b,1,Y⟩=V (Z Ax t.f)/\w.cell? ⟨b,2,Y⟩=V (Z Ax t.t)/\w.cell? ⟨b,3,Y⟩=V (Z Ax t.l)/\w.cell? ⟨b,4,Y⟩=V (Z Ax t.n)/\w.cell? ⟨b,5,Y⟩=V (C2 t.x):=by
 rw[<-a];exact gI (S.tb _ (bB ..)).2.2
theorem Bk.form{lo:Nat}{c:Option Nat}(h:Bk w lo c R [v]):∃t p,v= U t p:=by
 cases R with
 |nil=>obtain⟨b,a,_⟩:=h;cases a
 |cons d i l=>
  obtain⟨b,e,k,n,m,j,o,f,g,a,_⟩:=h;exact⟨_,_,(th a.1).1⟩
theorem jn(S:A9 (Sw E W w i kv kn D vs T M))(C:CN E f args i R j)(c:R.sz<=50000000:=by omega):B1 X f args w fun e w'=>∃t p,e= A0 (U t p)/\A9 (Sw E W w' j kv kn (D.app R) (vs++[U t p]) T M):=by
 refine(C w S.pp c).mono ?_;rintro e w' ⟨d,b,a⟩;obtain⟨t,p,rfl⟩:=Bk.form a.nn;exact⟨t,p,b,S.sub a⟩
theorem zA(S:A9 (Sw E W w i s0 [] D vs T M))(C:CR E f args i R j)(g:R.sz<=50000000:=by omega):B1 X f args w fun e w'=>∃a n c us,e= A0 (A5 a n c)/\A9 (Sw E W w' j (A5 a n c) us (D.app R) (vs++us) T M)/\us.length=n:=by
 refine(C w S.pp g).mono ?_;rintro e w' ⟨h,us,d,b⟩;obtain⟨a,c,rfl⟩:=cj b.ro;exact⟨a,_,c,us,d,S.subL b,rfl⟩
theorem qu(S:A9 (Sw E W w i s0 [] D vs T M))(us:List B3)(cs:Array B3)(a:cs=us.toArray)(n:Nat)(b:us.length=n)(c:n<=100):∃w',w.alloc (B7 cs 72)=w'/\A9 (Sw E W w' i (A5 (V ⟨w.heap.size,0,Y⟩) n n) us D vs T M):=by
 subst a b;exact⟨_,rfl,S.lit us c⟩
theorem gB(S:A9 (Sw E W w j kv kn D vs T M))(h:t.k=k)(i:1<=j)(m:j<=E.n)(nk:Int)(a:Option Addr)(n c:Nat):B1 X 179 #[pV E,Z Ax nk,C5 (mj k t),A5 a n c] w fun e w'=>e= A0 (C5 #[Z Ax nk,Z Ax t.f,Z Ax (E.tk (j-1)).t,Z Ax t.l,Z Ax 0,A5 a n c])/\A9 (Sw E W w' j kv kn D vs T M):=by
 rw[<-h];obtain⟨b,rfl⟩:∃b,j=b+1:=⟨j-1,by omega⟩;refine(ala S.pp (by omega) nk t a n c).mono ?_;rintro e w' ⟨g,d⟩;exact⟨g,sB S d⟩
theorem abj{vn:B3}(N:Nd)(S:A9 (Sw E W w i kv vs D vs T ((vn,N.nm)::M)))(d:ny N (ez N.k)=N)(e:cs=([Z Ax N.k,Z Ax N.f,Z Ax N.t,Z Ax N.l,Z Ax 0,kv]++exT N vn (ez N.k)).toArray)(g:st=wu (ez N.k)):A9 (Sw E W (w.alloc (B7 cs st)) i s0 [] (one N D) [fl N.k w.heap.size] [] []):=(S.fin0 N vn d (S.nm _ (bB ..)) cs e st g (M':=[]) (fun h b=>by cases b) (fun c a=>by
 have a:(c++(vn.ownBlock.toList++mB M)).Nodup:=a;rw[show mB []=[] from rfl,eo,eo];rw[<-cH]at a;exact(List.perm_append_comm.nodup_iff).1 (List.nodup_append.1 a).1)).drop (fun h b=>by cases b) (.inr rfl)
theorem Bp(S:A9 (Sw E W w i kv vs D vs T M))(N:Nd)(a:ny N (ez N.k)=N)(d:N.nm=[])(b:cs=([Z Ax N.k,Z Ax N.f,Z Ax N.t,Z Ax N.l,Z Ax 0,kv]++exT N s0 (ez N.k)).toArray)(g:st=wu (ez N.k)):A9 (Sw E W (w.alloc (B7 cs st)) i s0 [] (one N D) [fl N.k w.heap.size] T M):=S.fin0 N s0 a (by rw[d];exact cE _ _ _ _) cs b st g (fun j e=>e) (fun h c=>by rw[show(s0:B3).ownBlock.toList=[] from rfl,ep,eo];exact c)
theorem rG(S:A9 (Sw E W w i kv vs D vs T M))(N:Nd)(a:ny N (ez N.k)=N)(c:N.nm=[])(b:cs=([Z Ax N.k,Z Ax N.f,Z Ax N.t,Z Ax N.l,Z Ax 0,kv]++exT N s0 (ez N.k)).toArray)(e:st=wu (ez N.k)):A9 (Sw E W (w.alloc (B7 cs st)) i s0 [] (one N D) [fl N.k w.heap.size] [] []):=(Bp S N a c b e).out.drop (fun g d=>by cases d) (.inr rfl)
theorem Bk.cell:∀(R:Fo)(vs:List B3){lo:Nat}{a:Option Nat},Bk w lo a R vs->∀u∈vs,u.oneCell'=O
 | .nil,vs,lo,a,⟨c,h⟩=>by obtain⟨rfl,rfl⟩:=h;intro u hu;cases hu
 | .cons i m f,vs,lo,a,⟨c,j,q,t,s,o,g,l,b,d,k,p,n,r,e⟩=>by
  intro u hu;rw[d.1]at hu;rcases List.mem_cons.1 hu with rfl|hu
  ·rfl
  ·exact Bk.cell f g ⟨b,e⟩ u hu
theorem aeI:(Tryz.prog.info? 72).map (fun i=>(i.zero,i.size,i.bytes))=V (V .nilIface,1,16):=by kernel_rfl
theorem ig{q:Array Oper}{r:List Oper}{o:Oper}{a:Act}{Q:Exit->Act->Cr->Prop}(i:o.guard=Y)(s x:Operand)(k:o.op= .call {callee:= .builtin .append,args:=#[s,x],argTypes:=#[113,113]}){base v:Nat}{t:B3}(m:a.eval s=kv)(f:w.ownsRow base 72 1 kv kn.length kn)(n:a.eval x=t)(L:w.ownsRow v 72 1 t us.length us)(A:∀u∈us,u.oneCell'=O)(am:kn.length+us.length<=100000000)(C:base<=w.heap.size)
  (h:∀b d c w',w'.ownsRow base 72 1 (.slice b d c) (kn++us).length (kn++us)->d=kn.length+us.length->w.grownBy w' kv.ownBlock->((C7 b d c).ownBlock=kv.ownBlock\/(C7 b d c).ownBlock=V w.heap.size)->wpList X q Q r (a.put o.dst (.slice b d c)) w'):wpList X q Q (o::r) a w:=by
 obtain⟨p,j,H,I,J⟩:=dD aeI;rcases L.2 with⟨rfl,G⟩|⟨z,y,ad,rfl,al,E,af,ag,ak,g⟩
 ·refine wpList_append_own_none i s x 113 k base 72 p 1 Tryz.underlying113 j _ _ _ m f n ?_;obtain⟨b,c,rfl⟩:=cj f;obtain rfl:us=[]:=List.length_eq_zero_iff.1 G;exact h _ _ _ w (by simpa using f) (by simp) (uB _ _) (.inl rfl)
 ·refine wpList_append_own_at _ i s x 113 k base 72 p _ 1 16 Tryz.underlying113 j H I J rfl (by decide) _ _ _ m f ⟨z,0,Y⟩ us.length y us n (by omega) (fun K u e=>World.news_of_block E K u (by rw[ti]at g;rw[<-g,mu]at e;split at e;exact e;cases e)) A (by unfold Ck;omega) (by omega) C ?_;intro an w1 l F _ B;obtain⟨b,c,rfl⟩:=cj l;exact h _ _ _ w1 (by rw[aB];exact l) rfl F B
end
open Go.Maps Go.WideMaps
section
variable {E : Pe} {i j k k1 : Nat} {x y R Ex : Fo}
theorem Bq(a:ez nk=6)(b:Nat):fl nk b= U 118 (.pointer (V ⟨b,0,Y⟩)):=by unfold fl;rw[a];rfl
theorem Ge(a:ez nk=6)(s:Tk)(e:Int):ny (lg nk s e) (ez nk)=lg nk s e:=by rw[a];rfl
theorem Gf(j:i+1<E.n){k:Int}(g:k≠6)(a:ez nk=6)(c:(E.tk i).k=k):CN E 138 #[pV E,Z Ax nk] i (one (lg nk (E.tk i) (E.tk i).t) .nil) (i+1):=by
 intro m b l;have d:=Sw.start b;clear b;go_in;go_wp2_with fail;refine cJ (er d c (by omega) g) fun w1 e=>?_;go_wp2_with fail;refine cJ (gB e c (by omega) (by omega) _ _ _ _) fun h f=>?_;go_wp2_with fail;go_ret;exact⟨_,rfl,Bq a h.heap.size ▸ rG f (lg nk (E.tk i) (E.tk i).t) (Ge a _ _) rfl (by show _=(_++exT _ _ (ez nk)).toArray;rw[a];rfl) (by show _=wu (ez nk);rw[a];rfl)⟩
theorem amt(B:∀(args:Array B3) (w:Cr),(callFunc f args).run X w= .ok (.enter f args) w)(C:i<E.n){k:Int}(r:k≠6)(a:ez nk=6)(b:(E.tk i).k=k)(v:CN E f #[pV E] (i+1) x j)(F:i+1<=j)(s:j<=E.n):CN E 141 #[pV E,Z Ax nk,.func (.func f) #[pV E] #[]] i (one (lg nk (E.tk i) (E.tk (j-1)).t) x) (j):=by
 intro w d u;have l:=Sw.start d;clear d;go_in;simp only[de,Fo.sz_app]at u;go_wp21
 refine cJ (er l b (by omega) r) fun w1 m=>?_;obtain⟨G,e,o⟩:=lB m b;simp only[mj]at e;go_wp21
 clear e;refine(jn o v).mono ?_;rintro z H ⟨h,g,rfl,c⟩;obtain⟨J,K,L,ad,af,ag⟩:=nF c b;obtain⟨I,A,p⟩:=qu c [U h g] #[U h g] rfl 1 rfl (by decide);go_wp21
 refine cJ (gB p b (by omega) s _ _ _ _) fun y q=>?_;go_wp21
 go_ret;exact⟨_,rfl,Bq a y.heap.size ▸ rG q (lg nk (E.tk i) (E.tk (j-1)).t) (Ge a _ _) rfl (by show _=(_++exT _ _ (ez nk)).toArray;rw[a];rfl) (by show _=wu (ez nk);rw[a];rfl)⟩
theorem aop(a:(E.tk i).k=31)(A:i<E.n)(v:CN E 142 #[pV E] (i+1) x k)(w:CN E 144 #[pV E] k y j)(B:i+1<=j)(C:j<=E.n):CN E 136 #[pV E] i (one (lg 8 (E.tk i) (E.tk (j-1)).t) (x.app y)) (j):=by
 intro F c u;have l:=Sw.start c;clear c;simp only[de,Fo.sz_app]at u;go_in;go_wp21
 refine cJ (er l a (by omega)) fun w1 m=>?_;obtain⟨G,d,o⟩:=lB m a;simp only[mj]at d;go_wp21
 refine(jn o v).mono ?_;rintro s H ⟨g,e,rfl,p⟩;clear d;go_wp21
 refine(jn p w).mono ?_;rintro s I ⟨h,f,rfl,q⟩;obtain⟨J,z,b⟩:=qu q [U g e,U h f] #[U g e,U h f] rfl 2 rfl (by decide);obtain⟨L,ad,af,ag,ak,al⟩:=nF b a;go_wp21
 refine cJ (gB b a (by omega) (by omega) 8 _ _ _) fun K r=>?_;go_wp21
 go_ret;exact⟨_,rfl,rG r (lg 8 (E.tk i) (E.tk (j-1)).t) rfl rfl rfl rfl⟩
theorem aoq(a:(E.tk i).k=42)(s:i<E.n)(o:CR E 60 #[pV E] (i+1) x k)(l:(E.tk k).k=43)(u:k+1<E.n):CN E 144 #[pV E] i (one (lg 1 (E.tk i) (E.tk k).t) x) (k+1):=by
 intro z c m;have e:=Sw.start c;clear c;simp only[de,Fo.sz_app]at m;go_in;go_wp21
 refine cJ (er e a (by omega)) fun w1 f=>?_;obtain⟨A,d,g⟩:=lB f a;simp only[mj]at d;go_wp21
 refine(zA g o).mono ?_;rintro r B ⟨p,w,q,y,rfl,h,v⟩;clear d;go_wp21
 refine cJ (er h l (by omega)) fun C b=>?_;obtain⟨G,H,I,J,K,L⟩:=nF b a;go_wp21
 refine cJ (gB b a (by omega) (by omega) 1 _ _ _) fun F j=>?_;go_wp21
 go_ret;exact⟨_,rfl,rG j (lg 1 (E.tk i) (E.tk k).t) rfl rfl rfl rfl⟩
end
section
variable {E : Pe} {i j k k1 : Nat} {x y R Ex : Fo}
theorem adb{m:Nat}(bb:∀(args:Array B3) (w:Cr),(callFunc f args).run X w= .ok (.enter f args) w)(a2:CN E f #[pV E] i x k)(H:Ls E (CN E f #[pV E]) m k R j):CR E 178 #[pV E,.func (.func f) #[pV E] #[]] i (x.app R) j:=by
 intro w C ar;have z:=Sw.start C;have v:=H;have av:=ar;rw[Fo.sz_app]at av;clear C H;go_in;go_wp21
 refine(jn z a2).mono ?_;rintro e w1 ⟨L,J,rfl,A⟩;obtain⟨bj,ap,a⟩:=qu A [U L J] #[U L J] rfl 1 rfl (by decide);have s:=a;go_wp21
 clear ap z A a;go_loopg [5] m (fun gk a7 wr=>∃(k:Nat) (D d:Fo) (l:Option Addr) (r n:Nat) (us:List B3),a7= A5 l r n/\A9 (Ls E (CN E f #[pV E]) gk k d j/\Sw E w wr k (A5 l r n) us D us [] []/\D.app d=x.app R))
 case atStart=>exact⟨k,x,R,_,1,1,_,rfl,v,s,rfl⟩
 case round=>
  clear s v;obtain⟨bf,D,d,l,r,n,us,rfl,u⟩:=hrel;obtain⟨ao,q,b⟩:=u.out;have a:=q;have bd:=Bk.len _ _ q.nn;clear q u;cases ao with
  |stop o p=>
   rw[Fo.app_nil]at b;go_wp21
   refine cJ (wG a o p) fun a8 g=>?_;go_wp21
   go_ret;exact⟨_,us,rfl,by rw[<-b];exact g⟩
  |@go a4 _ a3 _ af y o p an B=>
   have be:D.sz+(af.sz+y.sz)<=50000000:=by have e:=congrArg Fo.sz b;simp only[Fo.sz_app]at e;omega
   have a9:=D.len_le;have t:=dC b B;clear b B;go_wp21
   refine cJ (vy a o p) fun a8 g=>?_;go_wp21
   refine(jn g an).mono ?_;rintro e c ⟨ad,K,rfl,h⟩;go_wp2_with (at_builtin;refine ig rfl _ _ rfl rfl (sB h (bG c _)).out.ro rfl (lC (base:=c.heap.size) (e:=72) (size:=1) c #[U ad K] 1 (ae _) (by unfold Ck;omega) rfl) (us:=[U ad K]) (by intro bh a1;rw[List.mem_singleton.1 a1];rfl) (by simp only[bi,dH];omega) (by rw[dr];have:=h.gr.size;omega) ?_;intro al a6 am bk I a0 G F;have ak:=(sB h (bG c _)).out.put I G F;clear I a0 G F);have ag:=ak;go_roundg a4
   case measure=>omega
   case rel=>exact⟨a3,D.app af,y,al,a6,am,_,rfl,t.2,ag,by rw[Fo.app_app];exact t.1⟩
theorem ahI{m:Nat}(hj:(E.tk j).k=43\/(E.tk j).k=6)(B:Ss E (CN E 94 #[pV E]) m i R j):CR E 60 #[pV E] i R j:=by
 intro av y a2;have t:=Sw.start y;have v:=B;clear y B;go_in;go_wp21
 go_loopg [3] m (fun gk ar wr=>∃(k:Nat) (D h:Fo) (l:Option Addr) (o n:Nat) (us:List B3),ar= A5 l o n/\A9 (Ss E (CN E 94 #[pV E]) gk k h j/\Sw E av wr k (A5 l o n) us D us [] []/\D.app h=R))
 case atStart=>exact⟨i,.nil,R,Y,0,0,[],rfl,v,t,rfl⟩
 case round=>
  clear t v;obtain⟨ao,D,h,l,o,n,us,rfl,u⟩:=hrel;obtain⟨ak,r,a⟩:=u.out;have p:=r;have a3:=Bk.len _ _ r.nn;clear r u;cases ak with
  |stop x=>
   rw[Fo.app_nil]at a;rcases hj with hj|hj;all_goals
    go_wp21
    refine cJ (jd p hj) fun H c=>?_;go_wp21
    go_ret;exact⟨_,us,rfl,by rw[<-a];exact c⟩
  |@sep s _ _ _ q x f=>
   have b:=dC a f;clear a f;go_wp21
   refine cJ (jd p q) fun H c=>?_;go_wp21
   refine cJ (er c q (by omega)) fun g d=>?_;go_wp21
   go_roundg s
   case measure=>omega
   case rel=>exact⟨ao+1,D,h,l,o,n,us,rfl,b.2,d,b.1⟩
  |@go s _ an _ I w q x a0 af ag f=>
   have a4:D.sz+(I.sz+w.sz)<=50000000:=by have e:=congrArg Fo.sz a;simp only[Fo.sz_app]at e;omega
   have a1:=D.len_le;have b:=dC a f;clear a f;go_wp21
   refine cJ (jd p rfl af) fun H c=>?_;go_wp21
   refine(jn c ag).mono ?_;rintro e g ⟨G,F,rfl,d⟩;go_wp2_with (at_builtin;refine ig rfl _ _ rfl rfl (sB d (bG g _)).out.ro rfl (lC (base:=g.heap.size) (e:=72) (size:=1) g #[U G F] 1 (ae _) (by unfold Ck;omega) rfl) (us:=[U G F]) (by intro a6 am;rw[List.mem_singleton.1 am];rfl) (by simp only[bi,dH];omega) (by rw[dr];have:=d.gr.size;omega) ?_;intro L ap ad a7 C al A z;have K:=(sB d (bG g _)).out.put C A z;clear C al A z);have J:=K;go_roundg s
   case measure=>omega
   case rel=>exact⟨an,D.app I,w,L,ap,ad,_,rfl,b.2,J,by rw[Fo.app_app];exact b.1⟩
theorem alb(b c d e f a:B3)(w:Cr):(Instr.field 49 (C5 #[b,c,d,e,f,a]) 5).run X w= .ok a w:=by kernel_rfl
def CT(a:Pe)(i:Nat)(ns:List ByteArray)(j:Nat):Prop:=
 ∀w,Pp a w i->B1 X 176 #[pV a] w fun b w'=>∃v,b= A0 v/\(Pp a w' j/\w.grownBy w' (V a.pb))/\w'.ownsRow w.heap.size 9 1 v (ns.map B6).length (ns.map B6)
theorem Sw.putN{j:Cr}{v r:B3}{ns m:List ByteArray}(h:Sw E W w i s0 [] .nil [] T [(v,ns)])(o:j.ownsRow W.heap.size 9 1 r (m.map B6).length (m.map B6))(g:w.grownBy j v.ownBlock):Sw E W j i s0 [] .nil [] T [(r,m)]:=by
 have n:=h.nm (v,ns) (bB ..);have l:∀{f:Nat}{d:Array B3}{p:TypeId}{e:Nat×Nat},w.heap[f]?=V (B7 d p e)->p≠9->j.heap[f]?=V (B7 d p e):=fun b t=>(g.block _ (ai b) (fun k=>ll n b t k.symm)).trans b;obtain⟨d,e,u,x⟩:=h.pp.tks;obtain⟨z,s,q⟩:=h.pp.pw;have y:=(g.block _ (ai q) (fun k=>by have:=(n.lt _ k.symm).1;have:=h.lt;have:=h.pp.pg;omega)).trans q;refine⟨⟨h.pp.hn,⟨d,e,l u (by decide),x⟩,l h.pp.row (by decide),h.pp.pg,z,s,y⟩,h.gr.andThen g (fun f b=> .inl (n.lt f b).1),h.lt,cE _ _ _ _,⟨[],⟨rfl,rfl⟩,by simp[mB,Id]⟩,fun c a=>⟨(h.tb c a).1,(h.tb c a).2.1,l (h.tb c a).2.2 (h.tb c a).2.1.2⟩,fun c a=>?_⟩;obtain rfl:=List.mem_singleton.1 a;exact o
theorem Eg{D:Fo}{ns:List ByteArray}(S:A9 (Sw E W w i kv kn D vs T M))(C:CT E i ns j):B1 X 176 #[pV E] w fun e w'=>∃a n c,e= A0 (A5 a n c)/\A9 (Sw E W w' j kv kn D vs T ((A5 a n c,ns)::M)):=by
 refine(C w S.pp).mono ?_;rintro e w' ⟨g,d,f,b⟩;obtain⟨a,c,rfl⟩:=cj b;exact⟨a,_,c,d,S.name f b⟩
theorem yc{ns:List ByteArray}(an:(E.tk i).k=1)(a2:i<E.n)(H:ej E.tk E.n (i+1) ns j):CT E i ((E.tk i).x::ns) j:=by
 intro e s;have y:=Sw.start s;have w:=H;have a3:=s.hn;have a1:=alb;clear s H;go_in;go_wp21
 refine cJ (er y an (by omega)) fun w1 o=>?_;simp only[mj];go_wp21
 have q:=bG w1 (B7 #[C2 (E.tk i).x] 9);have u:A9 (Sw E e (w1.alloc (B7 #[C2 (E.tk i).x] 9)) (i+1) s0 [] .nil [] [] [(A5 (V ⟨w1.heap.size,0,Y⟩) 1 1,[(E.tk i).x])]):=o.name ⟨o.pp.keep (rE q _),rE q _⟩ (ad4 w1 (E.tk i).x);clear y o q;go_loopg [3] ns.length (fun gk ap wr=>∃(k:Nat) (D l:List ByteArray) (b:Option Addr) (n c:Nat),ap= A5 b n c/\gk=l.length/\D.length=n/\A9 (ej E.tk E.n k l j/\Sw E e wr k s0 [] .nil [] [] [(A5 b n c,D)]/\D++l=(E.tk i).x::ns/\i+2*D.length=k+1))
 case atStart=>exact⟨i+1,[(E.tk i).x],ns,_,1,1,rfl,rfl,rfl,w,u,rfl,by simp⟩
 case round=>
  clear u w;obtain⟨d,D,l,b,n,c,rfl,am,h,v⟩:=hrel;obtain⟨ag,F,g,ak⟩:=v.out;have z:=F;clear F v;cases ag with
  |stop r B=>
   rw[eo]at g;go_wp21
   refine cJ (wG z r B) fun ar a=>?_;go_wp21
   go_ret;exact⟨_,rfl,⟨a.pp,a.gr⟩,by rw[<-g];exact a.nm _ (bB ..)⟩
  |@go _ _ I r B ad C=>
   have ao:n<=50000000:=by omega
   have m:=iF g C ak;clear g C;go_wp21
   refine cJ (vy z r) fun ar a=>?_;go_wp21
   refine cJ (er a ad (by omega)) fun f p=>?_;simp only[mj];have t:=p.nm _ (bB ..);rw[cA,h]at t;have K:A9 (f.ownsRow e.heap.size 9 1 (A5 b n c) n (D.map B6)):=t;clear t;go_wp2_with (at_builtin;refine aaB rfl _ _ rfl e.heap.size b n c D rfl h (bJ K (bG f _)) (by rw[dr];have:=p.gr.size;omega) f.heap.size (E.tk (d+1)).x rfl (ay f _) ao ?_;intro af A a0 J G al;have L:A9 (Sw E e a0 (d+1+1) s0 [] .nil [] [] [(A5 (V ⟨af,0,Y⟩) (n+1) A,D++[(E.tk (d+1)).x])]):=(sB p (bG f _)).out.putN (by rw[cA,aB,h];exact J) G;clear J G al);go_roundg I.length
   case measure=>rw[am];simp
   case rel=>exact⟨d+2,D++[(E.tk (d+1)).x],I,_,n+1,A,rfl,rfl,by rw[aB,h];rfl,m.2.1,L,by rw[cH];exact m.1,by have:=m.2.2;rw[aB,yj];omega⟩
end
section
variable {E : Pe} {i j k k1 : Nat} {x y R Ex : Fo}
theorem aqo(a b c d e f:B3)(w:Cr):(Instr.field 49 (C5 #[a,b,c,d,e,f]) 0).run X w= .ok a w:=by kernel_rfl
theorem cfE(args:Array B3)(w:Cr):(callFunc 142 args).run X w= .ok (.enter 142 args) w:=by kernel_rfl
theorem cfB(args:Array B3)(w:Cr):(callFunc 143 args).run X w= .ok (.enter 143 args) w:=by kernel_rfl
theorem aqp(a:(E.tk i).k=22)(r:i<E.n)(m:CT E (i+1) NS k)(s:i+1<=k)(u:k<E.n)(l:(E.tk k).k≠47):CN E 132 #[pV E] i (one (nd 2 (E.tk i) (E.tk (k-1)).t 0 0 z0 NS) .nil) (k):=by
 intro x c v;have e:=Sw.start c;clear c;go_in;go_wp21
 refine cJ (er e a (by omega)) fun w1 f=>?_;obtain⟨y,d,g⟩:=lB f a;simp only[mj]at d;go_wp21
 refine(Eg g m).mono ?_;rintro q z ⟨o,w,p,rfl,h⟩;clear d;go_wp21
 refine cJ (wG h l) fun A b=>?_;obtain⟨C,F,G,H,I,J⟩:=nF b a;go_wp21
 refine cJ (gB b a (by omega) (by omega) 2 _ _ _) fun B j=>?_;go_wp21
 go_ret;exact⟨_,rfl,abj (nd 2 (E.tk i) (E.tk (k-1)).t 0 0 z0 NS) j rfl rfl rfl⟩
theorem arD(a:(E.tk i).k=22)(y:i<E.n)(s:CT E (i+1) NS k)(z:i+1<=k)(C:k<E.n)(p:(E.tk k).k=47)(q:CR E 178 #[pV E,.func (.func 142) #[pV E] #[]] (k+1) Ex j)(A:k+1<=j)(B:j<=E.n):CN E 132 #[pV E] i (one (nd 2 (E.tk i) (E.tk (j-1)).t 0 0 z0 NS) Ex) (j):=by
 intro J c r;have e:=Sw.start c;clear c;simp only[de,Fo.sz_app]at r;go_in;go_wp21
 refine cJ (er e a (by omega)) fun w1 f=>?_;obtain⟨K,d,g⟩:=lB f a;simp only[mj]at d;go_wp21
 refine(Eg g s).mono ?_;rintro o L ⟨v,H,x,rfl,h⟩;clear d;go_wp21
 refine cJ (vy h p) fun ad l=>?_;go_wp21
 refine(zA l q).mono ?_;rintro o af ⟨u,G,w,I,rfl,b,F⟩;obtain⟨ak,al,am,ao,ap,ar⟩:=nF b a;go_wp21
 refine cJ (gB b a (by omega) (by omega) 2 _ _ _) fun ag m=>?_;go_wp21
 go_ret;exact⟨_,rfl,abj (nd 2 (E.tk i) (E.tk (j-1)).t 0 0 z0 NS) m rfl rfl rfl⟩
theorem aor(a:(E.tk i).k=13)(B:i<E.n)(v:CT E (i+1) NS k)(C:i+1<=k)(H:k<E.n)(s:(E.tk k).k=47)(w:CN E 142 #[pV E] (k+1) x j)(F:k+1<=j)(G:j<=E.n):CN E 133 #[pV E] i (one (nd 3 (E.tk i) (E.tk (j-1)).t 0 0 z0 NS) x) (j):=by
 intro J c u;have g:=Sw.start c;clear c;simp only[de,Fo.sz_app]at u;go_in;go_wp21
 refine cJ (er g a (by omega)) fun w1 h=>?_;obtain⟨K,d,l⟩:=lB h a;simp only[mj]at d;go_wp21
 refine(Eg l v).mono ?_;rintro r L ⟨y,I,z,rfl,m⟩;clear d;go_wp21
 refine cJ (er m s (by omega)) fun ad o=>?_;go_wp21
 refine(jn o w).mono ?_;rintro r af ⟨f,e,rfl,b⟩;obtain⟨al,am,ao,ap,ar,av⟩:=nF b a;obtain⟨ag,A,p⟩:=qu b [U f e] #[U f e] rfl 1 rfl (by decide);go_wp21
 refine cJ (gB p a (by omega) (by omega) 3 _ _ _) fun ak q=>?_;go_wp21
 go_ret;exact⟨_,rfl,abj (nd 3 (E.tk i) (E.tk (j-1)).t 0 0 z0 NS) q rfl rfl rfl⟩
theorem fnP(a:(E.tk i).k=18)(C:i<E.n)(w:CT E (i+1) NS k)(F:i+1<=k)(I:k<E.n){kb:Int}(s:kb≠6)(u:(E.tk k).k=kb)(y:CN E 180 #[pV E,C5 (mj kb (E.tk k))] k x j)(G:k+1<=j)(H:j<=E.n):CN E 134 #[pV E] i (one (nd 4 (E.tk i) (E.tk (j-1)).t 0 0 z0 NS) x) (j):=by
 intro K c v;have g:=Sw.start c;clear c;simp only[de,Fo.sz_app]at v;go_in;go_wp21
 refine cJ (er g a (by omega)) fun w1 h=>?_;obtain⟨L,d,l⟩:=lB h a;simp only[mj]at d;go_wp21
 refine(Eg l w).mono ?_;rintro r ad ⟨z,J,A,rfl,m⟩;clear d;go_wp21
 refine cJ (ud m u (by omega) s) fun af o=>?_;go_wp21
 refine(jn o y).mono ?_;rintro r ag ⟨f,e,rfl,b⟩;obtain⟨am,ao,ap,ar,av,a0⟩:=nF b a;obtain⟨ak,B,p⟩:=qu b [U f e] #[U f e] rfl 1 rfl (by decide);go_wp21
 refine cJ (gB p a (by omega) (by omega) 4 _ _ _) fun al q=>?_;go_wp21
 go_ret;exact⟨_,rfl,abj (nd 4 (E.tk i) (E.tk (j-1)).t 0 0 z0 NS) q rfl rfl rfl⟩
theorem aqq(g:i<E.n)(hk:(E.tk i).k=5\/(E.tk i).k=6\/(E.tk i).k=43){D:Fo}(b:A9 (Sw E W w i kv kn D vs T M)):B1 X 181 #[pV E] w fun e w'=>e= A0 (C4 O)/\A9 (Sw E W w' i kv kn D vs T M):=by
 rcases hk with hk|hk|hk
 ·go_in;go_wp21
  refine cJ (jd b hk) fun w1 a=>?_;go_wp21
  go_ret;exact⟨rfl,a⟩
 ·go_in;go_wp21
  refine cJ (jd b hk) fun w1 a=>?_;go_wp21
  refine cJ (jd a hk) fun f c=>?_;go_wp21
  go_ret;exact⟨rfl,c⟩
 ·go_in;go_wp21
  refine cJ (jd b hk) fun w1 a=>?_;go_wp21
  refine cJ (jd a hk) fun f c=>?_;go_wp21
  refine cJ (jd c hk) fun h d=>?_;go_wp21
  go_ret;exact⟨rfl,d⟩
theorem aqr(j:i<E.n)(f:(E.tk i).k≠5)(g:(E.tk i).k≠6)(h:(E.tk i).k≠43){D:Fo}(a:A9 (Sw E W w i kv kn D vs T M)):B1 X 181 #[pV E] w fun e w'=>e= A0 (C4 Ce)/\A9 (Sw E W w' i kv kn D vs T M):=by
 have l:((E.tk i).k==5)=Ce:=by simp[f]
 have m:((E.tk i).k==6)=Ce:=by simp[g]
 have o:((E.tk i).k==43)=Ce:=by simp[h]
 go_in;go_wp21
 refine cJ (jd a rfl) fun w1 b=>?_;go_wp21
 refine cJ (jd b rfl) fun p c=>?_;go_wp21
 refine cJ (jd c rfl) fun q d=>?_;go_wp21
 go_ret;exact⟨rfl,d⟩
theorem aqs(a:(E.tk i).k=27)(l:i+1<E.n)(j:(E.tk (i+1)).k=5\/(E.tk (i+1)).k=6\/(E.tk (i+1)).k=43):CN E 139 #[pV E] i (one (lg 13 (E.tk i) (E.tk i).t) .nil) (i+1):=by
 intro o c m;have e:=Sw.start c;clear c;go_in;go_wp21
 refine cJ (er e a (by omega)) fun w1 f=>?_;obtain⟨p,d,g⟩:=lB f a;simp only[mj]at d;go_wp21
 clear d;refine cJ (aqq l j g) fun q b=>?_;obtain⟨s,u,v,w,x,y⟩:=nF b a;go_wp21
 refine cJ (gB b a (by omega) (by omega) 13 _ _ _) fun r h=>?_;go_wp21
 go_ret;exact⟨_,rfl,rG h (lg 13 (E.tk i) (E.tk i).t) rfl rfl rfl rfl⟩
theorem arE(a:(E.tk i).k=27)(r:i+1<E.n)(m:(E.tk (i+1)).k≠5)(o:(E.tk (i+1)).k≠6)(p:(E.tk (i+1)).k≠43)(q:CR E 178 #[pV E,.func (.func 142) #[pV E] #[]] (i+1) Ex j)(x:i+1<=j)(y:j<=E.n):CN E 139 #[pV E] i (one (lg 13 (E.tk i) (E.tk (j-1)).t) Ex) (j):=by
 intro C c s;have e:=Sw.start c;clear c;simp only[de,Fo.sz_app]at s;go_in;go_wp21
 refine cJ (er e a (by omega)) fun w1 f=>?_;obtain⟨F,d,g⟩:=lB f a;simp only[mj]at d;go_wp21
 clear d;refine cJ (aqr r m o p g) fun G h=>?_;go_wp21
 refine(zA h q).mono ?_;rintro w H ⟨u,A,v,B,rfl,b,z⟩;obtain⟨J,K,L,ad,af,ag⟩:=nF b a;go_wp21
 refine cJ (gB b a (by omega) (by omega) 13 _ _ _) fun I l=>?_;go_wp21
 go_ret;exact⟨_,rfl,rG l (lg 13 (E.tk i) (E.tk (j-1)).t) rfl rfl rfl rfl⟩
theorem arF(a:(E.tk i).k=30)(I:i<E.n)(B:CN E 144 #[pV E] (i+1) x k)(w:(E.tk k).k=12)(L:k+1<E.n)(A:CT E (k+1) NS k1)(C:CN E 144 #[pV E] k1 y j)(J:i+1<=j)(K:j<=E.n):CN E 140 #[pV E] i (one (nd 14 (E.tk i) (E.tk (j-1)).t 0 0 z0 NS) (x.app y)) (j):=by
 intro af d z;have m:=Sw.start d;clear d;simp only[de,Fo.sz_app]at z;go_in;go_wp21
 refine cJ (er m a (by omega)) fun w1 o=>?_;obtain⟨ag,e,p⟩:=lB o a;simp only[mj]at e;go_wp21
 refine(jn p B).mono ?_;rintro c ak ⟨h,f,rfl,q⟩;clear e;go_wp21
 refine cJ (er q w (by omega)) fun al r=>?_;go_wp21
 refine(Eg r A).mono ?_;rintro c am ⟨F,ad,G,rfl,s⟩;go_wp21
 refine(jn s C).mono ?_;rintro c ao ⟨l,g,rfl,b⟩;obtain⟨av,a0,a1,a2,a3,a4⟩:=nF b a;obtain⟨ap,H,u⟩:=qu b [U h f,U l g] #[U h f,U l g] rfl 2 rfl (by decide);go_wp21
 refine cJ (gB u a (by omega) (by omega) 14 _ _ _) fun ar v=>?_;go_wp21
 go_ret;exact⟨_,rfl,abj (nd 14 (E.tk i) (E.tk (j-1)).t 0 0 z0 NS) v rfl rfl rfl⟩
theorem arG(a:(E.tk i).k=19)(ao:i<E.n)(G:CT E (i+1) NS k)(ap:i+1<=k)(a0:k<E.n)(A:(E.tk k).k=47)(B:CR E 178 #[pV E,.func (.func 142) #[pV E] #[]] (k+1) Ex k1)(K:CN E 144 #[pV E] k1 y j)(ar:k+1<=j)(av:j<=E.n):CN E 137 #[pV E] i (one (nd 9 (E.tk i) (E.tk (j-1)).t 0 0 z0 NS) (Ex.app y)) (j):=by
 intro a9 h C;have s:=Sw.start h;clear h;simp only[de,Fo.sz_app]at C;have am:=aqo;go_in;go_wp21
 refine cJ (er s a (by omega)) fun w1 u=>?_;obtain⟨bb,m,v⟩:=lB u a;simp only[mj]at m;go_wp21
 refine(Eg v G).mono ?_;rintro e bd ⟨af,a4,al,rfl,w⟩;clear m;go_wp21
 refine cJ (er w A (by omega)) fun be x=>?_;simp only[mj];go_wp21
 refine(zA x B).mono ?_;rintro e bf ⟨L,a2,ag,a8,rfl,d,H⟩;have F:=Bk.len _ _ d.nn;simp only[ep]at F;have a1:(Fo.nil.app Ex).len<=Ex.sz:=Fo.len_le _;clear H;go_wp21
 refine(jn d K).mono ?_;rintro e b ⟨r,q,rfl,c⟩;go_wp2_with (at_builtin;refine ig rfl _ _ rfl rfl (sB c (bG b _)).out.ro rfl (lC (base:=b.heap.size) (e:=72) (size:=1) b #[U r q] 1 (ae _) (by unfold Ck;omega) rfl) (us:=[U r q]) (by intro a6 J;rw[List.mem_singleton.1 J];rfl) (by simp only[bi,dH];omega) (by rw[dr];have:=c.gr.size;omega) ?_;intro ad a3 ak bh p I o l;have g:=(sB c (bG b _)).out.put p o l;clear p I o l;have f:=g;clear g;obtain⟨bk,bl,bn,bo,br,bs⟩:=nF f a);refine cJ (gB f a (by omega) (by omega) 9 _ _ _) fun bj z=>?_;go_wp21
 go_ret;exact⟨_,rfl,abj (nd 9 (E.tk i) (E.tk (j-1)).t 0 0 z0 NS) z rfl rfl rfl⟩
theorem aqt(a:(E.tk i).k=19)(ap:i<E.n)(H:CT E (i+1) NS k)(ar:i+1<=k)(a1:k<E.n)(B:(E.tk k).k=21)(C:CR E 178 #[pV E,.func (.func 142) #[pV E] #[]] (k+1) x k1)(L:CN E 144 #[pV E] k1 y j)(av:k+1<=j)(a0:j<=E.n):CN E 137 #[pV E] i (one (nd 10 (E.tk i) (E.tk (j-1)).t 0 0 z0 NS) (x.app y)) (j):=by
 intro bb h F;have s:=Sw.start h;clear h;simp only[de,Fo.sz_app]at F;have ao:=aqo;go_in;go_wp21
 refine cJ (er s a (by omega)) fun w1 u=>?_;obtain⟨bd,m,v⟩:=lB u a;simp only[mj]at m;go_wp21
 refine(Eg v H).mono ?_;rintro e be ⟨ag,a6,am,rfl,w⟩;clear m;go_wp21
 refine cJ (er w B (by omega)) fun bf z=>?_;simp only[mj];go_wp21
 refine(zA z C).mono ?_;rintro e bh ⟨ad,a3,ak,a9,rfl,d,I⟩;have G:=Bk.len _ _ d.nn;simp only[ep]at G;have a2:(Fo.nil.app x).len<=x.sz:=Fo.len_le _;clear I;go_wp21
 refine(jn d L).mono ?_;rintro e b ⟨r,q,rfl,c⟩;go_wp2_with (at_builtin;refine ig rfl _ _ rfl rfl (sB c (bG b _)).out.ro rfl (lC (base:=b.heap.size) (e:=72) (size:=1) b #[U r q] 1 (ae _) (by unfold Ck;omega) rfl) (us:=[U r q]) (by intro a8 K;rw[List.mem_singleton.1 K];rfl) (by simp only[bi,dH];omega) (by rw[dr];have:=c.gr.size;omega) ?_;intro af a4 al bj p J o l;have g:=(sB c (bG b _)).out.put p o l;clear p J o l;have f:=g;clear g;obtain⟨bl,bn,bo,br,bs,bt⟩:=nF f a);refine cJ (gB f a (by omega) (by omega) 10 _ _ _) fun bk A=>?_;go_wp21
 go_ret;exact⟨_,rfl,abj (nd 10 (E.tk i) (E.tk (j-1)).t 0 0 z0 NS) A rfl rfl rfl⟩
end
section
variable {E : Pe} {i j k k1 : Nat} {x y R Ex : Fo}
theorem arH{q:Int}(G:q=20\/q=15)(a:(E.tk i).k=q)(H:i<E.n)(B:CN E 142 #[pV E] (i+1) x k)(C:CN E 144 #[pV E] k y k1)(J:k1<E.n)(F:(E.tk k1).k≠15)(w:(E.tk k1).k≠16)(I:i+1<=k1):CN E 135 #[pV E] i (one (lg 7 (E.tk i) (E.tk (k1-1)).t) (x.app y)) (k1):=by
 intro K c A;have j:=Sw.start c;clear c;simp only[de,Fo.sz_app]at A;go_in;go_wp21
 refine cJ (er j a (by omega) (by omega)) fun w1 l=>?_;obtain⟨L,d,m⟩:=lB l a;simp only[mj]at d;go_wp21
 refine(jn m B).mono ?_;rintro v ad ⟨g,e,rfl,o⟩;clear d;go_wp21
 refine(jn o C).mono ?_;rintro v af ⟨h,f,rfl,p⟩;obtain⟨ag,z,r⟩:=qu p [U g e,U h f] #[U g e,U h f] rfl 2 rfl (by decide);go_wp21
 refine cJ (jd r rfl) fun ak s=>?_;clear z;go_wp21
 refine cJ (wG s w) fun al b=>?_;obtain⟨an,ao,ap,ar,av,a0⟩:=nF b a;go_wp21
 refine cJ (gB b a (by omega) (by omega) 7 _ _ _) fun am u=>?_;go_wp21
 go_ret;exact⟨_,rfl,rG u (lg 7 (E.tk i) (E.tk (k1-1)).t) rfl rfl rfl rfl⟩
theorem arI{q:Int}(ap:q=20\/q=15)(a:(E.tk i).k=q)(ar:i<E.n)(ak:CN E 142 #[pV E] (i+1) x k)(al:CN E 144 #[pV E] k y k1)(a1:k1<E.n)(K:(E.tk k1).k=15){z:Fo}(am:CN E 135 #[pV E] k1 z j)(av:i+1<=j)(a0:j<=E.n):CN E 135 #[pV E] i (one (lg 7 (E.tk i) (E.tk (j-1)).t) ((x.app y).app z)) (j):=by
 intro a4 g ad;have A:=Sw.start g;clear g;simp only[de,Fo.sz_app]at ad;go_in;go_wp21
 refine cJ (er A a (by omega) (by omega)) fun w1 B=>?_;obtain⟨a5,l,C⟩:=lB B a;simp only[mj]at l;go_wp21
 refine(jn C ak).mono ?_;rintro e a6 ⟨u,p,rfl,F⟩;clear l;go_wp21
 refine(jn F al).mono ?_;rintro e a8 ⟨v,r,rfl,G⟩;obtain⟨a9,L,H⟩:=qu G [U u p,U v r] #[U u p,U v r] rfl 2 rfl (by decide);go_wp21
 refine cJ (jd H K) fun bb I=>?_;clear L;go_wp21
 refine(jn I am).mono ?_;rintro e b ⟨w,s,rfl,c⟩;go_wp2_with (at_builtin;refine ig rfl _ _ rfl rfl (sB c (bG b _)).out.ro rfl (lC (base:=b.heap.size) (e:=72) (size:=1) b #[U w s] 1 (ae _) (by unfold Ck;omega) rfl) (us:=[U w s]) (by intro a3 ag;rw[List.mem_singleton.1 ag];rfl) (by simp only[bi,dH];omega) (by rw[dr];have:=c.gr.size;omega) ?_;intro an a2 ao bd o af m h;have f:=(sB c (bG b _)).out.put o m h;clear o af m h;have d:=f;clear f;obtain⟨bf,bh,bj,bk,bl,bn⟩:=nF d a);refine cJ (gB d a (by omega) (by omega) 7 _ _ _) fun be J=>?_;go_wp21
 go_ret;exact⟨_,rfl,rG J (lg 7 (E.tk i) (E.tk (j-1)).t) rfl rfl rfl rfl⟩
theorem arJ{q:Int}(ar:q=20\/q=15)(a:(E.tk i).k=q)(av:i<E.n)(al:CN E 142 #[pV E] (i+1) x k)(am:CN E 144 #[pV E] k y k1)(a2:k1<E.n)(h:(E.tk k1).k=16){z:Fo}(an:CN E 144 #[pV E] (k1+1) z j)(a0:i+1<=j)(a1:j<=E.n):CN E 135 #[pV E] i (one (lg 7 (E.tk i) (E.tk (j-1)).t) ((x.app y).app z)) (j):=by
 intro a5 g af;have B:=Sw.start g;clear g;simp only[de,Fo.sz_app]at af;go_in;go_wp21
 refine cJ (er B a (by omega) (by omega)) fun w1 C=>?_;obtain⟨a6,m,F⟩:=lB C a;simp only[mj]at m;go_wp21
 refine(jn F al).mono ?_;rintro e a8 ⟨v,r,rfl,G⟩;clear m;go_wp21
 refine(jn G am).mono ?_;rintro e a9 ⟨w,s,rfl,H⟩;obtain⟨bb,ad,I⟩:=qu H [U v r,U w s] #[U v r,U w s] rfl 2 rfl (by decide);go_wp21
 refine cJ (jd I h) fun bd J=>?_;clear ad;go_wp21
 refine cJ (vy J h) fun be K=>?_;go_wp21
 refine(jn K an).mono ?_;rintro e b ⟨A,u,rfl,c⟩;go_wp2_with (at_builtin;refine ig rfl _ _ rfl rfl (sB c (bG b _)).out.ro rfl (lC (base:=b.heap.size) (e:=72) (size:=1) b #[U A u] 1 (ae _) (by unfold Ck;omega) rfl) (us:=[U A u]) (by intro a4 ak;rw[List.mem_singleton.1 ak];rfl) (by simp only[bi,dH];omega) (by rw[dr];have:=c.gr.size;omega) ?_;intro ao a3 ap bf p ag o l;have f:=(sB c (bG b _)).out.put p o l;clear p ag o l;have d:=f;clear f;obtain⟨bj,bk,bl,bn,bo,br⟩:=nF d a);refine cJ (gB d a (by omega) (by omega) 7 _ _ _) fun bh L=>?_;go_wp21
 go_ret;exact⟨_,rfl,rG L (lg 7 (E.tk i) (E.tk (j-1)).t) rfl rfl rfl rfl⟩
theorem ahJ{D:Fo}{args:Array B3}(S:A9 (Sw E W w i kv kn D vs T M))(C:CR E f args i R j)(g:R.sz<=50000000):B1 X f args w fun e w'=>∃a n c us,e= A0 (A5 a n c)/\A9 (Sw E W w' j kv kn (D.app R) (vs++us) T M)/\A9 (w'.ownsRow w.heap.size 72 1 (A5 a n c) us.length us/\(∀u∈us,u.oneCell'=O)/\us.length=R.len):=by
 refine(C w S.pp g).mono ?_;rintro e w' ⟨h,us,d,b⟩;obtain⟨a,c,rfl⟩:=cj b.ro;exact⟨a,_,c,us,d,S.sub b,b.ro,Bk.cell _ _ b.nn,Bk.len _ _ b.nn⟩
theorem doP{q:Int}(v:q=1\/q=40)(a:(E.tk i).k=q)(w:i<E.n)(p:CR E 178 #[pV E,.func (.func 143) #[pV E] #[]] i x j)(m:(E.tk j).k≠47)(z:j<E.n)(y:i+1<=j):CN E 145 #[pV E] i (one (lg 6 (E.tk i) (E.tk (j-1)).t) x) (j):=by
 intro F c o;have e:=Sw.start c;clear c;simp only[de,Fo.sz_app]at o;go_in;go_wp21
 refine cJ (ud e a (by omega) (by omega)) fun w1 f=>?_;obtain⟨G,d,g⟩:=lB f a;simp only[mj]at d;go_wp21
 refine(zA g p).mono ?_;rintro u H ⟨r,B,s,C,rfl,h,A⟩;clear d;go_wp21
 refine cJ (wG h m) fun I b=>?_;obtain⟨K,L,ad,af,ag,ak⟩:=nF b a;go_wp21
 refine cJ (gB b a (by omega) (by omega) 6 _ _ _) fun J l=>?_;go_wp21
 go_ret;exact⟨_,rfl,rG l (lg 6 (E.tk i) (E.tk (j-1)).t) rfl rfl rfl rfl⟩
theorem setP{q:Int}(al:q=1\/q=40)(a:(E.tk i).k=q)(am:i<E.n)(H:CR E 178 #[pV E,.func (.func 143) #[pV E] #[]] i x k)(A:(E.tk k).k=47)(ap:k<E.n)(B:CR E 178 #[pV E,.func (.func 142) #[pV E] #[]] (k+1) Ex j)(an:k+1<=j)(ao:j<=E.n):CN E 145 #[pV E] i (one (nd 5 (E.tk i) (E.tk (j-1)).t 0 (x.len:Nat) z0 []) (x.app Ex)) (j):=by
 intro a4 h C;have s:=Sw.start h;clear h;simp only[de,Fo.sz_app]at C;go_in;go_wp21
 refine cJ (ud s a (by omega) (by omega)) fun w1 u=>?_;obtain⟨a6,m,v⟩:=lB u a;simp only[mj]at m;go_wp21
 refine(zA v H).mono ?_;rintro z a8 ⟨K,I,af,J,rfl,c,p⟩;clear m;have e:A9 (I=x.len/\J.length=x.len):=⟨by rw[<-p];exact Bk.len _ _ c.nn,Bk.len _ _ c.nn⟩;have av:=x.len_le;have ar:=Ex.len_le;clear p;go_wp21
 refine cJ (vy c A) fun a9 w=>?_;go_wp21
 refine(ahJ w B (by omega)).mono ?_;rintro z bb ⟨L,a0,ag,a2,rfl,d,b⟩;go_wp2_with (at_builtin;refine ig rfl _ _ rfl rfl d.ro rfl b.1 b.2.1 (by have:=b.2.2;have:=e.2;omega) (by have:=d.gr.size;omega) ?_;intro ad a1 ak bd r G o l;have g:=d.put r o l;clear r G o l;have f:=g;clear g;obtain⟨bf,bh,bj,bk,bl,bn⟩:=nF f a);refine cJ (gB f a (by omega) (by omega) 5 _ _ _) fun be y=>?_;have F:=e.1;subst F;go_wp21
 go_ret;exact⟨_,rfl,rG y (nd 5 (E.tk i) (E.tk (j-1)).t 0 (x.len:Nat) z0 []) rfl rfl rfl rfl⟩
def stF(a:Pe)(k:Int):FuncId×Array B3:=
 if k=22 then(132,#[pV a])
 else if k=13 then(133,#[pV a])
 else if k=18 then(134,#[pV a])
 else if k=20 then(135,#[pV a])
 else if k=31 then(136,#[pV a])
 else if k=19 then(137,#[pV a])
 else if k=11 then(138,#[pV a,Z Ax 11])
 else if k=23 then(138,#[pV a,Z Ax 12])
 else if k=27 then(139,#[pV a])
 else if k=30 then(140,#[pV a])
 else if k=28 then(141,#[pV a,Z Ax 15,.func (.func 142) #[pV a] #[]])
 else if k=14 then(141,#[pV a,Z Ax 16,.func (.func 143) #[pV a] #[]])
 else if k=42 then(144,#[pV a])
 else if k=1 then(145,#[pV a])
 else(145,#[pV a])
theorem lL{q:Int}(g:(E.tk i).k=q)(l:i<E.n)(a:q=22\/q=13\/q=18\/q=20\/q=31\/q=19\/q=11\/q=23\/q=27\/q=30\/q=28\/q=14\/q=42\/q=1\/q=40)(b:CN E (stF E q).1 (stF E q).2 i R j):CN E 94 #[pV E] i R j:=by
 rcases a with rfl|rfl|rfl|rfl|rfl|rfl|rfl|rfl|rfl|rfl|rfl|rfl|rfl|rfl|rfl;all_goals
  simp only[stF]at b;simp at b;intro o c a;have d:=Sw.start c;clear c;go_in;go_wp2_with fail;refine cJ (jd d g) fun w1 e=>?_;go_wp2_with fail;refine(jn e b a).mono ?_;rintro h p ⟨m,p2,rfl,f⟩;go_wp2_with fail;go_ret;exact⟨_,rfl,f⟩
end
theorem ahK(h:(dL ns).1=0):∀(i:Nat) N,ns[i]?=V N->jf ns i N=O:=by
 unfold dL at h;by_cases d:jD ns=O
 ·rw[ab d]at h;exact absurd h (by decide)
 rw[aa d]at h;obtain⟨e,c⟩:=aA (ir (fE ns) ns.length 0);rw[c]at h;cases e with
 |some i=>rw[tf2]at h;exact absurd h (by simp)
 |none=>
  have f:=qo c;intro i N b;have g:i<ns.length:=(List.getElem?_eq_some_iff.1 b).1;have a:=f i (aF _) (by omega);unfold fE at a;rw[aK,b,gj]at a;simpa using a
theorem aos{a b d:Bool}(h:bC N a b Ce d=O):N.x.size<=4000:=by
 unfold bC at h;simp only[cd,GH]at h;have:=aG h.1.2;have c:N.x.toList.length=0:=by rw[this];rfl
 rw[fC]at c;have:N.x.size=0:=by simpa using c
 omega
theorem ahL{s:ByteArray}(h:mG s=O):s.size<=4000:=by
 have:=(aG h).1;omega
theorem aqu{s:ByteArray}(h:fok s=O):s.size<=4000:=by
 unfold fok at h;rw[cd]at h;have:=aG h.1;omega
theorem ma(h:jf ns i N=O):pG ns N=O/\N.ks.length<=200:=by
 unfold jf at h;rw[cd,cd]at h;exact⟨h.2.2,(aG h.1).2.2.2⟩
theorem xi(h:pG ns N=O)(a:17<=N.k:=by omega):jB ns N=O:=by
 unfold pG at h
 rwa [aa (by unfold jJ;rw[decide_eq_true_eq];omega)]at h
theorem qv(h:pG ns N=O)(a:1<=N.k/\N.k<=16:=by omega):stB ns N=O:=by
 unfold pG at h
 rwa [ab (by unfold jJ;rw[decide_eq_true_eq];omega)]at h
theorem Ll(h:pG ns N=O):(1<=N.k/\N.k<=16)\/(20<=N.k/\N.k<=37)\/(40<=N.k/\N.k<=42):=by
 by_cases a:1<=N.k/\N.k<=16
 ·exact .inl a
 ·unfold pG at h;rw[aa (by unfold jJ;rw[decide_eq_true_eq];exact a)]at h;by_cases b:(20<=N.k/\N.k<=37)\/(40<=N.k/\N.k<=42)
  ·exact .inr b
  ·unfold jB at h
   repeat rw[aa (by omega)]at h
   cases h
theorem adc(h:pG ns N=O):bC N (decide (N.k=30\/N.k=31\/N.k=36)) (decide (N.k=5\/N.k=23)) (decide (N.k=24\/N.k=25\/N.k=26\/N.k=33\/N.k=42)) (decide (N.k=2\/N.k=3\/N.k=4\/N.k=9\/N.k=10\/N.k=14\/N.k=36))=O:=by
 rcases Ll h with g|g|g
 ·have h:=qv h g;unfold stB at h;rcases(show N.k=1\/N.k=2\/N.k=3\/N.k=4\/N.k=5\/N.k=6\/N.k=7\/N.k=8\/N.k=9\/N.k=10\/N.k=11\/N.k=12\/N.k=13\/N.k=14\/N.k=15\/N.k=16 by omega) with e|e|e|e|e|e|e|e|e|e|e|e|e|e|e|e;all_goals (simp[e]at h;simp[e,h])
 ·have h:=xi h;unfold jB at h;rcases(show N.k=20\/N.k=21\/N.k=22\/N.k=23\/N.k=24\/N.k=25\/N.k=26\/N.k=27\/N.k=28\/N.k=29\/N.k=30\/N.k=31\/N.k=32\/N.k=33\/N.k=34\/N.k=35\/N.k=36\/N.k=37 by omega) with e|e|e|e|e|e|e|e|e|e|e|e|e|e|e|e|e|e;all_goals (simp[e]at h;simp[e,h])
 ·have h:=xi h;unfold jB at h;rcases(show N.k=40\/N.k=41\/N.k=42 by omega) with e|e|e;all_goals (simp[e]at h;simp[e,h])
theorem abk(h:jf ns i N=O):N.x.size<=4000:=by
 have b:=(ma h).1;have a:=adc b;by_cases c:N.k=24\/N.k=25\/N.k=26\/N.k=33\/N.k=42
 ·have h:=xi b;unfold jB at h;rcases c with e|e|e|e|e<;>simp[e]at h
  ·exact aqu h.2
  ·omega
  all_goals exact ahL h.2
 ·rw[aD c]at a;exact aos a
theorem ade(ns:List Nd):∀i,iD (ns.take i)=(iD ns).take i:=by
 refine ua (p:=fun ns=>∀i,iD (ns.take i)=(iD ns).take i) ?_ ?_ ns
 ·intro i;simp[iD]
 ·intro a d c i;rcases aH i (a++[d]).length with h|h
  ·have b:i<=a.length:=by rw[aB]at h;simp at h;omega
   rw[List.take_append_of_le_length b,c,tL,List.take_append_of_le_length (by rw[jA];exact b)]
  ·rw[dj h,dj (by rw[jA];exact h)]
theorem ah0(h:ns[i]?=V N):(iD ns).getD i 0=sC ((iD ns).take i) i N.ks:=by
 have e:i<ns.length:=(List.getElem?_eq_some_iff.1 h).1;have b:ns.take (i+1)=ns.take i++[N]:=by rw[iw,h];rfl
 have a:=ade ns (i+1);rw[b,tL,ade,jx,jA,yv (by omega),iw]at a;have c:(iD ns)[i]?=V ((iD ns).getD i 0):=by
  rw[aK,aE (by rw[jA];exact e)];rfl
 rw[c]at a;have d:=List.append_cancel_left a;simpa using d.symm
def ut(S:List Int):List Int->Int
 |[]=>0
 |k::l=>S.getD k.toNat 0+ut S l
theorem ah1(S:List Int)(a b:List Int):ut S (a++b)=ut S a+ut S b:=by
 induction a with
 |nil=>simp[ut]
 |cons d e c=>simp only[eC,ut,c];omega
theorem ah2(S:List Int)(l:List Int):ut S l.reverse=ut S l:=by
 induction l with
 |nil=>rfl
 |cons b l a=>rw[List.reverse_cons,ah1,a];simp only[ut];omega
theorem adf{S:List Int}:∀(l:List Int)(a b:Int),xI S l a=V b->b=a-ut S l
 |[],a,b,h=>by simp[xI]at h;simp[ut];omega
 |k::r,a,b,h=>by
  rw[xI]at h;split at h
  ·have:=adf r _ _ h;simp only[ut];omega
  ·cases h
theorem ah3(S:List Int)(i:Nat)(l:List Int)(h:∀k∈l,0<=k/\k<(i:Int)):ut (S.take i) l=ut S l:=by
 induction l with
 |nil=>rfl
 |cons k l c=>
  have a:=h k bB;have b:(S.take i).getD k.toNat 0=S.getD k.toNat 0:=by
   rw[aK,aK,List.getElem?_take_of_lt (by omega)]
  simp only[ut,b,c fun k a=>h k (cL _ a)]
structure aqv (ns:List Nd):Prop where
 at_:∀(i:Nat) N,ns[i]?=V N->(iD ns).getD i 0=1+ut (iD ns) N.ks
 le:∀i,(iD ns).getD i 0<=3000
theorem alc(h:(dL ns).1=0):aqv ns:=by
 have i:=zq h;unfold dL at h;by_cases k:jD ns=O
 ·rw[ab k]at h;exact absurd h (by decide)
 rw[aa k]at h;obtain⟨l,p⟩:=aA (ir (fE ns) ns.length 0);rw[p]at h;cases l with
 |some a=>rw[tf2]at h;exact absurd h (by simp)
 |none=>
  rw[tf2]at h;obtain⟨m,j⟩:=aA (ir (gu (iD ns)) ns.length 0);rw[j]at h;cases m with
  |some a=>rw[tf3]at h;exact absurd h (by simp)
  |none=>
   have q:=qo j;have r:Dy (iD ns):=Aw ns (fun d c g f=>by
    obtain⟨a,hi,e⟩:=il c;exact(i.kid a d (by rw[aE hi,e]) g f).1)
   refine⟨fun a d c=>?_,fun a=>?_⟩
   ·have hi:a<ns.length:=(List.getElem?_eq_some_iff.1 c).1;have b:=q a (aF _) (by omega);unfold gu at b;rw[ah0 c]at b⊢;unfold sC at b⊢;cases hw:xI ((iD ns).take a) d.ks.reverse a with
    |none=>rw[hw]at b;simp at b
    |some n=>
     have e:=adf _ _ _ hw;rw[ah2,ah3 _ _ _ (fun g f=>i.kid a d c g f)]at e;show(a:Int)-n+1=_;omega
   ·rcases aH a ns.length with hi|hi
    ·have o:(iD ns)[a]?=V ((iD ns).getD a 0):=by
      rw[aK,aE (by rw[jA];exact hi)];rfl
     have:=r a _ o;have:=i.len;omega
    ·rw[aK,gE (by rw[jA];exact hi)];decide
theorem oy(ns:List Nd)(N:Nd)(j:Nat):gc ns N j=(nodeI ns (dG N j)).k:=rfl
theorem mJ:∀(f j:Nat),lF ns N f j=O->∀q,j<=q->q<j+f->gF (nodeI ns (dG N q)).k=O
 |0,j,_,q,a,b=>by omega
 |f+1,j,h,q,a,b=>by
  rw[lF,cd]at h;rcases jj a with rfl|h3
  ·exact h.1
  ·exact mJ f (j+1) h.2 q h3 (by omega)
theorem ah4:∀(f j:Nat),sbB ns N f j=O->∀q,j<=q->q<j+f->jJ (nodeI ns (dG N q)).k=O
 |0,j,_,q,a,b=>by omega
 |f+1,j,h,q,a,b=>by
  rw[sbB,cd]at h;rcases jj a with rfl|h3
  ·exact h.1
  ·exact ah4 f (j+1) h.2 q h3 (by omega)
theorem aeJ(h:Bm k=O):gF k=O:=by
 have:=aG h;exact bv (by omega)
theorem amu:∀(f j:Nat),tgB ns N f j=O->∀q,j<=q->q<j+f->gF (nodeI ns (dG N q)).k=O
 |0,j,_,q,a,b=>by omega
 |f+1,j,h,q,a,b=>by
  rw[tgB,cd]at h;rcases jj a with rfl|h3
  ·exact aeJ h.1
  ·exact amu f (j+1) h.2 q h3 (by omega)
theorem adg:∀(f j:Nat),enB ns N f j=O->∀q,j<=q->q<j+f->40<=(nodeI ns (dG N q)).k/\(nodeI ns (dG N q)).k<=42
 |0,j,_,q,a,b=>by omega
 |f+1,j,h,q,a,b=>by
  rw[enB,cd]at h;rcases jj a with rfl|h3
  ·exact aG h.1
  ·exact adg f (j+1) h.2 q h3 (by omega)
structure Kid (ns:List Nd) (i:Nat) (N:Nd) (j q:Nat):Prop where
 at_:N.ks[j]?=V (q:Int)
 lt:q<i
 len:q<ns.length
 id:dG N j=(q:Int)
theorem ij(h:jf ns i N=O)(d:i<ns.length)(j:Nat)(b:j<N.ks.length):∃q,Kid ns i N j q:=by
 unfold jf at h;rw[cd,cd]at h;have c:=zo N.ks i N.ks.length 0 h.2.1 j (by omega) (by omega);have a:N.ks[j]?=V (N.ks.getD j 0):=by rw[aK,aE b];rfl
 refine⟨(N.ks.getD j 0).toNat,?_,by omega,by omega,?_⟩
 ·rw[a];congr 1;omega
 ·show N.ks.getD j 0=_;omega
theorem oz{z:Int}(h:z∈N.ks):∃j,j<N.ks.length/\dG N j=z:=by
 obtain⟨j,a,b⟩:=il h;exact⟨j,a,by unfold dG;rw[aK,aE a];exact b⟩
theorem nG(h:pG ns N=O)(a:N.k=28\/N.k=29\/N.k=31\/N.k=32\/N.k=41:=by omega):N.ks.length=2/\lF ns N 2 0=O/\(N.k=31->1<=N.op/\N.op<=18):=by
 have h:=xi h;unfold jB at h;rcases a with e|e|e|e|e<;>simp[e]at h<;>exact⟨by omega,by simp[h],by omega⟩
theorem oK(h:pG ns N=O)(a:N.k=30\/N.k=33\/N.k=37\/N.k=40\/N.k=42:=by omega):N.ks.length=1/\gF (nodeI ns (dG N 0)).k=O/\(N.k=30->19<=N.op/\N.op<=22):=by
 have h:=xi h;unfold jB at h;rcases a with e|e|e|e|e<;>simp[e,oy]at h
 ·exact⟨by omega,mJ 1 0 h.1.1.1.2 0 (by omega) (by omega),by omega⟩
 ·exact⟨by omega,mJ 1 0 h.1.1.1.2 0 (by omega) (by omega),by omega⟩
 ·exact⟨by omega,bv (by omega),by omega⟩
 ·exact⟨by omega,mJ 1 0 h.1.2 0 (by omega) (by omega),by omega⟩
 ·exact⟨by omega,mJ 1 0 h.1.1.2 0 (by omega) (by omega),by omega⟩
theorem IG(h:pG ns N=O)(a:N.k=34):1<=N.ks.length/\lF ns N N.ks.length 0=O:=by
 have h:=xi h;unfold jB at h;simp[a,oy]at h;exact⟨by omega,h.1.1.2⟩
theorem Eh(h:pG ns N=O)(a:N.k=35):enB ns N N.ks.length 0=O:=by
 have h:=xi h;unfold jB at h;simp[a]at h;exact h.1
theorem vz{a b:Int}(h:fG N a b=O)(c:b<=200):a<=(N.nm.length:Int)/\N.nm.length<=200:=by
 unfold fG at h;rw[cd]at h;have:=aG h.1;omega
theorem ah5(h:pG ns N=O)(a:N.k=36):N.ks.length=1/\(nodeI ns (dG N 0)).k=1/\N.nm.length<=200/\(N.op=0\/N.op=1):=by
 have h:=xi h;unfold jB at h;simp[a,oy]at h;exact⟨by omega,h.1.1.1.2,(vz h.1.2 (by omega)).2,h.2⟩
theorem Lm(h:pG ns N=O)(a:N.k=1):sbB ns N N.ks.length 0=O:=by
 have h:=qv h;unfold stB at h;simp[a]at h;exact h.1
theorem ah6(h:pG ns N=O)(a:20<=N.k/\N.k<=27):N.ks.length=0:=by
 have h:=xi h;unfold jB at h;rcases(show N.k=20\/N.k=21\/N.k=22\/N.k=23\/N.k=24\/N.k=25\/N.k=26\/N.k=27 by omega) with e|e|e|e|e|e|e|e<;>simp[e]at h<;>simp[h]
def sN(ns:List Nd)(i:Int):Nat:=((iD ns).getD i.toNat 0).toNat
def sK(ns:List Nd):List Int->Nat
 |[]=>0
 |k::l=>sN ns k+sK ns l
theorem aot(ns:List Nd)(a b:List Int):sK ns (a++b)=sK ns a+sK ns b:=by
 induction a with
 |nil=>simp[sK]
 |cons d e c=>simp only[eC,sK,c];omega
theorem Ei(ns:List Nd)(l:List Int)(n:Nat):sK ns l=sK ns (l.take n)+sK ns (l.drop n):=by rw[<-aot,vD]
structure Szd (ns:List Nd):Prop where
 nb:∀i:Nat,i<ns.length->jf ns i (nodeI ns i)=O
 at_:∀i:Nat,i<ns.length->sN ns i=1+sK ns (nodeI ns i).ks
 le:∀i:Int,sN ns i<=3000
theorem ah7(h:(dL ns).1=0):Szd ns:=by
 have g:=alc h;have p:=zq h;have n:=ahK h;have l:Dy (iD ns):=Aw ns (fun i j e k=>by
  obtain⟨a,b,c⟩:=il j;exact(p.kid a i (by rw[aE b,c]) e k).1)
 have o:∀a:Nat,0<=(iD ns).getD a 0:=by
  intro a;rw[aK];cases c:(iD ns)[a]? with
  |none=>decide
  |some r=>exact(l a r c).1
 have q:∀d:List Int,ut (iD ns) d=(sK ns d:Int):=by
  intro d
  induction d with
  |nil=>rfl
  |cons e s m=>
   have:=o e.toNat;simp only[ut,sK,m,sN];omega
 have f:∀a:Nat,a<ns.length->ns[a]?=V (nodeI ns a):=fun a b=>by
  unfold nodeI;rw[jz,List.getD,aE b];rfl
 refine⟨fun a b=>n a _ (f a b),fun a b=>?_,fun a=>?_⟩
 ·have c:=g.at_ a _ (f a b);rw[q]at c;show((iD ns).getD (a:Int).toNat 0).toNat=_;rw[jz,c];omega
 ·have:=g.le a.toNat;unfold sN;omega
theorem Gg(l:List ByteArray):(ft l).size<=(l.map fun x=>x.size+2).sum:=by
 have d:∀a,(ft (l.take a)).size<=((l.take a).map fun x=>x.size+2).sum:=by
  intro a
  induction a with
  |zero=>show(A2).size<=_;exact aF _
  |succ a b=>
   rcases aH a l.length with h|h
   ·rw[pF l a _ (aE h),ax,List.take_succ_eq_append_getElem h,eB,List.sum_append];have c:js.size=2:=rfl;have:(if a=0 then ft (l.take a) else ft (l.take a)++js).size<=(ft (l.take a)).size+2:=by
     split
     ·omega
     ·rw[ax,c];exact ae _
    simp only[kJ,List.map_nil,List.sum_cons,List.sum_nil];omega
   ·rw[dj (by omega)];rw[dj (by omega)]at b;exact b
 have:=d l.length
 rwa [dj (ae _)]at this
theorem abl(ns:List Nd)(b:Int->Nat)(d:Nat)(a:List Int)(h:∀z∈a,b z+10000<=2000000*sN ns z)(j:d<=10000):(a.map fun z=>b z+d).sum<=2000000*sK ns a:=by
 induction a with
 |nil=>exact aF _
 |cons z k e=>
  have g:=h z bB;have i:=e fun f c=>h f (cL _ c);simp only[kJ,List.sum_cons,sK,Nat.mul_add];omega
theorem ue(ns:List Nd)(b:Int->ByteArray)(a:List Int)(h:∀z∈a,(b z).size+10000<=2000000*sN ns z):(ft (a.map b)).size<=2000000*sK ns a:=by
 refine bg (Gg _) ?_;rw[List.map_map];exact abl ns (fun z=>(b z).size) 2 a h (by omega)
theorem Lp(l:List ByteArray)(h:∀s∈l,s.size<=4000):(ft l).size<=4002*l.length:=by
 refine bg (Gg _) ?_
 induction l with
 |nil=>exact aF _
 |cons c g b=>
  have e:=h c bB;have f:=b fun d a=>h d (cL _ a);simp only[kJ,List.sum_cons,bi];omega
theorem Gh(l:List ByteArray):(jc l).size=(l.map ByteArray.size).sum:=by
 have c:∀(a:ByteArray),(l.foldl (· ++·) a).size=a.size+(l.map ByteArray.size).sum:=by
  induction l with
  |nil=>intro a;simp
  |cons e d b=>intro a;rw[tq,b,ax,kJ,List.sum_cons];omega
 have:=c A2;rw[show ByteArray.empty.size=0 from rfl]at this;unfold jc;omega
theorem aou(ns:List Nd)(S:Int->Nat->ByteArray)(a:List Int)(tab:Nat)(e:tab<=9000)(h:∀z∈a,(S z (tab+1)).size+10000<=2000000*sN ns z):(F8 S a tab).size+10000<=2000000*(1+sK ns a)-900000:=by
 unfold F8;by_cases b:a=[]
 ·rw[ab b];show 2+10000<=_;omega
 ·rw[aa b,ax,ax,ax,Gh,np,List.map_map];have c:(a.map (ByteArray.size ∘ fun d=>lJ (tab+1)++S d (tab+1)))=a.map fun z=>(S z (tab+1)).size+(tab+2):=by
   apply List.map_congr_left;intro z f;simp only[Function.comp];rw[ax,np];omega
  rw[c];have:=abl ns (fun z=>(S z (tab+1)).size) (tab+2) a h (by omega);show 1+_+(tab+1)+1+10000<=_;omega
theorem zB(h:lF ns N 1 0=O):gF (nodeI ns (dG N 0)).k=O:=mJ 1 0 h 0 (by omega) (by omega)
theorem ah8(h:pG ns N=O)(a:N.k=2):lF ns N N.ks.length 0=O/\N.nm.length<=200:=by
 have h:=qv h;unfold stB at h;simp only[a]at h;simp at h;exact⟨h.2,(vz h.1.2 (by omega)).2⟩
theorem Ej(h:pG ns N=O)(b:N.k=3):N.ks.length=1/\gF (nodeI ns (dG N 0)).k=O/\N.nm.length=1:=by
 have h:=qv h;unfold stB at h;simp[b]at h;have:=vz h.1.1.2 (by omega);have a:=h.1.1.2;unfold fG at a;rw[cd]at a;have:=aG a.1;exact⟨by omega,zB h.2,by omega⟩
theorem abm(h:pG ns N=O)(b:N.k=4):N.ks.length=1/\(nodeI ns (dG N 0)).k=36/\N.nm.length=1:=by
 have h:=qv h;unfold stB at h;simp[b,oy]at h;have a:=h.1.1.2;unfold fG at a;rw[cd]at a;have:=aG a.1;exact⟨by omega,h.2,by omega⟩
theorem aov(h:pG ns N=O)(a:N.k=5):1<=N.n/\N.n<(N.ks.length:Int)/\tgB ns N N.n.toNat 0=O/\lF ns N (N.ks.length-N.n.toNat) N.n.toNat=O:=by
 have h:=qv h;unfold stB at h;simp[a]at h;exact⟨h.2.1.1,h.2.1.2,h.2.2.1,h.2.2.2⟩
theorem Gi(h:pG ns N=O)(a:N.k=6\/N.k=16):N.ks.length=1/\(nodeI ns (dG N 0)).k=34:=by
 have h:=qv h;unfold stB at h;rcases a with e|e<;>simp[e,oy]at h<;>exact⟨by omega,h.2⟩
theorem ah9(h:pG ns N=O)(a:N.k=7):2<=N.ks.length/\N.ks.length<=3/\gF (nodeI ns (dG N 0)).k=O/\(nodeI ns (dG N 1)).k=1/\(N.ks.length=2\/(nodeI ns (dG N 2)).k=1\/(nodeI ns (dG N 2)).k=7):=by
 have h:=qv h;unfold stB at h;simp[a,oy]at h;exact⟨h.2.1.1,h.2.1.2,zB h.2.2.1,h.2.2.2.1,by omega⟩
theorem Ek(h:pG ns N=O)(a:N.k=8):N.ks.length=2/\gF (nodeI ns (dG N 0)).k=O/\(nodeI ns (dG N 1)).k=1:=by
 have h:=qv h;unfold stB at h;simp[a,oy]at h;exact⟨by omega,zB h.1.2,h.2⟩
theorem abn(h:pG ns N=O)(b:N.k=9):(N.ks.length=3\/N.ks.length=4)/\lF ns N (N.ks.length-1) 0=O/\(nodeI ns (dG N (N.ks.length-1))).k=1/\N.nm.length=1:=by
 have h:=qv h;unfold stB at h;simp[b,oy]at h;have a:=h.2.1;unfold fG at a;rw[cd]at a;have:=aG a.1;exact⟨by omega,h.2.2.2.1,h.2.2.2.2,by omega⟩
theorem IH(h:pG ns N=O)(a:N.k=10):N.ks.length=2/\gF (nodeI ns (dG N 0)).k=O/\(nodeI ns (dG N 1)).k=1/\N.nm.length<=200:=by
 have h:=qv h;unfold stB at h;simp[a,oy]at h;exact⟨by omega,zB h.1.2,h.2,(vz h.1.1.1.2 (by omega)).2⟩
theorem aow(h:pG ns N=O)(a:N.k=13):lF ns N N.ks.length 0=O:=by
 have h:=qv h;unfold stB at h;simp[a]at h;exact h.2
theorem abo(h:pG ns N=O)(a:N.k=14):N.ks.length=2/\(nodeI ns (dG N 0)).k=1/\(nodeI ns (dG N 1)).k=1/\N.nm.length<=200:=by
 have h:=qv h;unfold stB at h;simp[a,oy]at h;exact⟨by omega,h.1.2,h.2,(vz h.1.1.1.2 (by omega)).2⟩
theorem El(h:pG ns N=O)(a:N.k=15):N.ks.length=1/\gF (nodeI ns (dG N 0)).k=O:=by
 have h:=qv h;unfold stB at h;simp[a]at h;exact⟨by omega,zB h.2⟩
theorem adh{l:List ByteArray}:∀(f j:Nat),ve l f j=O->∀q,j<=q->q<j+f->mG (l.getD q A2)=O
 |0,j,_,q,a,b=>by omega
 |f+1,j,h,q,a,b=>by
  rw[ve,cd]at h;rcases jj a with rfl|h3
  ·exact h.1
  ·exact adh f (j+1) h.2 q h3 (by omega)
theorem nH{a b:Int}(h:fG N a b=O):(∀s∈N.nm,mG s=O)/\a<=(N.nm.length:Int)/\(N.nm.length:Int)<=b:=by
 unfold fG at h;rw[cd]at h;refine⟨fun s e=>?_,aG h.1⟩;obtain⟨f,d,c⟩:=il e;have:=adh _ 0 h.2 f (by omega) (by omega);rw[aK,aE d]at this;rw[<-c];exact this
theorem aqw(h:pG ns N=O):∀s∈N.nm,mG s=O:=by
 have a:=adc h;by_cases c:N.k=2\/N.k=3\/N.k=4\/N.k=9\/N.k=10\/N.k=14\/N.k=36
 ·by_cases d:N.k=36
  ·have h:=xi h;unfold jB at h;simp[d]at h;exact(nH h.1.2).1
  ·have h:=qv h;unfold stB at h;rcases c with e|e|e|e|e|e|e<;>simp[e]at h
   ·exact(nH h.1.2).1
   ·exact(nH h.1.1.2).1
   ·exact(nH h.1.1.2).1
   ·exact(nH h.2.1).1
   ·exact(nH h.1.1.1.2).1
   ·exact(nH h.1.1.1.2).1
 ·rw[aD c]at a;unfold bC at a;simp at a;intro s b;rw[a.2]at b;cases b
theorem Em(h:pG ns N=O):∀s∈N.nm,s.size<=4000:=fun s a=>ahL (aqw h s a)
theorem En{j:Nat}(h:j<N.ks.length):N.ks[j]=dG N j:=by unfold dG;rw[aK,aE h];rfl
theorem rH(ns:List Nd)(h:N.ks.length=1):sK ns N.ks=sN ns (dG N 0):=by
 unfold dG
 match e:N.ks,h with
 |[a],_=>simp[sK]
theorem AF(ns:List Nd)(h:N.ks.length=2):sK ns N.ks=sN ns (dG N 0)+sN ns (dG N 1):=by
 unfold dG
 match e:N.ks,h with
 |[a,b],_=>simp[sK]
theorem aia(ns:List Nd)(h:N.ks.length=3):sK ns N.ks=sN ns (dG N 0)+sN ns (dG N 1)+sN ns (dG N 2):=by
 unfold dG
 match e:N.ks,h with
 |[a,b,c],_=>simp[sK];omega
theorem ald(ns:List Nd)(h:0<N.ks.length):sK ns N.ks=sK ns (N.ks.take (N.ks.length-1))+sN ns (dG N (N.ks.length-1)):=by
 rw[Ei ns N.ks (N.ks.length-1)]
 congr 1
 rw[iH (by omega),En,ju (by omega)];simp[sK]
theorem ale(ns:List Nd)(h:0<N.ks.length):sK ns N.ks=sN ns (dG N 0)+sK ns (N.ks.drop 1):=by
 rw[Ei ns N.ks 1]
 congr 1
 unfold dG
 match e:N.ks,h with
 |a::b,_=>simp[sK]
theorem Gj(n:Int)(b:n<=9223372036854775807):(xy n).size<=30:=by
 unfold xy;split
 ·rw[sr];omega
 ·rename_i a;have:=Lib.itoa_length_le n (by omega) b;show(Lib.decDigits n.toNat).toArray.size<=30;rw[iI];unfold Lib.itoa at this;simp only[a,if_false]at this;omega
theorem aib(N:Nd)(b:N.x.size<=4000)(a:N.n<=9223372036854775807):(plB N).size<=20000:=by
 unfold plB
 repeat' split
 ·show 3<=_;omega
 ·show 4<=_;omega
 ·show 5<=_;omega
 ·have:=Gj N.n a;omega
 ·omega
 ·have:=aes N.x;unfold anz at this;omega
 ·show 3<=_;omega
 ·show 0<=_;omega
theorem AG(ns:List Nd)(a:Int->ByteArray)(k b:Int):(uj ns a k b).size<=(a k).size+2:=by
 unfold uj;split
 ·rw[wz];omega
 ·omega
theorem II(ns:List Nd)(a:Int->ByteArray)(k:Int):(bsB ns a k).size<=(a k).size+2:=by
 unfold bsB;split
 ·omega
 ·rw[wz];omega
theorem alf(ns:List Nd)(N:Nd):(unS ns N).size<=4:=by
 unfold unS
 repeat' split
 ·show 4<=4;omega
 ·show 1<=4;omega
 ·show 1<=4;omega
 ·show 2<=4;omega
 ·show 1<=4;omega
theorem Lq{op:Int}(h:1<=op/\op<=18):(pJ (60+op)).size<=4:=by
 obtain⟨a,b⟩:=h;rcases(show op=1\/op=2\/op=3\/op=4\/op=5\/op=6\/op=7\/op=8\/op=9\/op=10\/op=11\/op=12\/op=13\/op=14\/op=15\/op=16\/op=17\/op=18 by omega) with rfl|rfl|rfl|rfl|rfl|rfl|rfl|rfl|rfl|rfl|rfl|rfl|rfl|rfl|rfl|rfl|rfl|rfl;all_goals decide+kernel
structure SzE (ns:List Nd) (E:Int->ByteArray) (S:Int->Nat->ByteArray) (i:Nat) (tab:Nat):Prop where
 e:∀z:Nat,z<i->(E z).size+10000<=2000000*sN ns z
 s:∀z:Nat,z<i->(S z (tab+1)).size+10000<=2000000*sN ns z
theorem SzE.kid(h:SzE ns E S i tab)(d:Szd ns){q:Nat}(k:q<=i)(a:q<ns.length):∀z∈(nodeI ns q).ks,(E z).size+10000<=2000000*sN ns z/\(S z (tab+1)).size+10000<=2000000*sN ns z:=by
 intro z g;obtain⟨j,f,rfl⟩:=oz g;obtain⟨c,b⟩:=ij (d.nb q a) a j f;rw[b.id];have:=b.lt;exact⟨h.e c (by omega),h.s c (by omega)⟩
theorem SzE.blk(h:SzE ns E S i tab)(d:Szd ns)(c:tab<=9000){q:Nat}(b:q<=i)(a:q<ns.length):(F8 S (nodeI ns q).ks tab).size+910000<=2000000*sN ns q:=by
 have:=aou ns S (nodeI ns q).ks tab c (fun f e=>(h.kid d b a f e).2);rw[d.at_ q a];omega
theorem aic(h:pG ns N=O)(b:N.nm.length<=200):(aez N).size<=810000:=by
 unfold aez;have:=Lp N.nm (Em h);simp only[ax];have a:(if N.op=1 then(if N.nm=[] then(⟨#[46,46,46]⟩:ByteArray) else js++⟨#[46,46,46]⟩) else A2).size<=5:=by
  repeat' split
  ·show 3<=5;omega
  ·show 5<=5;omega
  ·show 0<=5;omega
 show 1+_+_+2<=_;omega
theorem SzE.bod(h:SzE ns E S i tab)(d:Szd ns)(j:tab<=9000){q:Nat}(g:q<=i)(a:q<ns.length)(f:(nodeI ns q).k=36):(KJ ns S (nodeI ns q) tab).size+20000<=2000000*sN ns q:=by
 obtain⟨c,m,e,n⟩:=ah5 (ma (d.nb q a)).1 f;obtain⟨o,b⟩:=ij (d.nb q a) a 0 (by omega);have l:=h.blk d j (bg (eE b.lt) g) b.len;unfold KJ;rw[ax,b.id,d.at_ q a,rH ns c,b.id];have:=aic (ma (d.nb q a)).1 e;omega
theorem aid(h:SzE ns E S i tab)(d:Szd ns){q:Nat}(s:q<=i)(b:q<ns.length)(r:40<=(nodeI ns q).k/\(nodeI ns q).k<=42):(Az ns E (nodeI ns q)).size+10000<=2000000*sN ns q:=by
 have m:=(ma (d.nb q b)).1;have t:=abk (d.nb q b);have g:=fun p o=>ij (d.nb q b) b p o;rw[d.at_ q b];unfold Az;by_cases j:(nodeI ns q).k=41
 ·rw[ab j];obtain⟨f,_,_⟩:=nG m;obtain⟨c,a⟩:=g 0 (by omega);obtain⟨n,l⟩:=g 1 (by omega);rw[AF ns f,a.id,l.id];have:=h.e c (by have:=a.lt;omega);have:=h.e n (by have:=l.lt;omega);simp only[ax];show 1+_+4+_+_<=_;omega
 ·rw[aa j];obtain⟨f,_,_⟩:=oK m (show _ by omega);obtain⟨c,a⟩:=g 0 (by omega);rw[rH ns f,a.id];have:=h.e c (by have:=a.lt;omega);split
  ·simp only[ax];show 1+_+3+_+_<=_;omega
  ·omega
theorem aie(h:SzE ns E S i tab)(d:Szd ns)(K:tab<=9000)(c:i<ns.length)(J:(nodeI ns i).n<=9223372036854775807):(prE ns E S (nodeI ns i) tab).size+10000<=2000000*sN ns i:=by
 have j:=(ma (d.nb i c)).1;have L:=abk (d.nb i c);have g:=fun m s=>ij (d.nb i c) c m s;have v:∀(x:ByteArray)(w:Int),x.size<=100->((nodeI ns i).k=28\/(nodeI ns i).k=29\/(nodeI ns i).k=31\/(nodeI ns i).k=32\/(nodeI ns i).k=41)->(Ir ns E (nodeI ns i) x w).size+10000<=2000000*sN ns i:=by
  intro x w af I;obtain⟨f,_,_⟩:=nG j I;obtain⟨b,a⟩:=g 0 (by omega);obtain⟨l,k⟩:=g 1 (by omega);rw[d.at_ i c,AF ns f,a.id,k.id];unfold Ir;rw[a.id,k.id];have:=h.e b a.lt;have:=h.e l k.lt;have:=AG ns E b (F7 (nodeI ns i) w);have:=AG ns E l (xC (nodeI ns i).k (nodeI ns i).op);simp only[ax];omega
 unfold prE;by_cases y:(nodeI ns i).k=28
 ·rw[ab y];exact v _ _ (by show 5<=100;omega) (by omega)
 rw[aa y];by_cases A:(nodeI ns i).k=29
 ·rw[ab A];exact v _ _ (by show 4<=100;omega) (by omega)
 rw[aa A];by_cases o:(nodeI ns i).k=31
 ·rw[ab o];have:=Lq ((nG j).2.2 o);exact v _ _ (by simp only[ax];show 1+_+1<=_;omega) (by omega)
 rw[aa o];by_cases B:(nodeI ns i).k=30
 ·rw[ab B];obtain⟨f,_,_⟩:=oK j;obtain⟨b,a⟩:=g 0 (by omega);rw[d.at_ i c,rH ns f,a.id];unfold unB;rw[a.id];have:=h.e b a.lt;have:=AG ns E b 11;have:=alf ns (nodeI ns i);simp only[ax];omega
 rw[aa B];by_cases C:(nodeI ns i).k=32
 ·rw[ab C];obtain⟨f,_,_⟩:=nG j;obtain⟨b,a⟩:=g 0 (by omega);obtain⟨l,k⟩:=g 1 (by omega);rw[d.at_ i c,AF ns f,a.id,k.id];have:=h.e b a.lt;have:=h.e l k.lt;have:=II ns E b;simp only[ax];show _+1+_+1+_<=_;omega
 rw[aa C];by_cases F:(nodeI ns i).k=33
 ·rw[ab F];obtain⟨f,_,_⟩:=oK j;obtain⟨b,a⟩:=g 0 (by omega);rw[d.at_ i c,rH ns f,a.id];have:=h.e b a.lt;have:=II ns E b;simp only[ax];show _+(1+_)+_<=_;omega
 rw[aa F];by_cases p:(nodeI ns i).k=34
 ·rw[ab p];obtain⟨f,_⟩:=IG j p;obtain⟨b,a⟩:=g 0 (by omega);rw[d.at_ i c,ale ns (by omega),a.id];have:=h.e b a.lt;have:=II ns E b;have:=ue ns E ((nodeI ns i).ks.drop 1) (fun H u=>(h.kid d (ae _) c H (List.mem_of_mem_drop u)).1);simp only[ax];show _+1+_+1+_<=_;omega
 rw[aa p];by_cases q:(nodeI ns i).k=35
 ·rw[ab q];unfold ahi;have f:=Eh j q;have:=ue ns (fun ad=>Az ns E (nodeI ns ad)) (nodeI ns i).ks (fun H u=>by
   obtain⟨m,s,rfl⟩:=oz u;obtain⟨ag,t⟩:=g m s;have G:=adg _ 0 f m (by omega) (by omega);rw[t.id]at G⊢;exact aid h d (eE t.lt) t.len G)
  rw[d.at_ i c];simp only[ax];show 1+_+1+_<=_;omega
 rw[aa q];by_cases r:(nodeI ns i).k=36
 ·rw[ab r];have:=h.bod d K (ae _) c r;simp only[ax];show 2+_+_<=_;omega
 rw[aa r];by_cases z:(nodeI ns i).k=37
 ·rw[ab z];obtain⟨f,_,_⟩:=oK j;obtain⟨b,a⟩:=g 0 (by omega);rw[d.at_ i c,rH ns f,a.id,wz];have:=h.e b a.lt;omega
 rw[aa z];have:=aib (nodeI ns i) L J;rw[d.at_ i c];omega
theorem aeK(h:SzE ns E S i tab)(d:Szd ns)(m:tab<=9000)(e:i<ns.length)(s:(nodeI ns i).k=7)
  (q:∀(z:Nat)(w:ByteArray),z<i->(nodeI ns z).k=7->w.size<=10->(Br z w).size+10000<=2000000*sN ns z) (n:ByteArray) (G:n.size<=10):(D2 ns E S Br (nodeI ns i) n tab).size+10000<=2000000*sN ns i:=by
 have t:=(ma (d.nb i e)).1;have j:=fun u r=>ij (d.nb i e) e u r;obtain⟨A,B,C,F,p⟩:=ah9 t s;obtain⟨o,b⟩:=j 0 (by omega);obtain⟨v,a⟩:=j 1 (by omega);have x:=h.e o b.lt;have y:=h.blk d m (eE a.lt) a.len;unfold D2;rw[b.id,a.id,d.at_ i e];simp only[ax];rcases aH (nodeI ns i).ks.length 3 with g|g
 ·rw[ab g,AF ns (by omega),b.id,a.id];show _+_+1+_+0+_<=_;omega
 ·rw[aa (by omega),aia ns (by omega),b.id,a.id];obtain⟨l,c⟩:=j 2 (by omega);rw[c.id]at p⊢;by_cases f:(nodeI ns l).k=7
  ·rw[ab f];have:=q l ⟨#[32,101,108,105,102,32]⟩ c.lt f (by show 6<=10;omega);show _+_+1+_+_+_<=_;omega
  ·rw[aa f];have:=h.blk d m (eE c.lt) c.len;rw[ax];show _+_+1+_+(6+_)+_<=_;omega
theorem aif(h:pG ns N=O):(nm0 N).size<=4000:=by
 unfold nm0;rw[aK];cases e:N.nm[0]? with
 |none=>show 0<=4000;omega
 |some a=>exact Em h a (cG e)
theorem aig(h:SzE ns E S i tab)(d:Szd ns)(q:tab<=9000)(b:i<ns.length)
  (ad:(nodeI ns i).k=7->(Br (-1) ⟨#[105,102,32]⟩).size+10000<=2000000*sN ns i):(prS ns E S Br (nodeI ns i) tab).size+10000<=2000000*sN ns i:=by
 have f:=(ma (d.nb i b)).1;have m:=fun ak af=>ij (d.nb i b) b ak af;have s:=fun p o=>(h.kid d (ae _) b p o).1;have nm0:=aif f;have am:=Lp (nodeI ns i).nm (Em f);unfold prS;by_cases C:(nodeI ns i).k=1
 ·rw[ab C];have:=h.blk d q (ae _) b;omega
 rw[aa C];by_cases v:(nodeI ns i).k=2
 ·rw[ab v,d.at_ i b];obtain⟨c,j⟩:=ah8 f v;have:=ue ns E (nodeI ns i).ks s;simp only[ax];split
  ·show 4+_+0+_<=_;omega
  ·rw[ax];show 4+_+(3+_)+_<=_;omega
 rw[aa v];by_cases w:(nodeI ns i).k=3
 ·rw[ab w,d.at_ i b];obtain⟨c,j,r⟩:=Ej f w;obtain⟨g,a⟩:=m 0 (by omega);rw[rH ns c,a.id];have:=h.e g a.lt;simp only[ax];show 6+_+3+_+_<=_;omega
 rw[aa w];by_cases x:(nodeI ns i).k=4
 ·rw[ab x,d.at_ i b];obtain⟨c,j,r⟩:=abm f x;obtain⟨g,a⟩:=m 0 (by omega);rw[rH ns c];rw[a.id]at j⊢;have:=h.bod d q (eE a.lt) a.len j;simp only[ax];show 3+_+_+_<=_;omega
 rw[aa x];by_cases J:(nodeI ns i).k=5
 ·rw[ab J,d.at_ i b,Ei ns (nodeI ns i).ks (nodeI ns i).n.toNat];have:=ue ns E ((nodeI ns i).ks.take (nodeI ns i).n.toNat) (fun p o=>s p (vI o));have:=ue ns E ((nodeI ns i).ks.drop (nodeI ns i).n.toNat) (fun p o=>s p (List.mem_of_mem_drop o));simp only[ax];show _+3+_+_<=_;omega
 rw[aa J];by_cases K:(nodeI ns i).k=6
 ·rw[ab K,d.at_ i b];obtain⟨c,j⟩:=Gi f (by omega);obtain⟨g,a⟩:=m 0 (by omega);rw[rH ns c,a.id];have:=h.e g a.lt;omega
 rw[aa K];by_cases y:(nodeI ns i).k=7
 ·rw[ab y];exact ad y
 rw[aa y];by_cases z:(nodeI ns i).k=8
 ·rw[ab z,d.at_ i b];obtain⟨c,j,r⟩:=Ek f z;obtain⟨g,a⟩:=m 0 (by omega);obtain⟨B,l⟩:=m 1 (by omega);rw[AF ns c,a.id,l.id];have:=h.e g a.lt;have:=h.blk d q (eE l.lt) l.len;simp only[ax];show 6+_+1+_+_<=_;omega
 rw[aa z];by_cases A:(nodeI ns i).k=9\/(nodeI ns i).k=10
 ·rw[ab A,d.at_ i b];have ag:0<(nodeI ns i).ks.length/\(nodeI ns i).nm.length<=200:=by
   rcases A with e|e
   ·obtain⟨c,j,r,L⟩:=abn f e;omega
   ·obtain⟨c,j,r,L⟩:=IH f e;omega
  obtain⟨B,l⟩:=m ((nodeI ns i).ks.length-1) (by omega);rw[ald ns ag.1,l.id];have:=ue ns E ((nodeI ns i).ks.take ((nodeI ns i).ks.length-1)) (fun p o=>s p (vI o));have:=h.blk d q (eE l.lt) l.len;have al:(if(nodeI ns i).k=9 then(⟨#[32,61,32]⟩:ByteArray) else⟨#[32,105,110,32]⟩).size<=4:=by
   split
   ·show 3<=4;omega
   ·show 4<=4;omega
  simp only[ax];show 4+_+_+_+1+_+_<=_;omega
 rw[aa A];by_cases F:(nodeI ns i).k=11
 ·rw[ab F,d.at_ i b];show 5+_<=_;omega
 rw[aa F];by_cases G:(nodeI ns i).k=12
 ·rw[ab G,d.at_ i b];show 4+_<=_;omega
 rw[aa G];by_cases H:(nodeI ns i).k=13
 ·rw[ab H,d.at_ i b];have:=ue ns E (nodeI ns i).ks s;simp only[ax];split
  ·show 6+0+_<=_;omega
  ·rw[ax];show 6+(1+_)+_<=_;omega
 rw[aa H];by_cases t:(nodeI ns i).k=14
 ·rw[ab t,d.at_ i b];obtain⟨c,j,r,L⟩:=abo f t;obtain⟨g,a⟩:=m 0 (by omega);obtain⟨B,l⟩:=m 1 (by omega);rw[AF ns c,a.id,l.id];have:=h.blk d q (eE a.lt) a.len;have:=h.blk d q (eE l.lt) l.len;simp only[ax];show 4+_+7+_+1+_+_<=_;omega
 rw[aa t];by_cases u:(nodeI ns i).k=15
 ·rw[ab u,d.at_ i b];obtain⟨c,j⟩:=El f u;obtain⟨g,a⟩:=m 0 (by omega);rw[rH ns c,a.id];have:=h.e g a.lt;simp only[ax];show 6+_+_<=_;omega
 rw[aa u];by_cases I:(nodeI ns i).k=16
 ·rw[ab I,d.at_ i b];obtain⟨c,j⟩:=Gi f (by omega);obtain⟨g,a⟩:=m 0 (by omega);rw[rH ns c,a.id];have:=h.e g a.lt;simp only[ax];show 6+_+_<=_;omega
 rw[aa I,d.at_ i b];show 0+_<=_;omega
theorem adi(d:Szd ns)(o:∀i:Int,(nodeI ns i).n<=9223372036854775807):∀(f i tab:Nat),i<ns.length->tab+f<=8000->
  (AB ns f i tab).size+10000<=2000000*sN ns i/\(uk ns f i tab).size+10000<=2000000*sN ns i/\((nodeI ns i).k=7->∀w:ByteArray,w.size<=10->(zm ns f i w tab).size+10000<=2000000*sN ns i)
 |0,i,tab,g,q=>by
  have:=d.at_ i g;refine⟨?_,?_,fun _ w _=>?_⟩;all_goals (first|(rw[AB];show 0+_<=_;omega)|(rw[uk];show 0+_<=_;omega)|(rw[zm];show 0+_<=_;omega))
 |f+1,i,tab,g,q=>by
  have j:=fun (a e:Nat) (c:a<i) (p:e+f<=8000)=>adi d o f a e (by omega) p;have l:SzE ns (fun k=>AB ns f k tab) (fun k e=>uk ns f k e) i tab:=⟨fun a c=>(j a tab c (by omega)).1,fun a c=>(j a (tab+1) c (by omega)).2.1⟩;have m:(nodeI ns i).k=7->∀w:ByteArray,w.size<=10->(D2 ns (fun k=>AB ns f k tab) (fun k e=>uk ns f k e) (fun k w=>zm ns f k w tab) (nodeI ns i) w tab).size+10000<=2000000*sN ns i:=fun b w h=>
   aeK l d (by omega) g b (fun a w c b h=>(j a tab c (by omega)).2.2 b w h) w h
  refine⟨?_,?_,?_⟩
  ·rw[AB];exact aie l d (by omega) g (o _)
  ·rw[uk];exact aig l d (by omega) g (fun b=>m b _ (by show 3<=10;omega))
  ·intro b w h;rw[zm];exact m b w h
theorem abp(d:Szd ns)(j:∀i:Int,(nodeI ns i).n<=9223372036854775807)(s:ns.length<=3000)(o:0<ns.length):(nE ns).size<=6000000000:=by
 unfold nE;rw[Gh,List.map_map];have e:((ns.length:Int)-1)=((ns.length-1:Nat):Int):=by omega
 rw[e];have h:∀a∈(nodeI ns ((ns.length-1:Nat):Int)).ks,(uk ns ns.length a 0).size+10000<=2000000*sN ns a:=by
  intro a c;obtain⟨k,g,rfl⟩:=oz c;obtain⟨m,b⟩:=ij (d.nb _ (by omega)) (by omega) k g;rw[b.id];exact(adi d j ns.length m 0 b.len (by omega)).2.1
 have p:=abl ns (fun a=>(uk ns ns.length a 0).size) 1 _ h (by omega);have q:=d.at_ (ns.length-1) (by omega);have r:=d.le ((ns.length-1:Nat):Int);have f:((nodeI ns ((ns.length-1:Nat):Int)).ks.map (ByteArray.size ∘ fun l=>uk ns ns.length l 0++⟨#[10]⟩))=(nodeI ns ((ns.length-1:Nat):Int)).ks.map fun a=>(uk ns ns.length a 0).size+1:=by
  apply List.map_congr_left;intro a c;simp only[Function.comp];rw[ax];rfl
 rw[f];omega
def fW(N:Nd):Int:=150+8000*(bgN N:Int)
def Wp(ns:List Nd)(j:Int):Int:=((ns.take j.toNat).map fW).sum
def wN(ns:List Nd)(i:Int):Int:=Wp ns (i+1)-Wp ns (i+1-(iD ns).getD i.toNat 0)
def wK(ns:List Nd):List Int->Int
 |[]=>0
 |k::l=>wN ns k+wK ns l
theorem AH(ns:List Nd)(a b:List Int):wK ns (a++b)=wK ns a+wK ns b:=by
 induction a with
 |nil=>simp[wK]
 |cons d e c=>simp only[eC,wK,c];omega
theorem aox(ns:List Nd)(l:List Int):wK ns l.reverse=wK ns l:=by
 induction l with
 |nil=>rfl
 |cons b l a=>rw[List.reverse_cons,AH,a];simp only[wK];omega
theorem amv(ns:List Nd):∀(l:List Int)(a b:Int),xI (iD ns) l a=V b->wK ns l=Wp ns a-Wp ns b
 |[],a,b,h=>by simp[xI]at h;subst h;simp[wK]
 |k::r,a,b,h=>by
  rw[xI]at h;split at h
  ·rename_i c;have:=amv ns r _ _ h;simp only[wK,wN];rw[this,show k+1=a by omega];omega
  ·cases h
theorem Lr(S:List Int)(i:Nat):∀(l:List Int)(a:Int),(∀k∈l,0<=k/\k<(i:Int))->xI (S.take i) l a=xI S l a
 |[],a,_=>rfl
 |k::r,a,h=>by
  have e:=h k bB;have b:(S.take i).getD k.toNat 0=S.getD k.toNat 0:=by
   rw[aK,aK,List.getElem?_take_of_lt (by omega)]
  rw[xI,xI,b,Lr S i r _ fun d c=>h d (cL _ c)]
theorem alg(h:ns[i]?=V N):Wp ns ((i:Int)+1)=Wp ns i+fW N:=by
 unfold Wp;rw[show((i:Int)+1).toNat=i+1 by omega,show((i:Int)).toNat=i by omega,iw,h];simp
structure Wzd (ns:List Nd):Prop where
 nb:∀i:Nat,i<ns.length->jf ns i (nodeI ns i)=O
 at_:∀i:Nat,i<ns.length->wN ns i=fW (nodeI ns i)+wK ns (nodeI ns i).ks
 root:wN ns ((ns.length:Int)-1)=Wp ns ns.length
 len:1<=ns.length
theorem aoy(h:(dL ns).1=0):Wzd ns:=by
 have o:=ah7 h;have l:=zq h;have v:=h;unfold dL at h;by_cases k:jD ns=O
 ·rw[ab k]at h;exact absurd h (by decide)
 rw[aa k]at h;obtain⟨m,p⟩:=aA (ir (fE ns) ns.length 0);rw[p]at h;cases m with
 |some a=>rw[tf2]at h;exact absurd h (by simp)
 |none=>
  rw[tf2]at h;obtain⟨n,j⟩:=aA (ir (gu (iD ns)) ns.length 0);rw[j]at h;cases n with
  |some a=>rw[tf3]at h;exact absurd h (by simp)
  |none=>
   have q:=qo j;rw[tf3]at h;have t:(iD ns).getD (ns.length-1) 0=(ns.length:Int):=by
    by_cases i:(iD ns).getD (ns.length-1) 0=(ns.length:Int)
    ·exact i
    ·rw[ab i]at h;exact absurd h (by simp)
   refine⟨o.nb,fun a r=>?_,?_,l.len.1⟩
   ·have d:ns[a]?=V (nodeI ns a):=by
     unfold nodeI;rw[jz,List.getD,aE r];rfl
    generalize nodeI ns a=e at d;have c:=q a (aF _) (by omega);unfold gu at c;have b:=ah0 d;rw[b]at c;unfold sC at c b;cases hw:xI ((iD ns).take a) e.ks.reverse a with
    |none=>rw[hw]at c;simp at c
    |some f=>
     rw[hw]at b;simp only at b;rw[Lr (iD ns) a _ _ (fun u s=>l.kid a e d u (by simpa using s))]at hw;have g:=amv ns _ _ _ hw;rw[aox]at g;unfold wN;rw[show((a:Int)).toNat=a by omega,b,alg d,g,show(a:Int)+1-((a:Int)-f+1)=f by omega];omega
   ·unfold wN;rw[show((ns.length:Int)-1).toNat=ns.length-1 by omega,t,show(ns.length:Int)-1+1=ns.length by omega,Int.sub_self];have:Wp ns 0=0:=by unfold Wp;simp
    omega
theorem adj(d:Wzd ns):∀{i:Nat},i<ns.length->150<=wN ns i:=by
 intro i
 induction i using Nat.strongRecOn with
 |_ i l=>
  intro c;rw[d.at_ i c];have j:∀a:List Int,(∀b∈a,b∈(nodeI ns i).ks)->0<=wK ns a:=by
   intro a
   induction a with
   |nil=>intro _;exact Int.le_refl _
   |cons o a m=>
    intro g;obtain⟨n,k,h⟩:=oz (g o bB);obtain⟨p,e⟩:=ij (d.nb i c) c n k;have:=l p e.lt e.len;have:=m (fun b f=>g b (cL _ f));simp only[wK];rw[<-h,e.id];omega
  have:=j _ (fun b f=>f);unfold fW;omega
theorem aoz(a:List Mb):Wp (a.map Mb.N) (a.map Mb.N).length=150*(a.length:Int)+8000*(bigs a:Int):=by
 unfold Wp bigs;rw[show(((a.map Mb.N).length:Nat):Int).toNat=(a.map Mb.N).length by omega,dj (ae _)]
 induction a with
 |nil=>rfl
 |cons c a b=>
  simp only[kJ,List.sum_cons,bi]at b⊢;rw[b];unfold fW;omega
def CE(x:ByteArray)(W:Int):Prop:=∃a:Nat,Cs x a/\(a:Int)<=W
section
variable {x y : ByteArray} {m n : Int}
theorem CE.app(h:CE x m)(g:CE y n):CE (x++y) (m+n):=by
 obtain⟨a,c,e⟩:=h;obtain⟨b,d,f⟩:=g;exact⟨a+b,c.app d,by omega⟩
theorem CE.le(h:CE x m)(c:m<=n):CE x n:=by
 obtain⟨a,b,d⟩:=h;exact⟨a,b,by omega⟩
end
theorem Cs.ce{x:ByteArray}{c:Nat}(h:Cs x c):CE x c:=⟨c,h,Int.le_refl _⟩
theorem bF{x:ByteArray}(c:Nat)(h:∀q:Fin 4,uK q.val (dF x)<=c/\wD q.val (dF x)<4:=by decide):CE x c:=(qm h).ce
theorem rI:CE A2 0:=⟨0,Dw,by decide⟩
theorem adk:∀t:Nat,uK 3 (B4 t 9)=0/\wD 3 (B4 t 9)=3
 |0=>⟨rfl,rfl⟩
 |t+1=>by
  obtain⟨a,b⟩:=adk t;rw[List.replicate_succ,uK,wD,show nA 3 9=0 by decide,show nC 3 9=3 by decide,a,b];exact⟨rfl,rfl⟩
theorem Gk:∀t:Nat,dF (Do t)=B4 t 9
 |0=>rfl
 |t+1=>by
  show dF (Do t++⟨#[9]⟩)=_;rw[xH,Gk t,List.replicate_succ'];rfl
theorem adl(t:Nat):CE (lJ t) 12:=⟨12,⟨fun a e=>by
 unfold lJ;rw[xH,Gk];show uK a (10::B4 t 9)<=12/\wD a (10::B4 t 9)<4;have b:nA a 10=12/\nC a 10=3:=by rcases(show a=0\/a=1\/a=2\/a=3 by omega) with rfl|rfl|rfl|rfl<;>decide
 obtain⟨c,d⟩:=adk t;rw[uK,wD,b.1,b.2,c,d];omega⟩,by decide⟩
theorem Lt:CE js 14:=bF 14
theorem aih(l:List ByteArray)(w:Nat->Int)(g:∀k x,l[k]?=V x->CE x (w k))(j:∀k,k<l.length->0<=w k+14):∀k,k<=l.length->CE (ft (l.take k)) (((B0 k).map fun i=>w i+14).sum-(if k=0 then 0 else 14)):=by
 intro k
 induction k with
 |zero=>intro _;exact⟨0,Dw,by simp⟩
 |succ k h=>
  intro m;have f:k<l.length:=by omega
  have c:l[k]?=V l[k]:=aE f;have e:(if k+1=0 then(0:Int) else 14)=14:=aa (by omega);rw[pF l k _ c,List.range_succ,eB,List.sum_append,e];have b:=h (by omega);have d:=g k _ c;by_cases a:k=0
  ·subst a;rw[ab rfl];exact(b.app d).le (by simp)
  ·rw[aa a];rw[aa a]at b;exact((b.app Lt).app d).le (by simp;omega)
theorem IJ(ns:List Nd)(d:Int->ByteArray)(s:Int)(t:0<=s)(l:List Int)(h:∀z∈l,CE (d z) (wN ns z-14-s)):CE (ft (l.map d)) (wK ns l-(if l=[] then 0 else 14+s*l.length)):=by
 have e:=aih (l.map d) (fun c=>wN ns (l.getD c 0)-14-s) (fun c j g=>by
  rw[bK]at g;obtain⟨z,i,rfl⟩:=Option.map_eq_some_iff.1 g;show CE (d z) (wN ns (l.getD c 0)-14-s);rw[aK,i];exact h z (cG i)) (fun c o=>by
  have f:c<l.length:=by simpa using o
  obtain⟨q,_,r⟩:=h l[c] (oe f);simp only[aK,aE f,gj];omega) (l.map d).length (ae _)
 rw[dj (ae _),cA]at e;refine e.le ?_;have k:((B0 l.length).map fun b=>wN ns (l.getD b 0)-14-s+14).sum=wK ns l-s*l.length:=by
  clear e h
  induction l using ua with
  |h0=>simp[wK]
  |h1 a j p=>
   rw[aB,yj,List.range_succ,eB,List.sum_append,AH];have m:((B0 a.length).map fun b=>wN ns ((a++[j]).getD b 0)-14-s+14)=(B0 a.length).map fun b=>wN ns (a.getD b 0)-14-s+14:=by
    apply List.map_congr_left;intro b n;have:b<a.length:=List.mem_range.1 n;rw[aK,aK,ia this]
   rw[m,p];simp only[kJ,List.map_nil,List.sum_cons,List.sum_nil,wK,aK,fy (ae _),eD,List.getElem?_cons_zero,gj];rw[show((a.length+1:Nat):Int)=(a.length:Int)+1 by omega,Int.mul_add];omega
 rw[k];cases l with
 |nil=>simp
 |cons z l=>
  rw[aa (by simp),aa (by simp)];omega
theorem aeL(x:ByteArray):dF x=(B0 x.size).map fun i=>aq x i:=by
 apply List.ext_getElem?;intro i;unfold dF;rw[bK,bK];rcases aH i x.size with h|h
 ·have a:i<x.data.toList.length:=by rw[eK];exact h
  rw[aE a,aE (by rw[List.length_range];exact h)];simp only[tj,List.getElem_range];rw[((fL x i _).1 (aE a)).2]
 ·rw[gE (by rw[eK];exact h),gE (by rw[List.length_range];exact h)];rfl
theorem Eo{x:ByteArray}(h:0<x.size):dF x=aq x 0::(B0 (x.size-1)).map fun i=>aq x (i+1):=by
 rw[aeL,show x.size=(x.size-1)+1 by omega,List.range_succ_eq_map];simp[Function.comp]
theorem ae0{x:ByteArray}(h:2<=x.size):dF x=aq x 0::aq x 1::(B0 (x.size-2)).map fun i=>aq x (i+2):=by
 rw[Eo (by omega),show x.size-1=(x.size-2)+1 by omega,List.range_succ_eq_map];simp[Function.comp]
theorem aoA(n:Int)(y: -9223372036854775808<=n)(m:n<=9223372036854775807):Cs (xy n) 70:=by
 unfold xy;by_cases o:n<0
 ·rw[ab o];obtain⟨f,v⟩:∃f,(n+18446744073709551616).toNat=f:=⟨_,rfl⟩;rw[v];obtain⟨p,q,r⟩:=Cv f 16;have B:=sr f 16;obtain⟨a,k⟩:∃a,Ac f 16=a:=⟨_,rfl⟩;rw[k]at p q r B⊢;clear k v o y m;have z:∀c∈(B0 (a.size-2)).map (fun b=>aq a (b+2)),uq c=O:=fun c h=>by
   obtain⟨b,j,rfl⟩:=List.mem_map.1 h;have j:b<a.size-2:=List.mem_range.1 j;rw[Nat.add_comm,r b (by omega)];unfold hxd;have:∀d:Fin 16,uq (qA (d.val:Int))=O:=by decide
   exact this ⟨f / 16 ^ (15-b)%16,Nat.mod_lt _ (by decide)⟩
  refine⟨fun e i=>?_⟩;rw[ae0 (by omega),p,q];have:=FK (d:=120) (by decide) (by decide) z e i;rw[cA,List.length_range]at this;omega
 ·rw[aa o];have u:=DC n.toNat;have C:(nD n.toNat).size<=20:=by rw[aeu];exact Lib.nDigits_le20 _ (by omega)
  obtain⟨a,k⟩:∃a,nD n.toNat=a:=⟨_,rfl⟩;show Cs (nD n.toNat) 70;rw[k]at u C⊢;obtain⟨s,t,w,x,_⟩:=u;refine⟨fun e i=>?_⟩;rw[Eo s];have F:=fe (t 0 s);have A:∀c∈(B0 (a.size-1)).map (fun b=>aq a (b+1)),uq c=O:=fun c h=>by
   obtain⟨b,j,rfl⟩:=List.mem_map.1 h;have:b<a.size-1:=List.mem_range.1 j;unfold uq;rw[t (b+1) (by omega)];simp
  by_cases E:n.toNat=0
  ·have m:=x (by omega);rw[m];rcases(show aq a 0=48\/aq a 0≠48 by omega) with g|g
   ·rw[g];have:∀e:Fin 4,uK e.val [48]<=70/\wD e.val [48]<4:=by decide
    exact this ⟨e,i⟩
   ·have:=agE (c:=aq a 0) (l:=[]) (by omega) (fun c h=>by cases h) e i;simp only[dH]at this;show uK e [aq a 0]<=70/\wD e [aq a 0]<4;omega
  ·have:=agE (c:=aq a 0) (by have:=w E;omega) A e i;simp only[cA,List.length_range]at this;omega
theorem aqx(h:zI N)(i:N.k≠25\/N.k=25):CE (plB N) (fW N-32):=by
 have g:(0:Int)<=bgN N:=by omega
 have b:fW N=150+8000*(bgN N:Int):=rfl;unfold plB
 repeat' split
 ·exact(bF 28).le (by omega)
 ·exact(bF 32).le (by omega)
 ·exact(bF 44).le (by omega)
 ·exact(aoA N.n h.int.n.1 h.int.n.2).ce.le (by omega)
 ·rename_i f;rcases h.x with⟨_,_,a⟩|⟨a,_⟩
  ·exact a.ce.le (by omega)
  ·omega
 ·rename_i d;rcases h.x with⟨a,_⟩|⟨_,a|⟨a,e⟩⟩
  ·exact absurd d a
  ·exact a.2.ce.le (by omega)
  ·have c:bgN N=1:=by unfold bgN;rw[ab (by have:=a.lo;omega)]
   rw[b,c];exact(ans N.x (by have:=a.lo;omega) a.dg a.b0 a.b1).ce.le (by omega)
 ·exact(bF 36).le (by omega)
 ·exact rI.le (by omega)
theorem abq{x:ByteArray}(h:CE x m):CE (KI x) (m+24):=(((bF (x:=⟨#[40]⟩) 12 (by decide)).app h).app (bF (x:=⟨#[41]⟩) 12 (by decide))).le (by omega)
theorem IK{a:Int}(h:CE (E k) m):CE (uj ns E k a) (m+24):=by
 unfold uj;split
 ·exact abq h
 ·exact h.le (by omega)
theorem aii(h:CE (E k) m):CE (bsB ns E k) (m+24):=by
 unfold bsB;split
 ·exact h.le (by omega)
 ·exact abq h
theorem aqy(ns:List Nd)(N:Nd):CE (unS ns N) 30:=by
 unfold unS
 repeat' split
 ·exact bF 30
 ·exact bF 30
 ·exact bF 30
 ·exact((bF (x:=⟨#[45]⟩) 12 (by decide)).app (bF (x:=⟨#[32]⟩) 2 (by decide))).le (by decide)
 ·exact bF 30
theorem aoB{op:Int}(h:1<=op/\op<=18):CE (pJ (60+op)) 24:=by
 obtain⟨a,b⟩:=h;rcases(show op=1\/op=2\/op=3\/op=4\/op=5\/op=6\/op=7\/op=8\/op=9\/op=10\/op=11\/op=12\/op=13\/op=14\/op=15\/op=16\/op=17\/op=18 by omega) with rfl|rfl|rfl|rfl|rfl|rfl|rfl|rfl|rfl|rfl|rfl|rfl|rfl|rfl|rfl|rfl|rfl|rfl;all_goals exact bF 24 (by decide+kernel)
theorem aij{nm:List ByteArray}(d:nm.length<=3)(a:∀s∈nm,Shr s):CE (ft nm) 106:=by
 have:=aih nm (fun _=>26) (fun e c b=>((a c (cG b)).cs).ce) (fun _ _=>by decide) nm.length (ae _);rw[dj (ae _)]at this;refine this.le ?_;rcases(show nm.length=0\/nm.length=1\/nm.length=2\/nm.length=3 by omega) with h|h|h|h<;>rw[h]<;>decide
theorem aoC(h:zI N):CE (nm0 N) 26:=by
 unfold nm0;rw[aK];cases e:N.nm[0]? with
 |none=>exact rI.le (by decide)
 |some a=>exact((h.s a (cG e)).cs).ce
theorem aoD(h:zI N):CE (aez N) 182:=by
 unfold aez;have a:CE (if N.op=1 then(if N.nm=[] then(⟨#[46,46,46]⟩:ByteArray) else js++⟨#[46,46,46]⟩) else A2) 50:=by
  repeat' split
  ·exact(bF 36).le (by decide)
  ·exact(Lt.app (bF (x:=⟨#[46,46,46]⟩) 36 (by decide))).le (by decide)
  ·exact rI.le (by decide)
 exact((((bF (x:=⟨#[40]⟩) 12 (by decide)).app (aij h.nm h.s)).app a).app (bF (x:=⟨#[41,32]⟩) 14 (by decide))).le (by decide)
structure CzE (ns:List Nd) (E:Int->ByteArray) (S:Int->Nat->ByteArray) (i:Nat) (tab:Nat):Prop where
 e:∀z:Nat,z<i->CE (E z) (wN ns z-32)
 s:∀z:Nat,z<i->CE (S z (tab+1)) (wN ns z-14)
section
variable {ns : List Nd} {E : Int → ByteArray} {S : Int → Nat → ByteArray} {i tab q : Nat}
theorem CzE.kid(h:CzE ns E S i tab)(d:Wzd ns)(k:q<=i)(a:q<ns.length):∀z∈(nodeI ns q).ks,CE (E z) (wN ns z-32)/\CE (S z (tab+1)) (wN ns z-14):=by
 intro z g;obtain⟨j,f,rfl⟩:=oz g;obtain⟨c,b⟩:=ij (d.nb q a) a j f;rw[b.id];have:=b.lt;exact⟨h.e c (by omega),h.s c (by omega)⟩
theorem aqz(ks:List Int)(h:∀z∈ks,CE (S z (tab+1)) (wN ns z-14)):CE (F8 S ks tab) (wK ns ks+36):=by
 unfold F8;split
 ·rename_i c;subst c;exact(bF 24).le (by simp[wK])
 ·have i:CE (jc (ks.map fun a=>lJ (tab+1)++S a (tab+1))) (wK ns ks):=by
   have:∀b:List Int,(∀z∈b,CE (S z (tab+1)) (wN ns z-14))->CE (jc (b.map fun a=>lJ (tab+1)++S a (tab+1))) (wK ns b):=by
    intro b
    induction b using ua with
    |h0=>intro _;exact⟨0,Dw,by simp[wK]⟩
    |h1 d x g=>
     intro e;have c:jc ((d++[x]).map fun a=>lJ (tab+1)++S a (tab+1))=jc (d.map fun a=>lJ (tab+1)++S a (tab+1))++(lJ (tab+1)++S x (tab+1)):=by
      unfold jc;rw[eB,List.foldl_append];rfl
     rw[c,AH];exact((g fun z f=>e z (List.mem_append.2 (.inl f))).app ((adl _).app (e x (by simp)))).le (by simp only[wK];omega)
   exact this ks h
  exact((((bF (x:=⟨#[123]⟩) 12 (by decide)).app i).app (adl _)).app (bF (x:=⟨#[125]⟩) 12 (by decide))).le (by omega)
theorem Ep(N:Nd):150<=fW N:=by unfold fW;omega
theorem CzE.blk(h:CzE ns E S i tab)(d:Wzd ns)(b:q<=i)(a:q<ns.length):CE (F8 S (nodeI ns q).ks tab) (wN ns q-114):=by
 have:=aqz (ns:=ns) (nodeI ns q).ks (fun e c=>(h.kid d b a e c).2);refine this.le ?_;rw[d.at_ q a];have:=Ep (nodeI ns q);omega
theorem rJ(h:N.ks.length=1):wK ns N.ks=wN ns (dG N 0):=by
 unfold dG
 match e:N.ks,h with
 |[a],_=>simp[wK]
theorem AI(h:N.ks.length=2):wK ns N.ks=wN ns (dG N 0)+wN ns (dG N 1):=by
 unfold dG
 match e:N.ks,h with
 |[a,b],_=>simp[wK]
theorem aik(h:N.ks.length=3):wK ns N.ks=wN ns (dG N 0)+wN ns (dG N 1)+wN ns (dG N 2):=by
 unfold dG
 match e:N.ks,h with
 |[a,b,c],_=>simp[wK];omega
theorem alh(h:0<N.ks.length):wK ns N.ks=wK ns (N.ks.take (N.ks.length-1))+wN ns (dG N (N.ks.length-1)):=by
 have a:N.ks=N.ks.take (N.ks.length-1)++[dG N (N.ks.length-1)]:=by
  have b:=vD (N.ks.length-1) N.ks;rw[iH (by omega),En,ju (by omega)]at b;exact b.symm
 rw[a,AH,<-a];simp[wK]
theorem ali(h:0<N.ks.length):wK ns N.ks=wN ns (dG N 0)+wK ns (N.ks.drop 1):=by
 unfold dG
 match e:N.ks,h with
 |a::b,_=>simp[wK]
theorem CzE.bod(h:CzE ns E S i tab)(d:Wzd ns)(f:∀N∈ns,zI N)(l:q<=i)(a:q<ns.length)(j:(nodeI ns q).k=36):CE (KJ ns S (nodeI ns q) tab) (wN ns q-82):=by
 obtain⟨e,m,n,o⟩:=ah5 (ma (d.nb q a)).1 j;obtain⟨p,b⟩:=ij (d.nb q a) a 0 (by omega);have c:=h.blk d (bg (eE b.lt) l) b.len;have g:zI (nodeI ns q):=f _ (by unfold nodeI;rw[jz,List.getD,aE a];exact oe _);unfold KJ;rw[b.id];refine((aoD g).app c).le ?_;rw[d.at_ q a,rJ e,b.id];have:=Ep (nodeI ns q);omega
end
section
variable {ns : List Nd} {E : Int → ByteArray} {S : Int → Nat → ByteArray} {i tab q : Nat}
theorem abr(a:∀N∈ns,zI N)(b:q<ns.length):zI (nodeI ns q):=a _ (by unfold nodeI;rw[jz,List.getD,aE b];exact oe _)
theorem aqA(h:zI N)(b:N.k≠25):CE N.x 90:=by
 rcases h.x with⟨_,_,a⟩|⟨a,_⟩
 ·exact a.ce
 ·exact absurd a b
theorem aoE(h:CzE ns E S i tab)(d:Wzd ns)(r:∀N∈ns,zI N)(w:q<=i)(b:q<ns.length)(v:40<=(nodeI ns q).k/\(nodeI ns q).k<=42):CE (Az ns E (nodeI ns q)) (wN ns q-32):=by
 have n:=(ma (d.nb q b)).1;have j:=fun u s=>ij (d.nb q b) b u s;have y:=Ep (nodeI ns q);have t:=aqA (abr r b) (by omega);rw[d.at_ q b];unfold Az;by_cases l:(nodeI ns q).k=41
 ·rw[ab l];obtain⟨g,_,_⟩:=nG n;obtain⟨f,a⟩:=j 0 (by omega);obtain⟨o,m⟩:=j 1 (by omega);rw[AI g,a.id,m.id];have c:=h.e f (by have:=a.lt;omega);have p:=h.e o (by have:=m.lt;omega);exact((((bF (x:=⟨#[91]⟩) 12 (by decide)).app c).app (bF (x:=⟨#[93,32,61,32]⟩) 28 (by decide))).app p).le (by omega)
 ·rw[aa l];obtain⟨g,_,_⟩:=oK n (show _ by omega);obtain⟨f,a⟩:=j 0 (by omega);rw[rJ g,a.id];have c:=h.e f (by have:=a.lt;omega);split
  ·exact((((bF (x:=⟨#[46]⟩) 12 (by decide)).app t).app (bF (x:=⟨#[32,61,32]⟩) 16 (by decide))).app c).le (by omega)
  ·exact c.le (by omega)
theorem aoF(h:CzE ns E S i tab)(d:Wzd ns)(y:∀N∈ns,zI N)(b:i<ns.length):CE (prE ns E S (nodeI ns i) tab) (wN ns i-32):=by
 have j:=(ma (d.nb i b)).1;have k:=fun q z=>ij (d.nb i b) b q z;have av:=Ep (nodeI ns i);have af:=abr y b;have C:∀(G:ByteArray)(ag:Int),CE G 36->((nodeI ns i).k=28\/(nodeI ns i).k=29\/(nodeI ns i).k=31\/(nodeI ns i).k=32\/(nodeI ns i).k=41)->CE (Ir ns E (nodeI ns i) G ag) (wN ns i-32):=by
  intro G ag an al;obtain⟨c,_,_⟩:=nG j al;obtain⟨f,a⟩:=k 0 (by omega);obtain⟨r,n⟩:=k 1 (by omega);rw[d.at_ i b,AI c,a.id,n.id];unfold Ir;rw[a.id,n.id];exact(((IK (h.e f a.lt)).app an).app (IK (h.e r n.lt))).le (by omega)
 unfold prE;by_cases H:(nodeI ns i).k=28
 ·rw[ab H];exact C _ _ (bF 36) (by omega)
 rw[aa H];by_cases J:(nodeI ns i).k=29
 ·rw[ab J];exact C _ _ (bF 36) (by omega)
 rw[aa J];by_cases t:(nodeI ns i).k=31
 ·rw[ab t];have:=aoB ((nG j).2.2 t);exact C _ _ (((bF (x:=⟨#[32]⟩) 2 (by decide)).app this).app (bF (x:=⟨#[32]⟩) 2 (by decide)) |>.le (by decide)) (by omega)
 rw[aa t];by_cases K:(nodeI ns i).k=30
 ·rw[ab K];obtain⟨c,_,_⟩:=oK j;obtain⟨f,a⟩:=k 0 (by omega);rw[d.at_ i b,rJ c,a.id];unfold unB;rw[a.id];exact((aqy ns (nodeI ns i)).app (IK (h.e f a.lt))).le (by omega)
 rw[aa K];by_cases L:(nodeI ns i).k=32
 ·rw[ab L];obtain⟨c,_,_⟩:=nG j;obtain⟨f,a⟩:=k 0 (by omega);obtain⟨r,n⟩:=k 1 (by omega);rw[d.at_ i b,AI c,a.id,n.id];exact((((aii (h.e f a.lt)).app (bF (x:=⟨#[91]⟩) 12 (by decide))).app (h.e r n.lt)).app (bF (x:=⟨#[93]⟩) 12 (by decide))).le (by omega)
 rw[aa L];by_cases ad:(nodeI ns i).k=33
 ·rw[ab ad];obtain⟨c,_,_⟩:=oK j;obtain⟨f,a⟩:=k 0 (by omega);rw[d.at_ i b,rJ c,a.id];exact((aii (h.e f a.lt)).app ((bF (x:=⟨#[46]⟩) 12 (by decide)).app (aqA af (by omega)))).le (by omega)
 rw[aa ad];have ap:=fun (l:List Int) (A:∀m∈l,m∈(nodeI ns i).ks)=>IJ ns E 18 (by decide) l (fun m o=>(h.kid d (ae _) b m (A m o)).1.le (by omega));have ar:∀(l:List Int),(∀m∈l,m∈(nodeI ns i).ks)->CE (ft (l.map E)) (wK ns l):=fun l A=>(ap l A).le (by split<;>omega);by_cases u:(nodeI ns i).k=34
 ·rw[ab u];obtain⟨c,_⟩:=IG j u;obtain⟨f,a⟩:=k 0 (by omega);rw[d.at_ i b,ali (by omega),a.id];exact((((aii (h.e f a.lt)).app (bF (x:=⟨#[40]⟩) 12 (by decide))).app (ar ((nodeI ns i).ks.drop 1) (fun m o=>List.mem_of_mem_drop o))).app (bF (x:=⟨#[41]⟩) 12 (by decide))).le (by omega)
 rw[aa u];by_cases v:(nodeI ns i).k=35
 ·rw[ab v];unfold ahi;have c:=Eh j v;have p:=IJ ns (fun F=>Az ns E (nodeI ns F)) 18 (by decide) (nodeI ns i).ks (fun m o=>by
   obtain⟨q,z,rfl⟩:=oz o;obtain⟨a0,B⟩:=k q z;have p:=adg _ 0 c q (by omega) (by omega);rw[B.id]at p⊢;exact(aoE h d y (eE B.lt) B.len p).le (by omega))
  have ak:CE (ft ((nodeI ns i).ks.map fun F=>Az ns E (nodeI ns F))) (wK ns (nodeI ns i).ks):=p.le (by split<;>omega);rw[d.at_ i b];exact(((bF (x:=⟨#[123]⟩) 12 (by decide)).app ak).app (bF (x:=⟨#[125]⟩) 12 (by decide))).le (by omega)
 rw[aa v];by_cases w:(nodeI ns i).k=36
 ·rw[ab w];exact((bF (x:=⟨#[102,110]⟩) 20 (by decide)).app (h.bod d y (ae _) b w)).le (by omega)
 rw[aa w];by_cases I:(nodeI ns i).k=37
 ·rw[ab I];obtain⟨c,_,_⟩:=oK j;obtain⟨f,a⟩:=k 0 (by omega);rw[d.at_ i b,rJ c,a.id];exact(abq (h.e f a.lt)).le (by omega)
 rw[aa I];rcases Ll j with g|g|g
 ·have s:plB (nodeI ns i)=A2:=by
   unfold plB;rw[aa (by omega),aa (by omega),aa (by omega),aa (by omega),aa (by omega),aa (by omega),aa (by omega)]
  have ao:=adj d b;rw[s];exact rI.le (by omega)
 ·have am:=ah6 j (by omega);rw[d.at_ i b];have:(nodeI ns i).ks=[]:=List.length_eq_zero_iff.1 am;rw[this];exact(aqx af (by omega)).le (by simp[wK])
 ·have s:plB (nodeI ns i)=A2:=by
   unfold plB;rw[aa (by omega),aa (by omega),aa (by omega),aa (by omega),aa (by omega),aa (by omega),aa (by omega)]
  have ao:=adj d b;rw[s];exact rI.le (by omega)
end
