import Derived.Test.YthjpdjibdnecoaaGreatDoorHQk30
import Derived.Test.YthjpdjibdnecoaaGreatDoorHQk38
set_option linter.all false
set_option maxRecDepth 100000
set_option maxHeartbeats 12800000
open Go.Value renaming iface->O,slice->Y,int->Z,string->A4,string->A9,bool->Bs,agg->B1,slice->B4
open Go.Proofs.Tryz renaming prog->U
open Option renaming none->V,some->X
open Go.IntKind renaming i64->Ax
open Go renaming Value->A0,Calls->A3,World->A6,maxLen->A8,TypeId->B3
open Go.Ending renaming returned->A1
open Go.RowKit renaming Hid->A2,Below->B2
open Bool renaming false->A5,true->B0
open Go.Obj renaming cells->A7
namespace Go.Proofs.YthjpdjibdnecoaaGreatDoor
open Go.RowKit
section
variable {E : Pe} {w w' : World} {i : Nat}
theorem Pp.cells(h:Pp E w i):w.cell? ⟨E.pb,0,V⟩=X (Y (X ⟨E.tb,0,V⟩) E.n E.cap)/\w.cell? ⟨E.pb,1,V⟩=X (Z Ax i)/\∀j,w.frozen? ⟨E.pb,j,V⟩=A5:=
 ⟨by rw[aq _ _ _ _ _ _ h.row];rfl,by rw[aq _ _ _ _ _ _ h.row];rfl,fun j=>cC _ _ _ _ _ h.row⟩
theorem Pp.tok(h:Pp E w i){q:Nat}(d:q<E.n):∃l,((E.tk q).k≠6->l=(E.tk q).l)/\w.cell? ⟨E.tb,q*6,V⟩=X (Z Ax (E.tk q).k)/\w.cell? ⟨E.tb,q*6+1,V⟩=X (Z Ax (E.tk q).f)/\w.cell? ⟨E.tb,q*6+2,V⟩=X (Z Ax (E.tk q).t)/\w.cell? ⟨E.tb,q*6+3,V⟩=X (Z Ax l)/\w.cell? ⟨E.tb,q*6+4,V⟩=X (Z Ax (E.tk q).n)/\w.cell? ⟨E.tb,q*6+5,V⟩=X (A9 (E.tk q).x):=by
 obtain⟨e,g,b,c⟩:=h.tks;obtain⟨l,a⟩:=c q d;exact⟨l,a.hl,by rw[aq _ _ _ _ _ _ b];exact a.c0,by rw[aq _ _ _ _ _ _ b];exact a.c1,by rw[aq _ _ _ _ _ _ b];exact a.c2,by rw[aq _ _ _ _ _ _ b];exact a.c3,by rw[aq _ _ _ _ _ _ b];exact a.c4,by rw[aq _ _ _ _ _ _ b];exact a.c5⟩
theorem Pp.tkw(h:Pp E w i){q:Nat}(d:q<E.n)(b:(E.tk q).k≠6):TkW w E q:=by
 obtain⟨p,c,e,g,l,a,m,o⟩:=h.tok d;rw[c b]at a;exact⟨e,g,l,a,m,o⟩
theorem Pp.ne(h:Pp E w i):E.tb≠E.pb:=fun b=>by
 obtain⟨c,d,a,e⟩:=h.tks;rw[b,h.row]at a;cases a
theorem Pp.move(h:Pp E w i)(j:Nat):Pp E (w.setCell ⟨E.pb,1,V⟩ (Z Ax j)) j/\w.grownBy (w.setCell ⟨E.pb,1,V⟩ (Z Ax j)) (X E.pb):=by
 obtain⟨a,c,d,e⟩:=h.tks;obtain⟨l,b,g⟩:=h.pw;exact⟨⟨h.hn,⟨a,c,(aD _ _ _ _ h.ne).trans d,e⟩,bi _ E.pb 1 _ _ _ h.row,h.pg,l,b,(aD _ _ _ _ (Nat.ne_of_lt h.pg)).trans g⟩,pC (sA w _) 1 _⟩
theorem Pp.other(h:Pp E w i){b:Nat}(n:b≠E.pb)(o:b≠E.tb)(s:E.pb<=b)(g:w.grownBy w' (X b)):Pp E w' i:=by
 obtain⟨e,m,d,p⟩:=h.tks;obtain⟨r,l,c⟩:=h.pw;exact⟨h.hn,⟨e,m,(g.block _ (ah d) (fun a=>o (by cases a;rfl))).trans d,p⟩,(g.block _ h.lt (fun a=>n (by cases a;rfl))).trans h.row,h.pg,r,l,(g.block _ (ah c) (fun a=>by cases a;have:=h.pg;omega)).trans c⟩
theorem afc(h:Pp E w i)(a:i<E.n):A3 U 134 #[pV E] w fun e w'=>e= A1 (Z Ax (E.tk i).k)/\B2 w.heap.size w w':=by
 obtain⟨b,c,d⟩:=h.cells;obtain⟨o,m,p,r,s,t,u,z⟩:=h.tok a;have l:(i:Int)<(E.n:Int):=by omega
 have g:(0:Int)<=(i:Int):=by omega
 clear h a;go_in;go_wp2_with fail;go_quiet (fail)
 go_wp2;go_ret;exact⟨rfl,rfl,rfl,rfl,ae _,fun _ _=>rfl⟩
theorem alr(h:Pp E w i)(a5:i<E.n)(a4:(E.tk i).k≠6):A3 U 135 #[pV E] w fun e w'=>e= .returned (Jj (E.tk i))/\Pp E w' (i+1)/\w.grownBy w' (X E.pb):=by
 have bn:=h.lt;have G:=bg w (.cells #[.int .i64 0,.int .i64 0,.int .i64 0,.int .i64 0,.int .i64 0,.string ⟨#[]⟩] 96);have F:=h.keep (qg G _);obtain⟨c,I⟩:=F.move (i+1);obtain⟨a0,a1,a2⟩:=F.cells;obtain⟨o,p,an⟩:=c.cells;obtain⟨s,u,z,A,B,C⟩:=c.tkw a5 a4;have a3:((i+1:Nat):Int)=(i:Int)+1:=by omega
 rw[a3]at c I p o an s u z A B C;have bk:(i:Int)<(E.n:Int):=by omega
 have bh:(0:Int)<=(i:Int):=by omega
 have bl:=h.hn;have bo:IntKind.i64.wrap ((i:Int)+1-1)=(i:Int):=by rw[di];omega
 have br:IntKind.i64.wrap (i:Int)=(i:Int):=by rw[di];omega
 have bs:IntKind.i64.wrap ((i:Int)+1)=(i:Int)+1:=by rw[di];omega
 obtain⟨a,r⟩:=ay ((w.alloc (.cells #[.int .i64 0,.int .i64 0,.int .i64 0,.int .i64 0,.int .i64 0,.string ⟨#[]⟩] 96)).setCell ⟨E.pb,1,V⟩ (.int .i64 ((i:Int)+1)));have H:a.heap[w.heap.size]?=X (.cells #[.int .i64 0,.int .i64 0,.int .i64 0,.int .i64 0,.int .i64 0,.string ⟨#[]⟩] 96 (0,0)):=by
  rw[<-r,aD _ _ _ _ (by show w.heap.size≠E.pb;omega)];exact aj w _
 have ao:w.grownBy a (X E.pb):=by rw[<-r];exact(qg G _).trans I
 rw[r]at c o p an s u z A B C;go_in;go_wp2_with fail;have m:=iD c ao H;have am:=aw h;clear r F G c I a0 a1 a2 h ao H;obtain⟨z0,bt,bw,bx,bA,bD⟩:=eJ m.out.2.2;obtain⟨bE,b0,b1,b3,b4,b5⟩:=mu m.out.2.2;have ap:E.pb≠w.heap.size:=by omega
 have ar:E.tb≠w.heap.size:=by
  obtain⟨bb,bd,a7,_⟩:=am.out.tks;have:=ah a7;omega
 have J:∀j K L ad af ak al,(uG a w.heap.size K L ad af ak al).drew.cell? ⟨E.pb,j,V⟩=a.cell? ⟨E.pb,j,V⟩:=fun j=>lg ap j;have b:∀j K L ad af ak al,(uG a w.heap.size K L ad af ak al).drew.cell? ⟨E.tb,j,V⟩=a.cell? ⟨E.tb,j,V⟩:=fun j=>lg ar j;unfold uG at J b;go_region_held3 (fun w'=>w'.cell? ⟨E.pb,0,V⟩=X (.slice (X ⟨E.tb,0,V⟩) E.n E.cap)/\w'.cell? ⟨E.pb,1,V⟩=X (.int .i64 ((i:Int)+1))/\w'.cell? ⟨E.tb,i*6,V⟩=X (.int .i64 (E.tk i).k)/\w'.cell? ⟨E.tb,i*6+1,V⟩=X (.int .i64 (E.tk i).f)/\w'.cell? ⟨E.tb,i*6+2,V⟩=X (.int .i64 (E.tk i).t)/\w'.cell? ⟨E.tb,i*6+3,V⟩=X (.int .i64 (E.tk i).l)/\w'.cell? ⟨E.tb,i*6+4,V⟩=X (.int .i64 (E.tk i).n)/\w'.cell? ⟨E.tb,i*6+5,V⟩=X (.string (E.tk i).x)) (first|with_reducible exact⟨(J 0 _ _ _ _ _ _).trans o,(J 1 _ _ _ _ _ _).trans p,(b (i*6) _ _ _ _ _ _).trans s,(b (i*6+1) _ _ _ _ _ _).trans u,(b (i*6+2) _ _ _ _ _ _).trans z,(b (i*6+3) _ _ _ _ _ _).trans A,(b (i*6+4) _ _ _ _ _ _).trans B,(b (i*6+5) _ _ _ _ _ _).trans C⟩|exact⟨o,p,s,u,z,A,B,C⟩) (fail)
 have g:=xp a w.heap.size (.int .i64 (E.tk i).k) (.int .i64 (E.tk i).f) (.int .i64 (E.tk i).t) (.int .i64 (E.tk i).l) (.int .i64 (E.tk i).n) (.string (E.tk i).x);have d:=yn m.out.2.2 (.int .i64 (E.tk i).k) (.int .i64 (E.tk i).f) (.int .i64 (E.tk i).t) (.int .i64 (E.tk i).l) (.int .i64 (E.tk i).n) (.string (E.tk i).x);rw[<-oq]at d;unfold uG at g d;generalize World.drew _=a9 at g d⊢;go_wp2;obtain⟨a8,av,H⟩:=m.out;exact ba (eu rfl _ _ w.heap.size _ _ _ _ rfl d Tryz.underlying96 rfl (by kernel_rfl)) rfl ⟨rfl,a8.other ap.symm ar.symm (rg am.out.lt) g,av.andThen g (fun j a6=> .inl (by cases a6;exact ae _))⟩
end
section
variable {E : Pe} {w w' : World} {i : Nat}
theorem als(h:Pp E w i)(o:i<E.n){k:Int}(d:(E.tk i).k=k):A3 U 213 #[pV E,Z Ax k] w fun e w'=>e= A1 (Bs B0)/\Pp E w' (i+1)/\w.grownBy w' (X E.pb):=by
 have u:((E.tk i).k !=k)=A5:=by simp[d]
 have g:=afc h o;have l:=aw h;have t:=h.hn;clear h d;go_in;go_wp2_with fail;refine g.mono ?_;rintro e z ⟨rfl,c⟩;have a:=l.out.keep (qg c _);obtain⟨p,r,s⟩:=a.cells;have m:=aw a;clear a g;go_wp2_with fail;go_ret;have b:=m.out.move (i+1);rw[show((i+1:Nat):Int)=(i:Int)+1 by omega]at b;exact⟨rfl,b.1,(qg c _).trans b.2⟩
theorem alt(h:Pp E w i)(a:i<E.n){k:Int}(b:(E.tk i).k≠k):A3 U 213 #[pV E,Z Ax k] w fun e w'=>e= A1 (Bs A5)/\B2 w.heap.size w w':=by
 have g:((E.tk i).k !=k)=B0:=by simp[b]
 have d:=afc h a;clear h b a;go_in;go_wp2_with (go_at_call 134;refine d.mono ?_;rintro e l ⟨rfl,c⟩);go_ret;exact⟨rfl,c⟩
theorem afd(h:Pp E w i)(al:i<E.n):A3 U 77 #[pV E] w fun e w'=>(∃l,((E.tk i).k≠6->l=(E.tk i).l)/\e= .returned (.agg #[.int .i64 (E.tk i).k,.int .i64 (E.tk i).f,.int .i64 (E.tk i).t,.int .i64 l,.int .i64 (E.tk i).n,.string (E.tk i).x]))/\B2 w.heap.size w w':=by
 have g:=bg w (.cells #[.int .i64 0,.int .i64 0,.int .i64 0,.int .i64 0,.int .i64 0,.string ⟨#[]⟩] 96);have m:=h.keep (qg g _);obtain⟨p,r,ak⟩:=m.cells;obtain⟨l,an,z,A,B,C,F,G⟩:=m.tok al;have a3:(i:Int)<(E.n:Int):=by omega
 have a2:(0:Int)<=(i:Int):=by omega
 have a4:=h.hn;have a5:IntKind.i64.wrap (i:Int)=(i:Int):=by rw[di];omega
 obtain⟨b,s⟩:=ay (w.alloc (.cells #[.int .i64 0,.int .i64 0,.int .i64 0,.int .i64 0,.int .i64 0,.string ⟨#[]⟩] 96));have af:b.heap[w.heap.size]?=X (.cells #[.int .i64 0,.int .i64 0,.int .i64 0,.int .i64 0,.int .i64 0,.string ⟨#[]⟩] 96 (0,0)):=by rw[<-s];exact aj w _
 rw[s]at m p r ak z A B C F G g;have c:=gK af g;have ao:E.pb≠w.heap.size:=by have:=h.lt;omega
 have ap:E.tb≠w.heap.size:=by
  obtain⟨a0,a1,ar,_⟩:=h.tks;have:=ah ar;omega
 clear h m af g;go_in;go_wp2_with fail;clear s;obtain⟨z0,a6,a7,a8,a9,bb⟩:=eJ c.out.1;obtain⟨bd,bh,bk,bl,bn,bo⟩:=mu c.out.1;have u:∀j H I J K L ad,(uG b w.heap.size H I J K L ad).drew.cell? ⟨E.pb,j,V⟩=b.cell? ⟨E.pb,j,V⟩:=fun j=>lg ao j;have a:∀j H I J K L ad,(uG b w.heap.size H I J K L ad).drew.cell? ⟨E.tb,j,V⟩=b.cell? ⟨E.tb,j,V⟩:=fun j=>lg ap j;unfold uG at u a;go_region_held3 (fun w'=>w'.cell? ⟨E.pb,0,V⟩=X (.slice (X ⟨E.tb,0,V⟩) E.n E.cap)/\w'.cell? ⟨E.pb,1,V⟩=X (.int .i64 (i:Int))/\w'.cell? ⟨E.tb,i*6,V⟩=X (.int .i64 (E.tk i).k)/\w'.cell? ⟨E.tb,i*6+1,V⟩=X (.int .i64 (E.tk i).f)/\w'.cell? ⟨E.tb,i*6+2,V⟩=X (.int .i64 (E.tk i).t)/\w'.cell? ⟨E.tb,i*6+3,V⟩=X (.int .i64 l)/\w'.cell? ⟨E.tb,i*6+4,V⟩=X (.int .i64 (E.tk i).n)/\w'.cell? ⟨E.tb,i*6+5,V⟩=X (.string (E.tk i).x)) (first|with_reducible exact⟨(u 0 _ _ _ _ _ _).trans p,(u 1 _ _ _ _ _ _).trans r,(a (i*6) _ _ _ _ _ _).trans z,(a (i*6+1) _ _ _ _ _ _).trans A,(a (i*6+2) _ _ _ _ _ _).trans B,(a (i*6+3) _ _ _ _ _ _).trans C,(a (i*6+4) _ _ _ _ _ _).trans F,(a (i*6+5) _ _ _ _ _ _).trans G⟩|exact⟨p,r,z,A,B,C,F,G⟩) (fail)
 have o:=xp b w.heap.size (.int .i64 (E.tk i).k) (.int .i64 (E.tk i).f) (.int .i64 (E.tk i).t) (.int .i64 l) (.int .i64 (E.tk i).n) (.string (E.tk i).x);have d:=yn c.out.1 (.int .i64 (E.tk i).k) (.int .i64 (E.tk i).f) (.int .i64 (E.tk i).t) (.int .i64 l) (.int .i64 (E.tk i).n) (.string (E.tk i).x);rw[<-oq]at d;unfold uG at o d;generalize World.drew _=av at o d⊢;go_wp2;exact ba (eu rfl _ _ w.heap.size _ _ _ _ rfl d Tryz.underlying96 rfl (by kernel_rfl)) rfl ⟨⟨l,an,rfl⟩,c.out.2.grown o (by have:=c.out.2.size;omega) (fun k am=>by cases am;omega)⟩
theorem ahF(h:Pp E w (i+1))(an:i<E.n)(nk:Int)(T:Tk)(a:Option Addr)(n c:Nat):A3 U 215 #[pV E,.int .i64 nk,Jj T,.slice a n c] w fun e w'=>e= .returned (.agg #[.int .i64 nk,.int .i64 T.f,.int .i64 (E.tk i).t,.int .i64 T.l,.int .i64 0,.slice a n c])/\B2 w.heap.size w w':=by
 have K:=bg w (.cells (ew T.k T) 96);have A:B2 w.heap.size w ((w.alloc (.cells (ew T.k T) 96)).alloc (.cells #[.int .i64 0,.int .i64 0,.int .i64 0,.int .i64 0,.int .i64 0,.slice V 0 0] 157)):=K.alloc (by simp) _;have C:=h.keep (qg A _);obtain⟨G,B,am⟩:=C.cells;obtain⟨l,bh,a1,a2,J,a3,a4,a5⟩:=C.tok an;rw[show((i+1:Nat):Int)=(i:Int)+1 by omega]at B;have bb:(i:Int)<(E.n:Int):=by omega
 have a9:(0:Int)<=(i:Int):=by omega
 have bd:=h.hn;have bk:IntKind.i64.wrap ((i:Int)+1-1)=(i:Int):=by rw[di];omega
 have bl:IntKind.i64.wrap (i:Int)=(i:Int):=by rw[di];omega
 obtain⟨b,g⟩:=ay ((w.alloc (.cells (ew T.k T) 96)).alloc (.cells #[.int .i64 0,.int .i64 0,.int .i64 0,.int .i64 0,.int .i64 0,.slice V 0 0] 157));have ad:b.heap[w.heap.size+1]?=X (.cells #[.int .i64 0,.int .i64 0,.int .i64 0,.int .i64 0,.int .i64 0,.slice V 0 0] 157 (0,0)):=by
  have:=aj (w.alloc (.cells (ew T.k T) 96)) (.cells #[.int .i64 0,.int .i64 0,.int .i64 0,.int .i64 0,.int .i64 0,.slice V 0 0] 157);rw[aF]at this;rw[<-g];exact this
 have L:b.heap[w.heap.size]?=X (.cells (ew T.k T) 96 (0,0)):=by
  rw[<-g];exact((bg (w.alloc (.cells (ew T.k T) 96)) _).block _ (by simp)).trans (aj w _)
 rw[g]at C G B am a1 a2 J a3 a4 a5 A;have d:=gK ad A;obtain⟨bn,ak,bo,al,br,bs⟩:=eJ L;have ap:E.pb≠w.heap.size+1:=by have:=h.lt;omega
 have ar:E.tb≠w.heap.size+1:=by
  obtain⟨a7,a8,a0,_⟩:=h.tks;have:=ah a0;omega
 have av:w.heap.size≠w.heap.size+1:=by omega
 clear h C ad A K L;simp only[ew]at g;unfold Jj;go_in;go_wp2_with fail;clear g;obtain⟨z0,bt,bw,bx,bA,bD⟩:=eJ d.out.1;obtain⟨bE,b1,b2,b3,b4,b5⟩:=mu d.out.1;have I:∀j m o p r s u,(uG b (w.heap.size+1) m o p r s u).drew.cell? ⟨E.pb,j,V⟩=b.cell? ⟨E.pb,j,V⟩:=fun j=>lg ap j;have af:∀j m o p r s u,(uG b (w.heap.size+1) m o p r s u).drew.cell? ⟨E.tb,j,V⟩=b.cell? ⟨E.tb,j,V⟩:=fun j=>lg ar j;have H:∀j m o p r s u,(uG b (w.heap.size+1) m o p r s u).drew.cell? ⟨w.heap.size,j,V⟩=b.cell? ⟨w.heap.size,j,V⟩:=fun j=>lg av j;unfold uG at I af H;go_region_held3 (fun w'=>w'.cell? ⟨E.pb,0,V⟩=X (.slice (X ⟨E.tb,0,V⟩) E.n E.cap)/\w'.cell? ⟨E.pb,1,V⟩=X (.int .i64 ((i:Int)+1))/\w'.cell? ⟨E.tb,i*6+2,V⟩=X (.int .i64 (E.tk i).t)/\w'.cell? ⟨w.heap.size,1,V⟩=X (.int .i64 T.f)/\w'.cell? ⟨w.heap.size,3,V⟩=X (.int .i64 T.l)) (first|with_reducible exact⟨(I 0 _ _ _ _ _ _).trans G,(I 1 _ _ _ _ _ _).trans B,(af (i*6+2) _ _ _ _ _ _).trans J,(H 1 _ _ _ _ _ _).trans ak,(H 3 _ _ _ _ _ _).trans al⟩|exact⟨G,B,J,ak,al⟩) (fail)
 have F:=xp b (w.heap.size+1) (.int .i64 nk) (.int .i64 T.f) (.int .i64 (E.tk i).t) (.int .i64 T.l) (.int .i64 0) (.slice a n c);have z:=yn d.out.1 (.int .i64 nk) (.int .i64 T.f) (.int .i64 (E.tk i).t) (.int .i64 T.l) (.int .i64 0) (.slice a n c);rw[<-oq]at z;unfold uG at F z;generalize World.drew _=a6 at F z⊢;go_wp2;exact ba (eu rfl _ _ (w.heap.size+1) _ _ _ _ rfl z Tryz.underlying157 rfl (by kernel_rfl)) rfl ⟨rfl,d.out.2.grown F (by have:=d.out.2.size;omega) (fun k ao=>by cases ao;omega)⟩
end
section
variable {E : Pe} {W w w' : World} {i j q : Nat} {k nk : Int} {kv v : Value} {kn vs us ws : List Value} {D R : Fo} {T : Bxs} {M : List (Value × List ByteArray)} {f : FuncId} {args : Array Value}
theorem im(S:A2 (Sw E W w i kv kn D vs T M))(d:(E.tk i).k=k)(c:i<E.n):A3 U 134 #[pV E] w fun e w'=>e= A1 (Z Ax k)/\A2 (Sw E W w' i kv kn D vs T M):=by
 rw[<-d];refine(afc S.out.pp c).mono ?_;rintro e w' ⟨b,a⟩;exact⟨b,sB S a⟩
theorem dx(S:A2 (Sw E W w i kv kn D vs T M))(g:(E.tk i).k=k)(d:i<E.n)(a:k≠6):A3 U 135 #[pV E] w fun e w'=>e= A1 (B1 (ew k (E.tk i)))/\A2 (Sw E W w' (i+1) kv kn D vs T M):=by
 rw[<-g]at a⊢;refine(alr S.out.pp d a).mono ?_;rintro e w' ⟨c,b⟩;exact⟨c,sX S b⟩
theorem tw(S:A2 (Sw E W w i kv kn D vs T M))(d:(E.tk i).k=k)(c:i<E.n):A3 U 213 #[pV E,Z Ax k] w fun e w'=>e= A1 (Bs B0)/\A2 (Sw E W w' (i+1) kv kn D vs T M):=by
 refine(als S.out.pp c d).mono ?_;rintro e w' ⟨b,a⟩;exact⟨b,sX S a⟩
theorem uA(S:A2 (Sw E W w i kv kn D vs T M))(d:(E.tk i).k≠k)(c:i<E.n):A3 U 213 #[pV E,Z Ax k] w fun e w'=>e= A1 (Bs A5)/\A2 (Sw E W w' i kv kn D vs T M):=by
 refine(alt S.out.pp c d).mono ?_;rintro e w' ⟨b,a⟩;exact⟨b,sB S a⟩
theorem rG(S:A2 (Sw E W w i kv kn D vs T M))(g:(E.tk i).k=k)(d:i<E.n)(b:k≠6):A3 U 77 #[pV E] w fun e w'=>e= A1 (B1 (ew k (E.tk i)))/\A2 (Sw E W w' i kv kn D vs T M):=by
 rw[<-g]at b⊢;refine(afd S.out.pp d).mono ?_;rintro e w' ⟨⟨l,h,a⟩,c⟩;rw[h b]at a;exact⟨a,sB S c⟩
theorem js(S:A2 (Sw E W w i kv kn D vs T M)){t:Tk}(a:t.k=k):∃w',w.alloc (A7 (ew k t) 96)=w'/\A2 (Sw E W w' i kv kn D vs (tkB w.heap.size t::T) M):=by
 rw[<-a];exact⟨_,rfl,S.out.box t⟩
theorem ma{b:Nat}{t:Tk}(S:A2 (Sw E W w i kv kn D vs (tkB b t::T) M))(a:t.k=k):w.cell? ⟨b,0,V⟩=X (Z Ax k)/\w.cell? ⟨b,1,V⟩=X (Z Ax t.f)/\w.cell? ⟨b,2,V⟩=X (Z Ax t.t)/\w.cell? ⟨b,3,V⟩=X (Z Ax t.l)/\w.cell? ⟨b,4,V⟩=X (Z Ax t.n)/\w.cell? ⟨b,5,V⟩=X (A9 t.x):=by
 rw[<-a];exact eJ (S.out.tb _ (bK ..)).2.2
theorem zt.form{lo:Nat}{c:Option Nat}(h:zt w lo c R [v]):∃t p,v= O t p:=by
 cases R with
 |nil=>obtain⟨b,a,_⟩:=h;cases a
 |cons d k n=>
  obtain⟨b,e,m,r,o,kv,s,g,l,a,_⟩:=h;exact⟨_,_,(po a.1).1⟩
theorem iB(S:A2 (Sw E W w i kv kn D vs T M))(C:CN E f args i R j)(c:R.sz<=50000000):A3 U f args w fun e w'=>∃t p,e= A1 (O t p)/\A2 (Sw E W w' j kv kn (D.app R) (vs++[O t p]) T M):=by
 refine(C w S.out.pp c).mono ?_;rintro e w' ⟨v,b,a⟩;obtain⟨t,p,rfl⟩:=zt.form a.out.nn;exact⟨t,p,b,S.out.sub a.out⟩
theorem yd(S:A2 (Sw E W w i s0 [] D vs T M))(C:CR E f args i R j)(g:R.sz<=50000000):A3 U f args w fun e w'=>∃a n c us,e= A1 (Y a n c)/\A2 (Sw E W w' j (Y a n c) us (D.app R) (vs++us) T M)/\us.length=n:=by
 refine(C w S.out.pp g).mono ?_;rintro e w' ⟨v,us,d,b⟩;obtain⟨a,c,rfl⟩:=bz b.out.ro;exact⟨a,_,c,us,d,S.out.subL b.out,rfl⟩
theorem oL(S:A2 (Sw E W w i s0 [] D vs T M))(us:List A0)(cs:Array A0)(a:cs=us.toArray)(n:Nat)(b:us.length=n)(c:n<=100):∃w',w.alloc (A7 cs 102)=w'/\A2 (Sw E W w' i (Y (X ⟨w.heap.size,0,V⟩) n n) us D vs T M):=by
 subst a b;exact⟨_,rfl,S.out.lit us c⟩
theorem fE(S:A2 (Sw E W w j kv kn D vs T M)){t:Tk}(g:t.k=k)(h:1<=j)(m:j<=E.n)(nk:Int)(a:Option Addr)(n c:Nat):A3 U 215 #[pV E,Z Ax nk,B1 (ew k t),Y a n c] w fun e w'=>e= A1 (B1 #[Z Ax nk,Z Ax t.f,Z Ax (E.tk (j-1)).t,Z Ax t.l,Z Ax 0,Y a n c])/\A2 (Sw E W w' j kv kn D vs T M):=by
 rw[<-g];obtain⟨i,rfl⟩:∃i,j=i+1:=⟨j-1,by omega⟩;refine(ahF S.out.pp (by omega) nk t a n c).mono ?_;rintro e w' ⟨d,b⟩;exact⟨d,sB S b⟩
theorem KJ{vn:A0}(N:Nd)(S:A2 (Sw E W w i kv vs D vs T ((vn,N.nm)::M)))(d:lE N (dF N.k)=N){cs:Array A0}(e:cs=([Z Ax N.k,Z Ax N.f,Z Ax N.t,Z Ax N.l,Z Ax 0,kv]++LB N vn (dF N.k)).toArray){st:B3}(g:st=uj (dF N.k)):A2 (Sw E W (w.alloc (A7 cs st)) i s0 [] (one N D) [ey N.k w.heap.size] [] []):=(S.out.fin0 N vn d (S.out.nm _ (bK ..)) cs e st g (M':=[]) (fun h b=>by cases b) (fun c a=>by
 have a:(c++(vn.ownBlock.toList++mB M)).Nodup:=a;rw[show mB []=[] from rfl,da,da];rw[<-dh]at a;exact(List.perm_append_comm.nodup_iff).1 (List.nodup_append.1 a).1)).drop (fun h b=>by cases b) (.inr rfl)
theorem zD(S:A2 (Sw E W w i kv vs D vs T M))(N:Nd)(a:lE N (dF N.k)=N)(d:N.nm=[]){cs:Array A0}(b:cs=([Z Ax N.k,Z Ax N.f,Z Ax N.t,Z Ax N.l,Z Ax 0,kv]++LB N s0 (dF N.k)).toArray){st:B3}(g:st=uj (dF N.k)):A2 (Sw E W (w.alloc (A7 cs st)) i s0 [] (one N D) [ey N.k w.heap.size] T M):=S.out.fin0 N s0 a (by rw[d];exact bc _ _ _ _) cs b st g (fun m e=>e) (fun h c=>by rw[show(s0:A0).ownBlock.toList=[] from rfl,de,da];exact c)
theorem qi(S:A2 (Sw E W w i kv vs D vs T M))(N:Nd)(a:lE N (dF N.k)=N)(c:N.nm=[]){cs:Array A0}(b:cs=([Z Ax N.k,Z Ax N.f,Z Ax N.t,Z Ax N.l,Z Ax 0,kv]++LB N s0 (dF N.k)).toArray){st:B3}(e:st=uj (dF N.k)):A2 (Sw E W (w.alloc (A7 cs st)) i s0 [] (one N D) [ey N.k w.heap.size] [] []):=(zD S N a c b e).out.drop (fun g d=>by cases d) (.inr rfl)
theorem zt.cell:∀(R:Fo)(vs:List A0){lo:Nat}{a:Option Nat},zt w lo a R vs->∀u∈vs,u.oneCell'=B0
 | .nil,vs,lo,a,⟨c,h⟩=>by obtain⟨rfl,rfl⟩:=h;intro u hu;cases hu
 | .cons m k g,vs,lo,a,⟨c,n,s,A,z,kv,l,p,b,d,o,r,k1,t,e⟩=>by
  intro u hu;rw[d.1]at hu;rcases List.mem_cons.1 hu with rfl|hu
  ·rfl
  ·exact zt.cell g l ⟨b,e⟩ u hu
theorem aca:(Tryz.prog.info? 102).map (fun i=>(i.zero,i.size,i.bytes))=X (X .nilIface,1,16):=by kernel_rfl
theorem gq{B:Array Oper}{C:List Oper}{o:Oper}{a:Act}{Q:Exit->Act->A6->Prop}(m:o.guard=V)(s x:Operand)(p:o.op= .call {callee:= .builtin .append,args:=#[s,x],argTypes:=#[155,155]}){base G:Nat}{F:A0}(t:a.eval s=kv)(g:w.ownsRow base 102 1 kv kn.length kn)(z:a.eval x=F)(ao:w.ownsRow G 102 1 F us.length us)(J:∀u∈us,u.oneCell'=B0)(a3:kn.length+us.length<=100000000)(L:base<=w.heap.size)
  (h:∀b d c w',w'.ownsRow base 102 1 (.slice b d c) (kn++us).length (kn++us)->d=kn.length+us.length->w.grownBy w' kv.ownBlock->((B4 b d c).ownBlock=kv.ownBlock\/(B4 b d c).ownBlock=X w.heap.size)->wpList U B Q C (a.put o.dst (.slice b d c)) w'):wpList U B Q (o::C) a w:=by
 obtain⟨A,n,al,am,an⟩:=dt aca;rcases ao.2 with⟨rfl,ak⟩|⟨I,H,ar,rfl,a2,ad,av,a0,a1,l⟩
 ·refine wpList_append_own_none m s x 155 p base 102 A 1 Tryz.underlying155 n _ _ _ t g z ?_;obtain⟨b,c,rfl⟩:=bz g;obtain rfl:us=[]:=List.length_eq_zero_iff.1 ak;exact h _ _ _ w (by simpa using g) (by simp) (sA _ _) (.inl rfl)
 ·refine wpList_append_own_at _ m s x 155 p base 102 A _ 1 16 Tryz.underlying155 n al am an rfl (by decide) _ _ _ t g ⟨I,0,V⟩ us.length H us z (by omega) (fun j u e=>World.news_of_block ad j u (by rw[rj]at l;rw[<-l,kE]at e;split at e;exact e;cases e)) J (by unfold A8;omega) (by omega) L ?_;intro a4 ap r af _ K;obtain⟨b,c,rfl⟩:=bz r;exact h _ _ _ ap (by rw[aH];exact r) rfl af K
end
open Go.Maps Go.WideMaps
section
variable {E : Pe} {i j k k1 : Nat} {x y R Ex : Fo}
theorem zE{nk:Int}(a:dF nk=6)(b:Nat):ey nk b= O 160 (.pointer (X ⟨b,0,V⟩)):=by unfold ey;rw[a];rfl
theorem D9{nk:Int}(a:dF nk=6)(s:Tk)(e:Int):lE (fp nk s e) (dF nk)=fp nk s e:=by rw[a];rfl
theorem Ea(m:i+1<E.n){nk k:Int}(h:k≠6)(a:dF nk=6)(c:(E.tk i).k=k):CN E 179 #[pV E,Z Ax nk] i (one (fp nk (E.tk i) (E.tk i).t) .nil) (i+1):=by
 intro w b o;have d:=Sw.start b;clear b;go_in;go_wp2_with fail;refine aJ (dx d c (by omega) h) fun p e=>?_;go_wp2_with fail;refine aJ (fE e c (by omega) (by omega) _ _ _ _) fun l g=>?_;go_wp2_with fail;go_ret;exact⟨_,rfl,zE a l.heap.size ▸ qi g (fp nk (E.tk i) (E.tk i).t) (D9 a _ _) rfl (by show _=(_++LB _ _ (dF nk)).toArray;rw[a];rfl) (by show _=uj (dF nk);rw[a];rfl)⟩
theorem aii{f:FuncId}(G:∀(args:Array A0) (w:A6),(callFunc f args).run U w= .ok (.enter f args) w)(H:i<E.n){nk k:Int}(s:k≠6)(a:dF nk=6)(b:(E.tk i).k=k)(A:CN E f #[pV E] (i+1) x j)(I:i+1<=j)(u:j<=E.n):CN E 182 #[pV E,Z Ax nk,.func (.func f) #[pV E] #[]] i (one (fp nk (E.tk i) (E.tk (j-1)).t) x) (j):=by
 intro w d z;have l:=Sw.start d;clear d;go_in;simp only[aA,Fo.sz_app]at z;go_wp2_with fail;refine aJ (dx l b (by omega) s) fun J m=>?_;obtain⟨K,e,o⟩:=js m b;simp only[ew]at e;go_wp2_with fail;clear e;refine(iB o A (by omega)).mono ?_;rintro C L ⟨h,g,rfl,c⟩;obtain⟨af,ak,al,am,an,ao⟩:=ma c b;obtain⟨ad,F,p⟩:=oL c [O h g] #[O h g] rfl 1 rfl (by decide);go_wp2_with fail;refine aJ (fE p b (by omega) u _ _ _ _) fun B r=>?_;go_wp2_with fail;go_ret;exact⟨_,rfl,zE a B.heap.size ▸ qi r (fp nk (E.tk i) (E.tk (j-1)).t) (D9 a _ _) rfl (by show _=(_++LB _ _ (dF nk)).toArray;rw[a];rfl) (by show _=uj (dF nk);rw[a];rfl)⟩
theorem aj5(a:(E.tk i).k=31)(G:i<E.n)(B:CN E 183 #[pV E] (i+1) x k)(C:CN E 185 #[pV E] k y j)(H:i+1<=j)(I:j<=E.n):CN E 177 #[pV E] i (one (fp 8 (E.tk i) (E.tk (j-1)).t) (x.app y)) (j):=by
 intro w c A;have m:=Sw.start c;clear c;simp only[aA,Fo.sz_app]at A;go_in;go_wp2_with fail;refine aJ (dx m a (by omega) (by decide)) fun J o=>?_;obtain⟨K,d,p⟩:=js o a;simp only[ew]at d;go_wp2_with fail;refine(iB p B (by omega)).mono ?_;rintro z L ⟨h,e,rfl,r⟩;clear d;go_wp2_with fail;refine(iB r C (by omega)).mono ?_;rintro z ad ⟨l,g,rfl,s⟩;obtain⟨af,F,b⟩:=oL s [O h e,O l g] #[O h e,O l g] rfl 2 rfl (by decide);obtain⟨al,am,an,ao,ap,ar⟩:=ma b a;go_wp2_with fail;refine aJ (fE b a (by omega) (by omega) 8 _ _ _) fun ak u=>?_;go_wp2_with fail;go_ret;exact⟨_,rfl,qi u (fp 8 (E.tk i) (E.tk (j-1)).t) rfl rfl rfl rfl⟩
theorem aj6(a:(E.tk i).k=42)(A:i<E.n)(r:CR E 76 #[pV E] (i+1) x k)(o:(E.tk k).k=43)(B:k+1<E.n):CN E 185 #[pV E] i (one (fp 1 (E.tk i) (E.tk k).t) x) (k+1):=by
 intro w c p;have e:=Sw.start c;clear c;simp only[aA,Fo.sz_app]at p;go_in;go_wp2_with fail;refine aJ (dx e a (by omega) (by decide)) fun H g=>?_;obtain⟨I,d,h⟩:=js g a;simp only[ew]at d;go_wp2_with fail;refine(yd h r (by omega)).mono ?_;rintro z J ⟨s,F,u,G,rfl,l,C⟩;clear d;go_wp2_with fail;refine aJ (dx l o (by omega) (by decide)) fun K b=>?_;obtain⟨ad,af,ak,al,am,an⟩:=ma b a;go_wp2_with fail;refine aJ (fE b a (by omega) (by omega) 1 _ _ _) fun L m=>?_;go_wp2_with fail;go_ret;exact⟨_,rfl,qi m (fp 1 (E.tk i) (E.tk k).t) rfl rfl rfl rfl⟩
end
section
variable {E : Pe} {i j k k1 : Nat} {x y R Ex : Fo}
theorem aaD{f:FuncId}{m:Nat}(br:∀(args:Array A0) (w:A6),(callFunc f args).run U w= .ok (.enter f args) w)(a8:CN E f #[pV E] i x k)(an:Ls E (CN E f #[pV E]) m k R j):CR E 214 #[pV E,.func (.func f) #[pV E] #[]] i (x.app R) j:=by
 intro w ak a3;have J:=Sw.start ak;have H:A2 (Ls E (CN E f #[pV E]) m k R j):=an;have a4:=a3;rw[Fo.sz_app]at a4;clear ak an;go_in;go_wp2_with fail;refine(iB J a8 (by omega)).mono ?_;rintro e bh ⟨n,h,rfl,K⟩;obtain⟨bk,a2,a⟩:=oL K [O n h] #[O n h] rfl 1 rfl (by decide);have C:A2 (Sw E w bk k (Y (X ⟨bh.heap.size,0,V⟩) 1 1) [O n h] x [O n h] [] []):=a;go_wp2_with fail;clear a2 J K a;go_loopg [5] m (fun gk bd wr=>∃(k:Nat) (D r:Fo) (c:Option Addr) (g d:Nat) (us:List A0),bd= Y c g d/\A2 (Ls E (CN E f #[pV E]) gk k r j/\Sw E w wr k (Y c g d) us D us [] []/\D.app r=x.app R))
 case atStart=>exact⟨k,x,R,_,1,1,_,rfl,H.out,C.out,rfl⟩
 case round=>
  clear C H;obtain⟨a9,D,r,c,g,d,us,rfl,G⟩:=hrel;obtain⟨a1,A,b⟩:=G.out;have a:A2 (Sw E w wr a9 (Y c g d) us D us [] []):=A;have bs:=zt.len _ _ A.nn;clear A G;cases a1 with
  |stop u z=>
   rw[Fo.app_nil]at b;go_wp2_with fail;refine aJ (uA a u z) fun bl s=>?_;go_wp2_with fail;go_ret;exact⟨_,us,rfl,by rw[<-b];exact s⟩
  |@go bb _ k1 _ B I u z a0 af=>
   have bt:D.sz+(B.sz+I.sz)<=50000000:=by have e:=congrArg Fo.sz b;simp only[Fo.sz_app]at e;omega
   have bo:=D.len_le;have F:=gK b af;clear b af;go_wp2_with fail;refine aJ (tw a u z) fun bl s=>?_;go_wp2_with fail;refine(iB s a0 (by omega)).mono ?_;rintro e p ⟨o,l,rfl,t⟩;go_wp2_with (at_builtin;refine gq rfl _ _ rfl rfl (sB t (bg p _)).out.ro rfl (kC (base:=p.heap.size) (e:=102) (size:=1) p #[O o l] 1 (ae _) (by unfold A8;omega) rfl) (us:=[O o l]) (by intro bw a7;rw[List.mem_singleton.1 a7];rfl) (by simp only[bv,dd];omega) (by rw[aF];have:=t.out.gr.size;omega) ?_;intro L ao ad bn ap a6 am al;have av:=(sB t (bg p _)).out.put ap am al;clear ap a6 am al);have ar:A2 (Sw E w bn k1 (Y L ao ad) (us++[O o l]) (D.app B) (us++[O o l]) [] []):=av;go_roundg bb
   case measure=>omega
   case rel=>exact⟨k1,D.app B,I,L,ao,ad,_,rfl,F.out.2,ar.out,by rw[Fo.app_app];exact F.out.1⟩
theorem afe{m:Nat}(hj:(E.tk j).k=43\/(E.tk j).k=6)(al:Ss E (CN E 136 #[pV E]) m i R j):CR E 76 #[pV E] i R j:=by
 intro w ad a9;have G:=Sw.start ad;have I:A2 (Ss E (CN E 136 #[pV E]) m i R j):=al;clear ad al;go_in;go_wp2_with fail;go_loopg [3] m (fun gk a6 wr=>∃(k:Nat) (D r:Fo) (g:Option Addr) (o h:Nat) (us:List A0),a6= Y g o h/\A2 (Ss E (CN E 136 #[pV E]) gk k r j/\Sw E w wr k (Y g o h) us D us [] []/\D.app r=R))
 case atStart=>exact⟨i,.nil,R,V,0,0,[],rfl,I.out,G.out,rfl⟩
 case round=>
  clear G I;obtain⟨n,D,r,g,o,h,us,rfl,H⟩:=hrel;obtain⟨a2,B,a⟩:=H.out;have z:A2 (Sw E w wr n (Y g o h) us D us [] []):=B;have bb:=zt.len _ _ B.nn;clear B H;cases a2 with
  |stop A=>
   rw[Fo.app_nil]at a;rcases hj with hj|hj;all_goals
    go_wp2_with fail;refine aJ (im z hj (by omega)) fun ao c=>?_;go_wp2_with fail;go_ret;exact⟨_,us,rfl,by rw[<-a];exact c⟩
  |@sep C _ _ _ s A l=>
   have b:=gK a l;clear a l;go_wp2_with fail;refine aJ (im z s (by omega)) fun ao c=>?_;go_wp2_with fail;refine aJ (dx c s (by omega) (by decide)) fun p d=>?_;go_wp2_with fail;go_roundg C
   case measure=>omega
   case rel=>exact⟨n+1,D,r,g,o,h,us,rfl,b.out.2,d.out,b.out.1⟩
  |@go C _ k1 _ F J s A av a0 a1 l=>
   have bd:D.sz+(F.sz+J.sz)<=50000000:=by have e:=congrArg Fo.sz a;simp only[Fo.sz_app]at e;omega
   have a8:=D.len_le;have b:=gK a l;have bh:((E.tk n).k==5)=A5:=by simp[s]
   have bk:((E.tk n).k==6)=A5:=by simp[A]
   have bl:((E.tk n).k==43)=A5:=by simp[av]
   clear a l;go_wp2_with fail;refine aJ (im z rfl a0) fun ao c=>?_;go_wp2_with fail;refine(iB c a1 (by omega)).mono ?_;rintro e p ⟨u,t,rfl,d⟩;go_wp2_with (at_builtin;refine gq rfl _ _ rfl rfl (sB d (bg p _)).out.ro rfl (kC (base:=p.heap.size) (e:=102) (size:=1) p #[O u t] 1 (ae _) (by unfold A8;omega) rfl) (us:=[O u t]) (by intro bn a4;rw[List.mem_singleton.1 a4];rfl) (by simp only[bv,dd];omega) (by rw[aF];have:=d.out.gr.size;omega) ?_;intro K am L a7 an a3 ak af;have ar:=(sB d (bg p _)).out.put an ak af;clear an a3 ak af);have ap:A2 (Sw E w a7 k1 (Y K am L) (us++[O u t]) (D.app F) (us++[O u t]) [] []):=ar;go_roundg C
   case measure=>omega
   case rel=>exact⟨k1,D.app F,J,K,am,L,_,rfl,b.out.2,ap.out,by rw[Fo.app_app];exact b.out.1⟩
theorem ahG(b c d e g a:A0)(w:A6):(Instr.field 96 (B1 #[b,c,d,e,g,a]) 5).run U w= .ok a w:=by kernel_rfl
def CT(E:Pe)(i:Nat)(ns:List ByteArray)(j:Nat):Prop:=
 ∀w,Pp E w i->A3 U 212 #[pV E] w fun a w'=>∃v,a= A1 v/\(Pp E w' j/\w.grownBy w' (X E.pb))/\w'.ownsRow w.heap.size 9 1 v (ns.map A4).length (ns.map A4)
theorem Sw.putN{W w w':A6}{v t:A0}{ns n:List ByteArray}{T:Bxs}(h:Sw E W w i s0 [] .nil [] T [(v,ns)])(o:w'.ownsRow W.heap.size 9 1 t (n.map A4).length (n.map A4))(g:w.grownBy w' v.ownBlock):Sw E W w' i s0 [] .nil [] T [(t,n)]:=by
 have p:=h.nm (v,ns) (bK ..);have m:∀{k:Nat}{d:Array A0}{r:B3}{e:Nat×Nat},w.heap[k]?=X (A7 d r e)->r≠9->w'.heap[k]?=X (A7 d r e):=fun b z=>(g.block _ (ah b) (fun l=>gA p b z l.symm)).trans b;obtain⟨d,e,A,B⟩:=h.pp.tks;obtain⟨F,u,s⟩:=h.pp.pw;have C:=(g.block _ (ah s) (fun l=>by have:=(p.lt _ l.symm).1;have:=h.lt;have:=h.pp.pg;omega)).trans s;refine⟨⟨h.pp.hn,⟨d,e,m A (by decide),B⟩,m h.pp.row (by decide),h.pp.pg,F,u,C⟩,h.gr.andThen g (fun k b=> .inl (p.lt k b).1),h.lt,bc _ _ _ _,⟨[],⟨rfl,rfl⟩,by simp[mB,Fq]⟩,fun c a=>⟨(h.tb c a).1,(h.tb c a).2.1,m (h.tb c a).2.2 (h.tb c a).2.1.2⟩,fun c a=>?_⟩;obtain rfl:=List.mem_singleton.1 a;exact o
theorem Ct{W w:A6}{kv:A0}{kn vs:List A0}{D:Fo}{T:Bxs}{M:List (A0×List ByteArray)}{ns:List ByteArray}(S:A2 (Sw E W w i kv kn D vs T M))(C:CT E i ns j):A3 U 212 #[pV E] w fun e w'=>∃a n c,e= A1 (Y a n c)/\A2 (Sw E W w' j kv kn D vs T ((Y a n c,ns)::M)):=by
 refine(C w S.out.pp).mono ?_;rintro e w' ⟨v,d,q,b⟩;obtain⟨a,c,rfl⟩:=bz b;exact⟨a,_,c,d,S.out.name q b⟩
theorem wA{ns:List ByteArray}(a2:(E.tk i).k=1)(a8:i<E.n)(ad:Fc E.tk E.n (i+1) ns j):CT E i ((E.tk i).x::ns) j:=by
 intro w u;have F:=Sw.start u;have C:A2 (Fc E.tk E.n (i+1) ns j):=ad;have a9:=u.hn;have a7:=ahG;clear u ad;go_in;go_wp2_with fail;refine aJ (dx F a2 (by omega) (by decide)) fun m p=>?_;simp only[ew];go_wp2_with fail;have s:=bg m (A7 #[A9 (E.tk i).x] 9);have A:A2 (Sw E w (m.alloc (A7 #[A9 (E.tk i).x] 9)) (i+1) s0 [] .nil [] [] [(Y (X ⟨m.heap.size,0,V⟩) 1 1,[(E.tk i).x])]):=p.out.name ⟨p.out.pp.keep (qg s _),qg s _⟩ (yK m (E.tk i).x);clear F p s;go_loopg [3] ns.length (fun gk a4 wr=>∃(k:Nat) (D l:List ByteArray) (a:Option Addr) (n b:Nat),a4= Y a n b/\gk=l.length/\D.length=n/\A2 (Fc E.tk E.n k l j/\Sw E w wr k s0 [] .nil [] [] [(Y a n b,D)]/\D++l=(E.tk i).x::ns/\i+2*D.length=k+1))
 case atStart=>exact⟨i+1,[(E.tk i).x],ns,_,1,1,rfl,rfl,rfl,C.out,A.out,rfl,by simp⟩
 case round=>
  clear A C;obtain⟨c,D,l,a,n,b,rfl,a1,h,B⟩:=hrel;obtain⟨ap,K,g,ar⟩:=B.out;have G:A2 (Sw E w wr c s0 [] .nil [] [] [(Y a n b,D)]):=K;clear K B;cases ap with
  |stop t I=>
   rw[da]at g;go_wp2_with fail;refine aJ (uA G t I) fun a5 d=>?_;go_wp2_with fail;go_ret;exact⟨_,rfl,⟨d.out.pp,d.out.gr⟩,by rw[<-g];exact d.out.nm _ (bK ..)⟩
  |@go _ _ af t I an J=>
   have a3:n<=50000000:=by omega
   have o:=iD g J ar;clear g J;go_wp2_with fail;refine aJ (tw G t (by omega)) fun a5 d=>?_;go_wp2_with fail;refine aJ (dx d an (by omega) (by decide)) fun e r=>?_;simp only[ew];have z:=r.out.nm _ (bK ..);rw[dc,h]at z;have al:A2 (e.ownsRow w.heap.size 9 1 (Y a n b) n (D.map A4)):=z;clear z;go_wp2_with (at_builtin;refine wl rfl _ _ rfl w.heap.size a n b D rfl h (aE al.out (bg e _)) (by rw[aF];have:=r.out.gr.size;omega) e.heap.size (E.tk (c+1)).x rfl (aj e _) a3 ?_;intro ao H a6 ak L a0;have am:A2 (Sw E w a6 (c+1+1) s0 [] .nil [] [] [(Y (X ⟨ao,0,V⟩) (n+1) H,D++[(E.tk (c+1)).x])]):=(sB r (bg e _)).out.putN (by rw[dc,aH,h];exact ak) L;clear ak L a0);go_roundg af.length
   case measure=>rw[a1];simp
   case rel=>exact⟨c+2,D++[(E.tk (c+1)).x],af,_,n+1,H,rfl,rfl,by rw[aH,h];rfl,o.out.2.1,am.out,by rw[dh];exact o.out.1,by have:=o.out.2.2;rw[aH,wH];omega⟩
end
section
variable {E : Pe} {i j k k1 : Nat} {x y R Ex : Fo}
theorem alu(a b c d e g:A0)(w:A6):(Instr.field 96 (B1 #[a,b,c,d,e,g]) 0).run U w= .ok a w:=by kernel_rfl
theorem cfE(args:Array A0)(w:A6):(callFunc 183 args).run U w= .ok (.enter 183 args) w:=by kernel_rfl
theorem cfB(args:Array A0)(w:A6):(callFunc 184 args).run U w= .ok (.enter 184 args) w:=by kernel_rfl
theorem alv(a:(E.tk i).k=22)(A:i<E.n){b:List ByteArray}(r:CT E (i+1) b k)(B:i+1<=k)(C:k<E.n)(p:(E.tk k).k≠47):CN E 173 #[pV E] i (one (nd 2 (E.tk i) (E.tk (k-1)).t 0 0 z0 b) .nil) (k):=by
 intro w d F;have g:=Sw.start d;clear d;go_in;go_wp2_with fail;refine aJ (dx g a (by omega) (by decide)) fun H h=>?_;obtain⟨I,e,l⟩:=js h a;simp only[ew]at e;go_wp2_with fail;refine(Ct l r).mono ?_;rintro z J ⟨s,G,u,rfl,m⟩;clear e;go_wp2_with fail;refine aJ (uA m p (by omega)) fun K c=>?_;obtain⟨ad,af,ak,al,am,ao⟩:=ma c a;go_wp2_with fail;refine aJ (fE c a (by omega) (by omega) 2 _ _ _) fun L o=>?_;go_wp2_with fail;go_ret;exact⟨_,rfl,KJ (nd 2 (E.tk i) (E.tk (k-1)).t 0 0 z0 b) o rfl rfl rfl⟩
theorem am2(a:(E.tk i).k=22)(H:i<E.n){b:List ByteArray}(A:CT E (i+1) b k)(I:i+1<=k)(L:k<E.n)(s:(E.tk k).k=47)(u:CR E 214 #[pV E,.func (.func 183) #[pV E] #[]] (k+1) Ex j)(J:k+1<=j)(K:j<=E.n):CN E 173 #[pV E] i (one (nd 2 (E.tk i) (E.tk (j-1)).t 0 0 z0 b) Ex) (j):=by
 intro w d z;have g:=Sw.start d;clear d;simp only[aA,Fo.sz_app]at z;go_in;go_wp2_with fail;refine aJ (dx g a (by omega) (by decide)) fun am h=>?_;obtain⟨ao,e,l⟩:=js h a;simp only[ew]at e;go_wp2_with fail;refine(Ct l A).mono ?_;rintro r ap ⟨C,ak,G,rfl,m⟩;clear e;go_wp2_with fail;refine aJ (tw m s (by omega)) fun ar o=>?_;go_wp2_with fail;refine(yd o u (by omega)).mono ?_;rintro r av ⟨B,af,F,al,rfl,c,ad⟩;obtain⟨a1,a2,a3,a4,a6,a7⟩:=ma c a;go_wp2_with fail;refine aJ (fE c a (by omega) (by omega) 2 _ _ _) fun a0 p=>?_;go_wp2_with fail;go_ret;exact⟨_,rfl,KJ (nd 2 (E.tk i) (E.tk (j-1)).t 0 0 z0 b) p rfl rfl rfl⟩
theorem aj7(a:(E.tk i).k=13)(J:i<E.n){b:List ByteArray}(C:CT E (i+1) b k)(K:i+1<=k)(af:k<E.n)(A:(E.tk k).k=47)(F:CN E 183 #[pV E] (k+1) x j)(L:k+1<=j)(ad:j<=E.n):CN E 174 #[pV E] i (one (nd 3 (E.tk i) (E.tk (j-1)).t 0 0 z0 b) x) (j):=by
 intro w d B;have l:=Sw.start d;clear d;simp only[aA,Fo.sz_app]at B;go_in;go_wp2_with fail;refine aJ (dx l a (by omega) (by decide)) fun al m=>?_;obtain⟨am,e,o⟩:=js m a;simp only[ew]at e;go_wp2_with fail;refine(Ct o C).mono ?_;rintro z ao ⟨G,ak,H,rfl,p⟩;clear e;go_wp2_with fail;refine aJ (dx p A (by omega) (by decide)) fun ap r=>?_;go_wp2_with fail;refine(iB r F (by omega)).mono ?_;rintro z ar ⟨h,g,rfl,c⟩;obtain⟨a1,a2,a3,a4,a5,a6⟩:=ma c a;obtain⟨av,I,s⟩:=oL c [O h g] #[O h g] rfl 1 rfl (by decide);go_wp2_with fail;refine aJ (fE s a (by omega) (by omega) 3 _ _ _) fun a0 u=>?_;go_wp2_with fail;go_ret;exact⟨_,rfl,KJ (nd 3 (E.tk i) (E.tk (j-1)).t 0 0 z0 b) u rfl rfl rfl⟩
theorem fnP(a:(E.tk i).k=18)(K:i<E.n){b:List ByteArray}(F:CT E (i+1) b k)(L:i+1<=k)(ak:k<E.n){kb:Int}(A:kb≠6)(B:(E.tk k).k=kb)(G:CN E 216 #[pV E,B1 (ew kb (E.tk k))] k x j)(ad:k+1<=j)(af:j<=E.n):CN E 175 #[pV E] i (one (nd 4 (E.tk i) (E.tk (j-1)).t 0 0 z0 b) x) (j):=by
 intro w d C;have l:=Sw.start d;clear d;simp only[aA,Fo.sz_app]at C;go_in;go_wp2_with fail;refine aJ (dx l a (by omega) (by decide)) fun am m=>?_;obtain⟨ao,e,o⟩:=js m a;simp only[ew]at e;go_wp2_with fail;refine(Ct o F).mono ?_;rintro z ap ⟨H,al,I,rfl,p⟩;clear e;go_wp2_with fail;refine aJ (rG p B (by omega) A) fun ar r=>?_;go_wp2_with fail;refine(iB r G (by omega)).mono ?_;rintro z av ⟨h,g,rfl,c⟩;obtain⟨a2,a3,a4,a5,a6,a7⟩:=ma c a;obtain⟨a0,J,s⟩:=oL c [O h g] #[O h g] rfl 1 rfl (by decide);go_wp2_with fail;refine aJ (fE s a (by omega) (by omega) 4 _ _ _) fun a1 u=>?_;go_wp2_with fail;go_ret;exact⟨_,rfl,KJ (nd 4 (E.tk i) (E.tk (j-1)).t 0 0 z0 b) u rfl rfl rfl⟩
theorem alw(l:i<E.n)(hk:(E.tk i).k=5\/(E.tk i).k=6\/(E.tk i).k=43){W w:A6}{kv:A0}{kn vs:List A0}{D:Fo}{T:Bxs}{M:List (A0×List ByteArray)}(b:A2 (Sw E W w i kv kn D vs T M)):A3 U 217 #[pV E] w fun e w'=>e= A1 (Bs B0)/\A2 (Sw E W w' i kv kn D vs T M):=by
 rcases hk with hk|hk|hk
 ·go_in;go_wp2_with fail;refine aJ (im b hk (by omega)) fun d a=>?_;go_wp2_with fail;go_ret;exact⟨rfl,a⟩
 ·go_in;go_wp2_with fail;refine aJ (im b hk (by omega)) fun d a=>?_;go_wp2_with fail;refine aJ (im a hk (by omega)) fun h c=>?_;go_wp2_with fail;go_ret;exact⟨rfl,c⟩
 ·go_in;go_wp2_with fail;refine aJ (im b hk (by omega)) fun d a=>?_;go_wp2_with fail;refine aJ (im a hk (by omega)) fun h c=>?_;go_wp2_with fail;refine aJ (im c hk (by omega)) fun m g=>?_;go_wp2_with fail;go_ret;exact⟨rfl,g⟩
theorem alx(m:i<E.n)(g:(E.tk i).k≠5)(h:(E.tk i).k≠6)(l:(E.tk i).k≠43){W w:A6}{kv:A0}{kn vs:List A0}{D:Fo}{T:Bxs}{M:List (A0×List ByteArray)}(a:A2 (Sw E W w i kv kn D vs T M)):A3 U 217 #[pV E] w fun e w'=>e= A1 (Bs A5)/\A2 (Sw E W w' i kv kn D vs T M):=by
 have o:((E.tk i).k==5)=A5:=by simp[g]
 have p:((E.tk i).k==6)=A5:=by simp[h]
 have r:((E.tk i).k==43)=A5:=by simp[l]
 go_in;go_wp2_with fail;refine aJ (im a rfl (by omega)) fun s b=>?_;go_wp2_with fail;refine aJ (im b rfl (by omega)) fun t c=>?_;go_wp2_with fail;refine aJ (im c rfl (by omega)) fun u d=>?_;go_wp2_with fail;go_ret;exact⟨rfl,d⟩
theorem aly(a:(E.tk i).k=27)(o:i+1<E.n)(m:(E.tk (i+1)).k=5\/(E.tk (i+1)).k=6\/(E.tk (i+1)).k=43):CN E 180 #[pV E] i (one (fp 13 (E.tk i) (E.tk i).t) .nil) (i+1):=by
 intro w c p;have e:=Sw.start c;clear c;go_in;go_wp2_with fail;refine aJ (dx e a (by omega) (by decide)) fun r g=>?_;obtain⟨s,d,h⟩:=js g a;simp only[ew]at d;go_wp2_with fail;clear d;refine aJ (alw o m h) fun u b=>?_;obtain⟨A,B,C,F,G,H⟩:=ma b a;go_wp2_with fail;refine aJ (fE b a (by omega) (by omega) 13 _ _ _) fun z l=>?_;go_wp2_with fail;go_ret;exact⟨_,rfl,qi l (fp 13 (E.tk i) (E.tk i).t) rfl rfl rfl rfl⟩
theorem am3(a:(E.tk i).k=27)(u:i+1<E.n)(o:(E.tk (i+1)).k≠5)(p:(E.tk (i+1)).k≠6)(r:(E.tk (i+1)).k≠43)(s:CR E 214 #[pV E,.func (.func 183) #[pV E] #[]] (i+1) Ex j)(F:i+1<=j)(G:j<=E.n):CN E 180 #[pV E] i (one (fp 13 (E.tk i) (E.tk (j-1)).t) Ex) (j):=by
 intro w c z;have e:=Sw.start c;clear c;simp only[aA,Fo.sz_app]at z;go_in;go_wp2_with fail;refine aJ (dx e a (by omega) (by decide)) fun K g=>?_;obtain⟨L,d,h⟩:=js g a;simp only[ew]at d;go_wp2_with fail;clear d;refine aJ (alx u o p r h) fun ad l=>?_;go_wp2_with fail;refine(yd l s (by omega)).mono ?_;rintro C af ⟨A,I,B,J,rfl,b,H⟩;obtain⟨al,am,an,ao,ap,ar⟩:=ma b a;go_wp2_with fail;refine aJ (fE b a (by omega) (by omega) 13 _ _ _) fun ak m=>?_;go_wp2_with fail;go_ret;exact⟨_,rfl,qi m (fp 13 (E.tk i) (E.tk (j-1)).t) rfl rfl rfl rfl⟩
theorem am4(a:(E.tk i).k=30)(af:i<E.n)(I:CN E 185 #[pV E] (i+1) x k)(F:(E.tk k).k=12)(am:k+1<E.n){b:List ByteArray}(H:CT E (k+1) b k1)(J:CN E 185 #[pV E] k1 y j)(ak:i+1<=j)(al:j<=E.n):CN E 181 #[pV E] i (one (nd 14 (E.tk i) (E.tk (j-1)).t 0 0 z0 b) (x.app y)) (j):=by
 intro w e G;have p:=Sw.start e;clear e;simp only[aA,Fo.sz_app]at G;go_in;go_wp2_with fail;refine aJ (dx p a (by omega) (by decide)) fun ap r=>?_;obtain⟨ar,g,s⟩:=js r a;simp only[ew]at g;go_wp2_with fail;refine(iB s I (by omega)).mono ?_;rintro d av ⟨m,h,rfl,u⟩;clear g;go_wp2_with fail;refine aJ (dx u F (by omega) (by decide)) fun a0 z=>?_;go_wp2_with fail;refine(Ct z H).mono ?_;rintro d a1 ⟨K,ao,L,rfl,A⟩;go_wp2_with fail;refine(iB A J (by omega)).mono ?_;rintro d a2 ⟨o,l,rfl,c⟩;obtain⟨a5,a6,a7,a8,a9,bb⟩:=ma c a;obtain⟨a3,ad,B⟩:=oL c [O m h,O o l] #[O m h,O o l] rfl 2 rfl (by decide);go_wp2_with fail;refine aJ (fE B a (by omega) (by omega) 14 _ _ _) fun a4 C=>?_;go_wp2_with fail;go_ret;exact⟨_,rfl,KJ (nd 14 (E.tk i) (E.tk (j-1)).t 0 0 z0 b) C rfl rfl rfl⟩
theorem am5(a:(E.tk i).k=19)(a8:i<E.n){g:List ByteArray}(al:CT E (i+1) g k)(a9:i+1<=k)(bh:k<E.n)(L:(E.tk k).k=47)(ad:CR E 214 #[pV E,.func (.func 183) #[pV E] #[]] (k+1) Ex k1)(ar:CN E 185 #[pV E] k1 y j)(bb:k+1<=j)(bd:j<=E.n):CN E 178 #[pV E] i (one (nd 9 (E.tk i) (E.tk (j-1)).t 0 0 z0 g) (Ex.app y)) (j):=by
 intro w p af;have B:=Sw.start p;clear p;simp only[aA,Fo.sz_app]at af;have a6:=alu;go_in;go_wp2_with fail;refine aJ (dx B a (by omega) (by decide)) fun br C=>?_;obtain⟨bs,s,F⟩:=js C a;simp only[ew]at s;go_wp2_with fail;refine(Ct F al).mono ?_;rintro e bt ⟨a2,bn,a4,rfl,G⟩;clear s;go_wp2_with fail;refine aJ (dx G L (by omega) (by decide)) fun bw H=>?_;simp only[ew];go_wp2_with fail;refine(yd H ad (by omega)).mono ?_;rintro e bx ⟨a1,bl,a3,A,rfl,l,am⟩;have ak:=zt.len _ _ l.out.nn;simp only[de]at ak;have bk:(Fo.nil.app Ex).len<=Ex.sz:=Fo.len_le _;clear am;go_wp2_with fail;refine(iB l ar (by omega)).mono ?_;rintro e d ⟨c,b,rfl,h⟩;go_wp2_with (at_builtin;refine gq rfl _ _ rfl rfl (sB h (bg d _)).out.ro rfl (kC (base:=d.heap.size) (e:=102) (size:=1) d #[O c b] 1 (ae _) (by unfold A8;omega) rfl) (us:=[O c b]) (by intro bo ap;rw[List.mem_singleton.1 ap];rfl) (by simp only[bv,dd];omega) (by rw[aF];have:=h.out.gr.size;omega) ?_;intro J av K a0 z ao u r;have o:=(sB h (bg d _)).out.put z u r;clear z ao u r;have m:A2 (Sw E w a0 j (Y J av K) (A++[O c b]) (Ex.app y) (A++[O c b]) _ _):=o;clear o;obtain⟨bD,bE,b0,b1,b2,b3⟩:=ma m a);refine aJ (fE m a (by omega) (by omega) 9 _ _ _) fun bA I=>?_;go_wp2_with fail;go_ret;exact⟨_,rfl,KJ (nd 9 (E.tk i) (E.tk (j-1)).t 0 0 z0 g) I rfl rfl rfl⟩
theorem alz(a:(E.tk i).k=19)(a8:i<E.n){g:List ByteArray}(al:CT E (i+1) g k)(a9:i+1<=k)(bh:k<E.n)(L:(E.tk k).k=21)(ad:CR E 214 #[pV E,.func (.func 183) #[pV E] #[]] (k+1) x k1)(ar:CN E 185 #[pV E] k1 y j)(bb:k+1<=j)(bd:j<=E.n):CN E 178 #[pV E] i (one (nd 10 (E.tk i) (E.tk (j-1)).t 0 0 z0 g) (x.app y)) (j):=by
 intro w p af;have B:=Sw.start p;clear p;simp only[aA,Fo.sz_app]at af;have a6:=alu;go_in;go_wp2_with fail;refine aJ (dx B a (by omega) (by decide)) fun br C=>?_;obtain⟨bs,s,F⟩:=js C a;simp only[ew]at s;go_wp2_with fail;refine(Ct F al).mono ?_;rintro e bt ⟨a2,bn,a4,rfl,G⟩;clear s;go_wp2_with fail;refine aJ (dx G L (by omega) (by decide)) fun bw H=>?_;simp only[ew];go_wp2_with fail;refine(yd H ad (by omega)).mono ?_;rintro e bx ⟨a1,bl,a3,A,rfl,l,am⟩;have ak:=zt.len _ _ l.out.nn;simp only[de]at ak;have bk:(Fo.nil.app x).len<=x.sz:=Fo.len_le _;clear am;go_wp2_with fail;refine(iB l ar (by omega)).mono ?_;rintro e d ⟨c,b,rfl,h⟩;go_wp2_with (at_builtin;refine gq rfl _ _ rfl rfl (sB h (bg d _)).out.ro rfl (kC (base:=d.heap.size) (e:=102) (size:=1) d #[O c b] 1 (ae _) (by unfold A8;omega) rfl) (us:=[O c b]) (by intro bo ap;rw[List.mem_singleton.1 ap];rfl) (by simp only[bv,dd];omega) (by rw[aF];have:=h.out.gr.size;omega) ?_;intro J av K a0 z ao u r;have o:=(sB h (bg d _)).out.put z u r;clear z ao u r;have m:A2 (Sw E w a0 j (Y J av K) (A++[O c b]) (x.app y) (A++[O c b]) _ _):=o;clear o;obtain⟨bD,bE,b0,b1,b2,b3⟩:=ma m a);refine aJ (fE m a (by omega) (by omega) 10 _ _ _) fun bA I=>?_;go_wp2_with fail;go_ret;exact⟨_,rfl,KJ (nd 10 (E.tk i) (E.tk (j-1)).t 0 0 z0 g) I rfl rfl rfl⟩
end
section
variable {E : Pe} {i j k k1 : Nat} {x y R Ex : Fo}
theorem am6{q:Int}(K:q=20\/q=15)(a:(E.tk i).k=q)(L:i<E.n)(I:CN E 183 #[pV E] (i+1) x k)(J:CN E 185 #[pV E] k y k1)(af:k1<E.n)(C:(E.tk k1).k≠15)(F:(E.tk k1).k≠16)(ad:i+1<=k1):CN E 176 #[pV E] i (one (fp 7 (E.tk i) (E.tk (k1-1)).t) (x.app y)) (k1):=by
 intro w c H;have m:=Sw.start c;clear c;simp only[aA,Fo.sz_app]at H;have ak:((E.tk k1).k==15)=A5:=by simp[C]
 go_in;go_wp2_with fail;refine aJ (dx m a (by omega) (by omega)) fun al o=>?_;obtain⟨am,d,p⟩:=js o a;simp only[ew]at d;go_wp2_with fail;refine(iB p I (by omega)).mono ?_;rintro B an ⟨h,e,rfl,r⟩;clear d;go_wp2_with fail;refine(iB r J (by omega)).mono ?_;rintro B ao ⟨l,g,rfl,s⟩;obtain⟨ap,G,u⟩:=oL s [O h e,O l g] #[O h e,O l g] rfl 2 rfl (by decide);go_wp2_with fail;refine aJ (im u rfl (by omega)) fun ar z=>?_;clear G;go_wp2_with fail;refine aJ (uA z F (by omega)) fun av b=>?_;obtain⟨a1,a2,a3,a4,a5,a6⟩:=ma b a;go_wp2_with fail;refine aJ (fE b a (by omega) (by omega) 7 _ _ _) fun a0 A=>?_;go_wp2_with fail;go_ret;exact⟨_,rfl,qi A (fp 7 (E.tk i) (E.tk (k1-1)).t) rfl rfl rfl rfl⟩
theorem am7{q:Int}(a3:q=20\/q=15)(a:(E.tk i).k=q)(a4:i<E.n)(ar:CN E 183 #[pV E] (i+1) x k)(av:CN E 185 #[pV E] k y k1)(a8:k1<E.n)(al:(E.tk k1).k=15){z:Fo}(a0:CN E 176 #[pV E] k1 z j)(a5:i+1<=j)(a6:j<=E.n):CN E 176 #[pV E] i (one (fp 7 (E.tk i) (E.tk (j-1)).t) ((x.app y).app z)) (j):=by
 intro w s an;have F:=Sw.start s;clear s;simp only[aA,Fo.sz_app]at an;go_in;go_wp2_with fail;refine aJ (dx F a (by omega) (by omega)) fun bb G=>?_;obtain⟨bd,A,H⟩:=js G a;simp only[ew]at A;go_wp2_with fail;refine(iB H ar (by omega)).mono ?_;rintro e bh ⟨g,b,rfl,I⟩;clear A;go_wp2_with fail;refine(iB I av (by omega)).mono ?_;rintro e bk ⟨h,c,rfl,J⟩;obtain⟨bl,am,K⟩:=oL J [O g b,O h c] #[O g b,O h c] rfl 2 rfl (by decide);go_wp2_with fail;refine aJ (im K al (by omega)) fun bn L=>?_;clear am;go_wp2_with fail;refine(iB L a0 (by omega)).mono ?_;rintro e m ⟨l,d,rfl,o⟩;go_wp2_with (at_builtin;refine gq rfl _ _ rfl rfl (sB o (bg m _)).out.ro rfl (kC (base:=m.heap.size) (e:=102) (size:=1) m #[O l d] 1 (ae _) (by unfold A8;omega) rfl) (us:=[O l d]) (by intro a9 ap;rw[List.mem_singleton.1 ap];rfl) (by simp only[bv,dd];omega) (by rw[aF];have:=o.out.gr.size;omega) ?_;intro af a1 ak a2 C ao B u;have r:=(sB o (bg m _)).out.put C B u;clear C ao B u;have p:A2 (Sw E w a2 j (Y af a1 ak) ([O g b,O h c]++[O l d]) ((x.app y).app z) ([O g b,O h c]++[O l d]) _ _):=r;clear r;obtain⟨br,bs,bt,bw,bx,bA⟩:=ma p a);refine aJ (fE p a (by omega) (by omega) 7 _ _ _) fun bo ad=>?_;go_wp2_with fail;go_ret;exact⟨_,rfl,qi ad (fp 7 (E.tk i) (E.tk (j-1)).t) rfl rfl rfl rfl⟩
theorem am8{q:Int}(a4:q=20\/q=15)(a:(E.tk i).k=q)(a5:i<E.n)(av:CN E 183 #[pV E] (i+1) x k)(a0:CN E 185 #[pV E] k y k1)(a9:k1<E.n)(u:(E.tk k1).k=16){z:Fo}(a1:CN E 185 #[pV E] (k1+1) z j)(a6:i+1<=j)(a8:j<=E.n):CN E 176 #[pV E] i (one (fp 7 (E.tk i) (E.tk (j-1)).t) ((x.app y).app z)) (j):=by
 intro w s ao;have G:=Sw.start s;clear s;simp only[aA,Fo.sz_app]at ao;go_in;go_wp2_with fail;refine aJ (dx G a (by omega) (by omega)) fun bd H=>?_;obtain⟨bh,B,I⟩:=js H a;simp only[ew]at B;go_wp2_with fail;refine(iB I av (by omega)).mono ?_;rintro e bk ⟨g,b,rfl,J⟩;clear B;go_wp2_with fail;refine(iB J a0 (by omega)).mono ?_;rintro e bl ⟨h,c,rfl,K⟩;obtain⟨bn,an,L⟩:=oL K [O g b,O h c] #[O g b,O h c] rfl 2 rfl (by decide);go_wp2_with fail;refine aJ (im L u (by omega)) fun bo ad=>?_;clear an;go_wp2_with fail;refine aJ (tw ad u (by omega)) fun br af=>?_;go_wp2_with fail;refine(iB af a1 (by omega)).mono ?_;rintro e m ⟨l,d,rfl,o⟩;go_wp2_with (at_builtin;refine gq rfl _ _ rfl rfl (sB o (bg m _)).out.ro rfl (kC (base:=m.heap.size) (e:=102) (size:=1) m #[O l d] 1 (ae _) (by unfold A8;omega) rfl) (us:=[O l d]) (by intro bb ar;rw[List.mem_singleton.1 ar];rfl) (by simp only[bv,dd];omega) (by rw[aF];have:=o.out.gr.size;omega) ?_;intro al a2 am a3 F ap C A;have r:=(sB o (bg m _)).out.put F C A;clear F ap C A;have p:A2 (Sw E w a3 j (Y al a2 am) ([O g b,O h c]++[O l d]) ((x.app y).app z) ([O g b,O h c]++[O l d]) _ _):=r;clear r;obtain⟨bt,bw,bx,bA,bD,bE⟩:=ma p a);refine aJ (fE p a (by omega) (by omega) 7 _ _ _) fun bs ak=>?_;go_wp2_with fail;go_ret;exact⟨_,rfl,qi ak (fp 7 (E.tk i) (E.tk (j-1)).t) rfl rfl rfl rfl⟩
theorem aff{W w:A6}{kv:A0}{kn vs:List A0}{D:Fo}{T:Bxs}{M:List (A0×List ByteArray)}{f:FuncId}{args:Array A0}(S:A2 (Sw E W w i kv kn D vs T M))(C:CR E f args i R j)(g:R.sz<=50000000):A3 U f args w fun e w'=>∃a n c us,e= A1 (Y a n c)/\A2 (Sw E W w' j kv kn (D.app R) (vs++us) T M)/\A2 (w'.ownsRow w.heap.size 102 1 (Y a n c) us.length us/\(∀u∈us,u.oneCell'=B0)/\us.length=R.len):=by
 refine(C w S.out.pp g).mono ?_;rintro e w' ⟨v,us,d,b⟩;obtain⟨a,c,rfl⟩:=bz b.out.ro;exact⟨a,_,c,us,d,S.out.sub b.out,b.out.ro,zt.cell _ _ b.out.nn,zt.len _ _ b.out.nn⟩
theorem doP{q:Int}(A:q=1\/q=40)(a:(E.tk i).k=q)(B:i<E.n)(r:CR E 214 #[pV E,.func (.func 184) #[pV E] #[]] i x j)(o:(E.tk j).k≠47)(F:j<E.n)(C:i+1<=j):CN E 186 #[pV E] i (one (fp 6 (E.tk i) (E.tk (j-1)).t) x) (j):=by
 intro w c p;have e:=Sw.start c;clear c;simp only[aA,Fo.sz_app]at p;go_in;go_wp2_with fail;refine aJ (rG e a (by omega) (by omega)) fun J g=>?_;obtain⟨K,d,h⟩:=js g a;simp only[ew]at d;go_wp2_with fail;refine(yd h r (by omega)).mono ?_;rintro z L ⟨s,H,u,I,rfl,l,G⟩;clear d;go_wp2_with fail;refine aJ (uA l o (by omega)) fun ad b=>?_;obtain⟨ak,al,am,an,ao,ap⟩:=ma b a;go_wp2_with fail;refine aJ (fE b a (by omega) (by omega) 6 _ _ _) fun af m=>?_;go_wp2_with fail;go_ret;exact⟨_,rfl,qi m (fp 6 (E.tk i) (E.tk (j-1)).t) rfl rfl rfl rfl⟩
theorem setP{q:Int}(a1:q=1\/q=40)(a:(E.tk i).k=q)(a2:i<E.n)(al:CR E 214 #[pV E,.func (.func 184) #[pV E] #[]] i x k)(K:(E.tk k).k=47)(a8:k<E.n)(L:CR E 214 #[pV E,.func (.func 183) #[pV E] #[]] (k+1) Ex j)(a4:k+1<=j)(a6:j<=E.n):CN E 186 #[pV E] i (one (nd 5 (E.tk i) (E.tk (j-1)).t 0 (x.len:Nat) z0 []) (x.app Ex)) (j):=by
 intro w m ad;have A:=Sw.start m;clear m;simp only[aA,Fo.sz_app]at ad;go_in;go_wp2_with fail;refine aJ (rG A a (by omega) (by omega)) fun bh B=>?_;obtain⟨bk,p,C⟩:=js B a;simp only[ew]at p;go_wp2_with fail;refine(yd C al (by omega)).mono ?_;rintro J bl ⟨ap,am,av,e,rfl,c,s⟩;clear p;have g:A2 (am=x.len/\e.length=x.len):=⟨by rw[<-s];exact zt.len _ _ c.out.nn,zt.len _ _ c.out.nn⟩;have bb:=x.len_le;have a9:=Ex.len_le;clear s;go_wp2_with fail;refine aJ (tw c K (by omega)) fun bn F=>?_;go_wp2_with fail;refine(aff F L (by omega)).mono ?_;rintro J bo ⟨ar,bd,a0,z,rfl,d,b⟩;go_wp2_with (at_builtin;refine gq rfl _ _ rfl rfl d.out.ro rfl b.out.1 b.out.2.1 (by have:=b.out.2.2;have:=g.out.2;omega) (by have:=d.out.gr.size;omega) ?_;intro H an I ao u ak r o;have l:=d.out.put u r o;clear u ak r o;have h:A2 (Sw E w ao j (Y H an I) (e++z) (x.app Ex) (e++z) _ _):=l;clear l;obtain⟨bs,bt,bw,bx,bA,bD⟩:=ma h a);refine aJ (fE h a (by omega) (by omega) 5 _ _ _) fun br G=>?_;have af:=g.out.1;subst af;go_wp2_with fail;go_ret;exact⟨_,rfl,qi G (nd 5 (E.tk i) (E.tk (j-1)).t 0 (x.len:Nat) z0 []) rfl rfl rfl rfl⟩
def stF(E:Pe)(k:Int):FuncId×Array A0:=
 if k=22 then(173,#[pV E])
 else if k=13 then(174,#[pV E])
 else if k=18 then(175,#[pV E])
 else if k=20 then(176,#[pV E])
 else if k=31 then(177,#[pV E])
 else if k=19 then(178,#[pV E])
 else if k=11 then(179,#[pV E,Z Ax 11])
 else if k=23 then(179,#[pV E,Z Ax 12])
 else if k=27 then(180,#[pV E])
 else if k=30 then(181,#[pV E])
 else if k=28 then(182,#[pV E,Z Ax 15,.func (.func 183) #[pV E] #[]])
 else if k=14 then(182,#[pV E,Z Ax 16,.func (.func 184) #[pV E] #[]])
 else if k=42 then(185,#[pV E])
 else if k=1 then(186,#[pV E])
 else(186,#[pV E])
theorem jI{q:Int}(h:(E.tk i).k=q)(m:i<E.n)(a:q=22\/q=13\/q=18\/q=20\/q=31\/q=19\/q=11\/q=23\/q=27\/q=30\/q=28\/q=14\/q=42\/q=1\/q=40)(b:CN E (stF E q).1 (stF E q).2 i R j):CN E 136 #[pV E] i R j:=by
 rcases a with rfl|rfl|rfl|rfl|rfl|rfl|rfl|rfl|rfl|rfl|rfl|rfl|rfl|rfl|rfl;all_goals
  simp only[stF]at b;simp at b;intro w c a;have d:=Sw.start c;clear c;go_in;go_wp2_with fail;refine aJ (im d h (by omega)) fun p e=>?_;go_wp2_with fail;refine(iB e b a).mono ?_;rintro l r ⟨o,p2,rfl,g⟩;go_wp2_with fail;go_ret;exact⟨_,rfl,g⟩
end
