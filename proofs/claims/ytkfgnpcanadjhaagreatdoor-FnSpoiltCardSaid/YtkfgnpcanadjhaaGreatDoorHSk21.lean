import Derived.Test.YtkfgnpcanadjhaaGreatDoorHSk19
import Derived.Test.YtkfgnpcanadjhaaGreatDoorHSk20
set_option linter.all false
set_option maxRecDepth 100000
set_option maxHeartbeats 12800000
namespace Go.Proofs.YtkfgnpcanadjhaaGreatDoor
open Go.RowKit Go.Maps Go.WideMaps
def Fo.all(p:Nd->Prop):Fo->Prop
 | .nil=>True
 | .cons N k r=>p N/\k.all p/\r.all p
theorem ly(p:Nd->Prop):∀(a b:Fo),(a.app b).all p↔a.all p/\b.all p
 | .nil,b=>by simp[Fo.app,Fo.all]
 | .cons N k r,b=>by simp only[Fo.app,Fo.all,ly p r b,and_assoc]
theorem eE(p:Nd->Prop)(N:Nd)(k:Fo):(one N k).all p↔p N/\k.all p:=by simp[one,Fo.all]
def Gd(tk:Nat->Tk)(n:Nat)(N:Nd):Prop:=(N.x=z0\/∃a,N.x=(tk a).x)/\N.nm.length<=n/\∀b∈N.nm,∃a,b=(tk a).x
def aiu(tk:Nat->Tk)(n:Nat):ul->Prop
 | .more _ _ x=>x.all (Gd tk n)
 | .post _ a=>a.all (Gd tk n)
 |_=>True
section
variable {tk : Nat → Tk} {n : Nat}
theorem gd0(k:Int)(s:Tk)(e op m:Int):Gd tk n (nd k s e op m z0 []):=⟨.inl rfl,aJ _,fun b a=>by cases a⟩
theorem gdx(k:Int)(s:Tk)(e op m:Int)(q:Nat):Gd tk n (nd k s e op m (tk q).x []):=⟨.inr ⟨q,rfl⟩,aJ _,fun x a=>by cases a⟩
theorem gd1(a:0<n)(k:Int)(s:Tk)(e op m:Int)(q:Nat):Gd tk n (nd k s e op m z0 [(tk q).x]):=⟨.inl rfl,a,fun x b=>⟨q,List.mem_singleton.1 b⟩⟩
theorem gdb(k:Int)(s:Tk)(e:Int):Gd tk n (uB k s e):=by unfold uB;split;exact gd0 ..;split;exact gd0 ..;exact gd0 ..
theorem gdh(N:Nd)(ks:Fo)(s:Tk)(e:Int)(a:Gd tk n N)(b:ks.all (Gd tk n)):(od N ks s e).all (Gd tk n):=by
 unfold od
 split
 ·rw[eE,eE];exact⟨gd0 ..,a,b⟩
 ·rw[eE];exact⟨a,b⟩
theorem Fx.gd{i j:Nat}{a:List ByteArray}(e:Fx tk n i a j):i+2*a.length<=j/\j<n/\∀x∈a,∃q,x=(tk q).x:=by
 induction e with
 |stop d b=>exact⟨by simp,b,fun x hx=>by cases hx⟩
 |go d b f _ c=>
  refine⟨by simp;omega,c.2.1,fun x hx=>?_⟩
  rcases List.mem_cons.1 hx with rfl|hx
  ·exact⟨_,rfl⟩
  ·exact c.2.2 x hx
theorem Lp.gd{i j:Nat}{c:List ByteArray}{r:Bool}(f:Lp tk n i c r j):i+c.length<=j/\j<=n/\∀x∈c,∃q,x=(tk q).x:=by
 induction f with
 |close a b=>exact⟨by simp,by omega,fun x hx=>by cases hx⟩
 |rest a b d=>exact⟨by simp,by omega,fun x hx=>by cases hx⟩
 |last a b d=>exact⟨by simp,by omega,fun x hx=>⟨_,List.mem_singleton.1 hx⟩⟩
 |go a b d _ e=>
  refine⟨by simp;omega,e.2.1,fun x hx=>?_⟩
  rcases List.mem_cons.1 hx with rfl|hx
  ·exact⟨_,rfl⟩
  ·exact e.2.2 x hx
theorem gdn{i j q:Nat}{a:List ByteArray}(b:Fx tk n i a j)(k:Int)(s:Tk)(e op m:Int):Gd tk n (nd k s e op m z0 ((tk q).x::a)):=by
 obtain⟨d,f,c⟩:=b.gd
 refine⟨.inl rfl,by show a.length+1<=n;omega,fun x hx=>?_⟩
 rcases List.mem_cons.1 hx with rfl|hx
 ·exact⟨_,rfl⟩
 ·exact c x hx
theorem P.gd{t:ul}{i j:Nat}{R:Fo}(a:P tk n t i R j):aiu tk n t->R.all (Gd tk n):=by
 induction a
 case tlet0 h1 h2 h3 h4 h5=>intro _;rw[eE];exact⟨gdn h4 ..,trivial⟩
 case tlet h1 h2 h3 h4 h5 h6 ih=>intro _;rw[eE];exact⟨gdn h4 ..,ih trivial⟩
 case tfor h1 h2 h3 h4 h5 h6 h7 i1 i2=>intro _;rw[eE,ly];exact⟨gdn h4 ..,i1 trivial,i2 trivial⟩
 case teach h1 h2 h3 h4 h5 h6 h7 h8 h9 i1 i2=>intro _;rw[eE,ly];exact⟨gdn h4 ..,i1 trivial,i2 trivial⟩
 case ttry h1 h2 h3 h4 h5 h6 h7 h8 i1 i2=>intro _;rw[eE,ly];exact⟨gdn h7 ..,i1 trivial,i2 trivial⟩
 case body nm r B h1 h2 h3 h4 ih=>intro _;rw[eE];exact⟨⟨.inl rfl,by have:=h3.gd;show nm.length<=n;omega,h3.gd.2.2⟩,ih trivial⟩
 case bopen h1 h2 h3 h4 h5 h6 i1 i2=>intro _;have:=i1 trivial;rw[eE]at this;exact i2 (gdh _ _ _ _ this.1 this.2)
 case tcon h1 h2 h3 h4 h5 ih=>intro _;rw[eE];exact⟨gd1 (by omega) ..,ih trivial⟩
 case tfn h1 h2 h3 h4 h5 ih=>intro _;rw[eE];exact⟨gd1 (by omega) ..,ih trivial⟩
 all_goals
  intro b
  simp_all only[eE,ly,aiu,Fo.all,gdx,gd0,kD,gdb,and_self,true_implies,forall_const]
end
def Fo.nms:Fo->Nat
 | .nil=>0
 | .cons N k r=>N.nm.length+k.nms+r.nms
theorem ny:∀(a b:Fo),(a.app b).nms=a.nms+b.nms
 | .nil,b=>by simp[Fo.app,Fo.nms]
 | .cons N k r,b=>by simp only[Fo.app,Fo.nms,ny r b];omega
theorem lA(N:Nd)(k:Fo):(one N k).nms=N.nm.length+k.nms:=by simp[one,Fo.nms]
theorem abz(N:Nd)(ks:Fo)(s:Tk)(e:Int):(od N ks s e).nms=(one N ks).nms:=by
 unfold od
 split
 ·rw[lA];simp[kD,nd]
 ·rfl
theorem zh(k:Int)(s:Tk)(e op m:Int)(x:ByteArray)(nm:List ByteArray):(nd k s e op m x nm).nm=nm:=rfl
theorem ag6(k:Int)(s:Tk)(e:Int):(uB k s e).nm=[]:=by unfold uB;split;rfl;split<;>rfl
def C4:ul->Nat
 | .more _ _ x=>x.nms
 | .post _ a=>a.nms
 |_=>0
theorem P.nms{tk:Nat->Tk}{n:Nat}{t:ul}{i j:Nat}{R:Fo}(a:P tk n t i R j):R.nms+i<=C4 t+j:=by
 induction a
 case tlet0 h1 h2 h3 h4 h5=>have:=h4.gd;simp only[lA,ny,C4,zh,Fo.nms,co]at *;omega
 case tlet h1 h2 h3 h4 h5 h6 ih=>have:=h4.gd;simp only[lA,ny,C4,zh,Fo.nms,co]at *;omega
 case tfor h1 h2 h3 h4 h5 h6 h7 i1 i2=>have:=h4.gd;simp only[lA,ny,C4,zh,Fo.nms,co]at *;omega
 case teach h1 h2 h3 h4 h5 h6 h7 h8 h9 i1 i2=>have:=h4.gd;simp only[lA,ny,C4,zh,Fo.nms,co]at *;omega
 case ttry h1 h2 h3 h4 h5 h6 h7 h8 i1 i2=>have:=h7.gd;simp only[lA,ny,C4,zh,Fo.nms,co]at *;omega
 case body h1 h2 h3 h4 ih=>have:=h3.gd;simp only[lA,ny,C4,zh,Fo.nms,co]at *;omega
 all_goals
  simp only[lA,ny,abz,C4,kD,zh,ag6,Fo.nms,co,dB]at *
  omega
theorem zi:∀(R:Fo)(a b:Nat),Fy a (R.flat b)+R.len=a+8*R.sz+R.nms
 | .nil,a,b=>by simp[Fo.flat,Fy,Fo.len,Fo.sz,Fo.nms]
 | .cons N k r,a,b=>by
  have d:=zi k a b
  have e:=zi r (nxt (Fy a (k.flat b)) {N with ks:=k.tops b}) (b+k.sz+1)
  have f:=k.tops_len b
  rw[Fo.flat,aaK,Fy]
  have c:nxt (Fy a (k.flat b)) {N with ks:=k.tops b}=Fy a (k.flat b)+7+N.nm.length+(k.tops b).length:=rfl
  simp only[Fo.len,Fo.sz,Fo.nms]
  omega
theorem aiv(s:ByteArray)(p:Nat)(e:p<s.size):(fh s p).x.size<=s.size:=by
 have c:∀a b,(s.extract a b).size<=s.size:=fun a b=>by rw[lj];omega
 unfold fh
 split
 ·show(wdP s p).2.size<=_
  unfold wdP
  split
  ·exact aJ _
  ·exact c _ _
 split
 ·split
  ·show(Gf s p).2.2.size<=_
   unfold Gf
   split
   ·exact aJ _
   split
   ·exact aJ _
   ·exact c _ _
  ·exact aJ _
 split
 ·split
  ·show(eI _).size<=_
   have d:=(ta s (s.size+1) (p+1) [] e).2.2
   rw[qK]
   simp at d
   omega
  ·exact aJ _
 split
 ·exact aJ _
 ·exact aJ _
theorem IE(s:ByteArray):∀(f:Nat)(st:List Int)(p:Nat)(l:Int)(a:List Tk),(∀T∈a,T.x.size<=s.size)->∀T∈(tF s f st p l a).1,T.x.size<=s.size
 |0,st,p,l,a,d=>fun T hT=>by cases hT
 |f+1,st,p,l,a,d=>by
  have c:∀(b:Tk),b.x.size<=s.size->∀T∈a++[b],T.x.size<=s.size:=fun b g T hT=>by
   rcases List.mem_append.1 hT with hT|hT
   ·exact d T hT
   ·rw[List.mem_singleton.1 hT];exact g
  rw[tF]
  split
  ·exact c _ (aJ _)
  ·rename_i h
   have e:=aiv s p (by omega)
   split
   ·split
    ·exact IE s f _ _ _ _ (c _ e)
    ·exact IE s f _ _ _ _ d
   ·split
    ·split
     ·exact IE s f _ _ _ _ (c _ e)
     ·exact fun T hT=>by cases hT
    ·exact fun T hT=>by cases hT
theorem IF(s:ByteArray):∀(f:Nat)(st:List Int)(p:Nat)(l:Int)(b:List Tk),p<=s.size->(tF s f st p l b).1.length<=b.length+(s.size-p)+1
 |0,st,p,l,b,e=>aJ _
 |f+1,st,p,l,b,e=>by
  rw[tF]
  split
  ·simp
  ·rename_i j
   have d:∀q,q<=s.size->q<=blk s (s.size+1) q/\blk s (s.size+1) q<=s.size:=fun q i=>jH s (s.size+1) q i
   split
   ·rename_i g
    have c:=jB s p (by omega) (abn s p g).1
    have:=d _ c.2.1
    split
    ·have:=IF s f (dF st 5).1 (blk s (s.size+1) (fh s p).a) (l+1) (b++[⟨5,(p:Nat),((fh s p).a:Nat),l,(fh s p).n,(fh s p).x⟩]) (by omega)
     simp only[aD,Bo]at this
     omega
    ·have:=IF s f st (blk s (s.size+1) (fh s p).a) (l+1) b (by omega)
     omega
   ·split
    ·split
     ·rename_i h
      have c:=jB s p (by omega) h
      have:=d _ c.2.1
      have:=IF s f (dF st (tE s p)).1 (blk s (s.size+1) (fh s p).a) l (b++[⟨tE s p,(p:Nat),((fh s p).a:Nat),l,(fh s p).n,(fh s p).x⟩]) (by omega)
      simp only[aD,Bo]at this
      omega
     ·exact aJ _
    ·exact aJ _
theorem xy(p:Nd->Prop)(d:∀(N:Nd) (ks:List Int),p N->p {N with ks:=ks}):∀(R:Fo)(b:Nat),R.all p->∀N∈R.flat b,p N/\N.ks.length<=R.sz
 | .nil,b,a=>fun N hN=>by cases hN
 | .cons f k r,b,a=>fun N hN=>by
  have g:=k.len_le
  have h:=k.tops_len b
  rw[Fo.flat,BC,gi]at hN
  rcases hN with hN|rfl|hN
  ·obtain⟨c,e⟩:=xy p d k b a.2.1 N hN
   exact⟨c,by rw[Fo.sz];omega⟩
  ·exact⟨d _ _ a.1,by rw[Fo.sz];show(k.tops b).length<=_;omega⟩
  ·obtain⟨c,e⟩:=xy p d r _ a.2.2 N hN
   exact⟨c,by rw[Fo.sz];omega⟩
def rF(s:ByteArray)(R:Fo):List Nd:=(one ⟨1,0,(s.size:Nat),1,0,0,⟨#[]⟩,[],[]⟩ R).flat 0
structure PF (s:ByteArray) (toks:List Tk) (m:Nat) (R:Fo) (lz:Int):Prop where
 len:toks.length=m+1
 le:m<=s.size
 p:P (rE toks) (m+1) .stats 0 R m
 k78:∀q,(rE toks q).k<=78
 k6:∀q,q<m->(rE toks q).k≠6
 end_:rE toks m=⟨6,(s.size:Nat),(s.size:Nat),lz,0,⟨#[]⟩⟩
 sz:R.sz<=200000
 sm:∀N∈rF s R,fm N
 ct:Fy 1 (rF s R)<=2000000
theorem aiw{s:ByteArray}(A:s.size<=65536){toks:List Tk}{st:List Int}(d:js s=(toks,st, -1)){m:Nat}{R:Fo}{j:Int}(o:toks.length=m+1)(p:rE toks m=⟨6,(s.size:Nat),(s.size:Nat),j,0,⟨#[]⟩⟩)(e:P (rE toks) (m+1) .stats 0 R m)(r:∀q,q<m->(rE toks q).k≠6):PF s toks m R j:=by
 obtain⟨I,H,a,w⟩:=yL s _ _ _ _ _ toks st d
 rw[er]at a
 have F:=jH s (s.size+1) 0 (aJ _)
 have i:=IF s (s.size+1) [100,6] (blk s (s.size+1) 0) 1 [] (by omega)
 have b:=IE s (s.size+1) [100,6] (blk s (s.size+1) 0) 1 [] (fun c v=>by cases v)
 have B:tF s (s.size+1) [100,6] (blk s (s.size+1) 0) 1 []=(toks,st, -1):=d
 rw[B]at i b
 simp only[dB]at i
 have z:=e.pos
 simp only[ij,slk,bas]at z
 have y:=e.nms
 have t:=e.gd trivial
 have h:(one ⟨1,0,(s.size:Nat),1,0,0,⟨#[]⟩,[],[]⟩ R:Fo).sz=R.sz+1:=dq _ _
 have l:∀q,(rE toks q).x.size<=65536:=fun q=>by
  unfold rE
  rw[aL]
  cases hq:toks[q]? with
  |none=>exact aJ _
  |some c=>exact ch (b c (bJ hq)) A
 have C:∀q,(rE toks q).k<=78:=fun q=>by
  unfold rE
  rw[aL]
  cases hq:toks[q]? with
  |none=>show(0:Int)<=78;decide
  |some c=>
   have:=bJ hq
   rw[a,BC,List.mem_singleton]at this
   rcases this with g|g
   ·have:=afG w g;show c.k<=78;omega
   ·rw[g];show(6:Int)<=78;decide
 refine⟨o,by omega,e,C,r,p,by omega,fun f u=>?_,?_⟩
 ·obtain⟨g,x⟩:=xy (Gd (rE toks) (m+1)) (fun f G d=>d) _ 0 ((eE _ _ R).2 ⟨⟨.inl rfl,aJ _,fun n b=>by cases b⟩,t⟩) f u
  rw[h]at x
  refine⟨by have:=g.2.1;omega,by omega,?_,fun n b=>?_⟩
  ·rcases g.1 with a|⟨q,a⟩
   ·rw[a];exact aJ _
   ·rw[a];have:=l q;omega
  ·obtain⟨q,a⟩:=g.2.2 n b
   rw[a];have:=l q;omega
 ·have:=zi (one ⟨1,0,(s.size:Nat),1,0,0,⟨#[]⟩,[],[]⟩ R) 1 0
  rw[h,lA]at this
  simp only[C4]at y
  have E:([]:List ByteArray).length=0:=rfl
  unfold rF
  show Fy 1 (Fo.flat (one ⟨1,0,(s.size:Nat),1,0,0,⟨#[]⟩,[],[]⟩ R) 0)<=_
  simp only[dB]at this
  omega
theorem Kr(op:Int):4<=(rB op).2/\(rB op).2<=11:=by
 unfold rB
 repeat' split
 all_goals exact⟨by decide,by decide⟩
theorem IG(k op:Int):2<=qc k op/\qc k op<=11:=by
 have:=Kr op
 unfold qc
 repeat' split
 all_goals omega
abbrev Cel(W:World)(b:Nat)(N:Nd)(vn vk:Value):Prop:=W.cell? ⟨b,0,none⟩=some (.int .i64 N.k)/\W.cell? ⟨b,1,none⟩=some (.int .i64 N.f)/\W.cell? ⟨b,2,none⟩=some (.int .i64 N.t)/\W.cell? ⟨b,3,none⟩=some (.int .i64 N.l)/\W.cell? ⟨b,4,none⟩=some (.int .i64 N.op)/\W.cell? ⟨b,5,none⟩=some (.int .i64 N.n)/\W.cell? ⟨b,6,none⟩=some (.string N.x)/\W.cell? ⟨b,7,none⟩=some vn/\W.cell? ⟨b,8,none⟩=some vk
theorem aev{c:World}{l:Addr}{n m tab i:Nat}{N:Nd}(ap:N.k≠29->N.k≠28->1<=N.op/\N.op<=18){f am:Option Addr}{M g L ck:Nat}(R:NdR c l i N f M g am L ck)(a3:N.ks.length=2){q r:Nat}(G:N.ks[0]?=some (q:Int))(o:N.ks[1]?=some (r:Int)){h:Int}(a8:0<=h/\h<=50){ar E ad:ByteArray}(B:Hid (Wr c (.slice (some l) n m) tab 95 #[pW c,.int .i64 (q:Int),.int .i64 (vK N h)] E))(a1:Hid (Wr c (.slice (some l) n m) tab 95 #[pW c,.int .i64 (r:Int),.int .i64 (qc N.k N.op)] ad)):
  Wr c (.slice (some l) n m) tab 154 #[pW c,gF N (.slice f M g) (.slice am L ck),.string ar,.int .i64 h] (E++ar++ad):=by
 intro af I F a4
 have ao:=F.lt
 have a7:=IG N.k N.op
 obtain⟨b,rfl⟩:=R.ks.ptr
 obtain rfl:L=2:=by have:=R.hL;omega
 have d:=aj R
 have A:=aj fun a6 a5=>Ep N a6 a5 ap
 unfold gF at A⊢
 unfold vK at B
 generalize qc N.k N.op=Rr at *
 simp only[ax]at a4
 have a:=aj (Bx.new F N (.slice f M g) (.slice (some b) 2 ck))
 obtain⟨p,s,t,u,v,w,x,y,z⟩:=a.cells
 have av:=a.kid0 d.ks G
 have a0:=a.kid d.ks o (by decide)
 have H:Hid (∀{af:ByteArray}{e:World},Bx c (.slice (some l) n m) tab I N (.slice f M g) (.slice (some b) 2 ck) af e->Cel e I.heap.size N (.slice f M g) (.slice (some b) 2 ck)/\e.cell? ⟨b.block,b.off+1,none⟩=some (.int .i64 (r:Int))):=fun a=>⟨a.cells,a.kid d.ks o (by decide)⟩
 clear F R ap a3
 by_cases j:Rr=h
 all_goals
  first|have a2:=Hz j|have a2:(Rr==h)=false:=by simpa using j
  first|rw[ab j]at B|rw[aa j]at B
  clear j
  go_in
  repeat (go_wp2_with fail;(first|(go_at_call 190;refine dG (A _ _ _) fun e C=>?_;have a:=aj (a.below C);clear p s t u v w x y z;obtain⟨p,s,t,u,v,w,x,y,z⟩:=a.cells;have av:=a.kid0 d.ks G;have a0:=a.kid d.ks o (by decide))|(refine Bx.stp a (ag _ _) (by with_reducible first|exact aj (ze _)|assumption) ao (by(try simp only[ax]);omega) ?_;intro e a;have a:=aj a;clear p s t u v w x y z;obtain⟨p,s,t,u,v,w,x,y,z⟩:=a.cells;have av:=a.kid0 d.ks G;have a0:=a.kid d.ks o (by decide))))
  go_wp2_with fail
  go_region_held3 (fun al=>Cel al I.heap.size N (.slice f M g) (.slice (some b) 2 ck)/\al.cell? ⟨b.block,b.off+1,none⟩=some (.int .i64 (r:Int))) (first|exact H K|exact H J|exact H (a.below (aq (ag _ _)))|go_keep) (first|(go_at_call 190;refine dG (A _ _ _) fun e C=>?_;have J:=(a.below (aq (ag _ _))).below C)|(go_at_call 95;refine Bx.stp (aj J) (ag _ _) a1 ao (by(try simp only[ax]);omega) ?_;intro e K))
  go_wp2_with fail
  go_end0
  exact Bx.fin (aj K) (by simp only[be])
theorem abA{c:World}{l:Addr}{n t:Nat}{tab i:Nat}(ao:n<=1048576)(K:i<n){N:Nd}(j:N.k=31->1<=N.op/\N.op<=18){e d:Option Addr}{M f L ck:Nat}(R:NdR c l i N e M f d L ck)(g:N.k=31){u:Int}(am:¬gB N.k N.op<u)(ap:(wh (60+N.op)).size<=4){s:ByteArray}(q:Hid (Wr c (.slice (some l) n t) tab 154 #[pW c,gF N (.slice e M f) (.slice d L ck),.string (⟨#[32]⟩++wh (60+N.op)++⟨#[32]⟩),.int .i64 (gB N.k N.op)] s)):
  Wr c (.slice (some l) n t) tab 95 #[pW c,.int .i64 (i:Int),.int .i64 u] s:=by
 intro G w b al
 have z:=b.lt
 obtain⟨z0,E,F⟩:=b.cells
 obtain⟨ar,av,a0,a1,a2,a3,a4,a5,a6,_,_⟩:=R.rd w b.bel
 have a:=aj (Bx.new b N (.slice e M f) (.slice d L ck))
 have ad:(i:Int)<(n:Int):=by omega
 have af:(0:Int)<=(i:Int):=by omega
 have ba:=Lj g
 have J:=Hz g
 have p:=aj fun C B=>vD N C B j
 have x:=aj (ya (60+N.op))
 obtain⟨a7,a8⟩:=j g
 have A:IntKind.i64.wrap (60+N.op)=60+N.op:=by rw[bm];omega
 generalize wh (60+N.op)=v at *
 have H:¬9223372036854775807<1+v.size:=by omega
 have I:¬9223372036854775807<1+v.size+1:=by omega
 unfold gF at p q
 generalize gB N.k N.op=a9 at *
 clear b R g j F E
 go_in
 go_wp2_with (go_at_call 153;refine dG (p _ _ _) fun r h=>?_;have a:=aj (a.below h);obtain⟨bb,bc,bd,bf,bk,bl,bn,bo,br⟩:=a.cells)
 go_region_held3 (fun y=>Cel y w.heap.size N (.slice e M f) (.slice d L ck)) (first|exact o.cells|exact m.cells|exact(a.below (aq (ag _ _))).cells|go_keep) (first|(go_at_call 155;(try rw[A]);refine dG (x _) fun r h=>?_;have m:=(a.below (aq (ag _ _))).below h)|(go_at_call 154;refine Bx.stp (aj m) (ag _ _) q z (by omega) ?_;intro r o))
 go_wp2_with fail
 go_end0
 exact Bx.fin (aj o) rfl
inductive D (tk:Nat->Tk) (n:Nat):Nat->List Int->Nat->Nat->Prop where
 |nil {i:Nat}:D tk n 0 [] i i
 |tok {m:Nat}{s:Int}{r:List Int}{i j:Nat}:s<100->(tk i).k=s->i<n->D tk n m r (i+1) j->D tk n (m+1) (s::r) i j
 |exp {m:Nat}{s:Int}{r:List Int}{i j:Nat}:100<=s->i<n->(xE s (tk i).k).2=true->D tk n m ((xE s (tk i).k).1++r) i j->D tk n (m+1) (s::r) i j
section
variable {tk : Nat → Tk} {n : Nat}
theorem D.split{m:Nat}{st:List Int}{i j:Nat}(u:D tk n m st i j):∀(a b:List Int),st=a++b->∃d e k,D tk n d a i k/\D tk n e b k j/\d+e=m:=by
 induction u with
 |nil=>
  intro a b c
  obtain⟨rfl,rfl⟩:a=[]/\b=[]:=by simpa using c.symm
  exact⟨0,0,_,.nil,.nil,rfl⟩
 |@tok m l s i j f g h q r=>
  intro a b c
  cases a with
  |nil=>
   rw[er]at c
   exact⟨0,m+1,i,.nil,by rw[<-c];exact .tok f g h q,by omega⟩
  |cons t a=>
   obtain⟨rfl,rfl⟩:l=t/\s=a++b:=by simpa using c
   obtain⟨d,e,k,o,p,v⟩:=r a b rfl
   exact⟨d+1,e,k,.tok f g h o,p,by omega⟩
 |@exp m l s i j f g h q r=>
  intro a b c
  cases a with
  |nil=>
   rw[er]at c
   exact⟨0,m+1,i,.nil,by rw[<-c];exact .exp f g h q,by omega⟩
  |cons t a=>
   obtain⟨rfl,rfl⟩:l=t/\s=a++b:=by simpa using c
   obtain⟨d,e,k,o,p,v⟩:=r ((xE l (tk i).k).1++a) b (by rw[cG])
   exact⟨d+1,e,k,.exp f g h o,p,by omega⟩
theorem D.cut{m:Nat}{s:Int}{r:List Int}{i j:Nat}(c:D tk n m (s::r) i j):∃a b k,D tk n a [s] i k/\D tk n b r k j/\a+b=m:=c.split [s] r rfl
theorem D.nils{m:Nat}{i j:Nat}(a:D tk n m [] i j):i=j:=by cases a;rfl
theorem D.toks{m:Nat}{s:Int}{r:List Int}{i j:Nat}(e:D tk n m (s::r) i j)(g:s<100:=by omega):(tk i).k=s/\i<n/\∃d,D tk n d r (i+1) j/\d<m:=by
 cases e with
 |tok f a b c=>exact⟨a,b,_,c,by omega⟩
 |exp f a b c=>omega
theorem D.exps{m:Nat}{s:Int}{r:List Int}{i j:Nat}(e:D tk n m (s::r) i j)(g:100<=s):i<n/\(xE s (tk i).k).2=true/\∃d,D tk n d ((xE s (tk i).k).1++r) i j/\d<m:=by
 cases e with
 |tok f a b c=>omega
 |exp f a b c=>exact⟨a,b,_,c,by omega⟩
theorem D.row{m:Nat}{s:Int}{i j:Nat}(d:D tk n m [s] i j)(h:100<=s){x:List Int×Bool}(e:xE s (tk i).k=x):i<n/\x.2=true/\∃a,D tk n a x.1 i j/\a<m:=by
 obtain⟨f,c,a,b,g⟩:=d.exps h
 rw[e]at c b
 rw[dA]at b
 exact⟨f,c,a,b,g⟩
structure Ex (tk:Nat->Tk) (n m:Nat):Prop where
 unit:∀{i j:Nat},D tk n m [120] i j->j<n->∃N ks,P tk n .unit i (one N ks) j
 expr:∀{i j:Nat},D tk n m [119] i j->j<n->∃N ks,P tk n (.expr 0) i (one N ks) j
 exprs:∀{i j:Nat},D tk n m [124] i j->j<n->∃R,P tk n .exprs i R j
 moreE:∀{i j:Nat},D tk n m [125] i j->j<n->∃R,P tk n .moreE i R j
 block:∀{i j:Nat},D tk n m [132] i j->j<n->∃N ks,P tk n .block i (one N ks) j
 stats:∀{i j:Nat},D tk n m [100] i j->j<n->(tk j).k=43\/(tk j).k=6->∃R,P tk n .stats i R j
 body:∀{i j:Nat}(s:Tk),D tk n m [133] i j->j<n->∃N ks,P tk n (.body s) i (one N ks) j
 entries:∀{i j:Nat},D tk n m [129] i j->j<n->(tk j).k=43->∃R,P tk n .entries i R j
 entry:∀{i j:Nat},D tk n m [131] i j->j<n->∃N ks,P tk n .entry i (one N ks) j
 els:∀{i j k k1:Nat}{x b:Fo},(tk i).k=20\/(tk i).k=15->i<n->P tk n (.expr 0) (i+1) x k->P tk n .block k b k1->D tk n m [105] k1 j->j<n->∃N ks,P tk n .branch i (one N ks) j
theorem aew(k:Int):1<=J4 k:=by
 unfold J4
 repeat' split
 all_goals omega
theorem D.lt{m:Nat}{s:Int}{r:List Int}{i j:Nat}(a:D tk n m (s::r) i j):i<n:=by cases a<;>assumption
theorem oy{t:Int}(a:dw t=true):t≠6/\t≠41/\t≠43/\t≠5/\t≠44/\t≠48/\t≠46:=by
 refine⟨?_,?_,?_,?_,?_,?_,?_⟩
 all_goals
  rintro rfl
  revert a
  decide
theorem aix(E:∀i,(tk i).k<100):∀(m:Nat),(∀a,a<m->Ex tk n a)->∀{k j:Nat},D tk n m [121] k j->j<n->∀(p:Int)(s:Tk)(N:Nd)(ks:Fo),∃N' af d a,P tk n (.more p s (one N ks)) k (one N' af) d/\D tk n a [121] d j/\a<=m/\(iL (tk d).k=true->J4 (tk d).k<p):=by
 intro m
 induction m using Nat.strongRecOn with
 |_ m o=>
  intro f k j e l p s N ks
  by_cases c:iL (tk k).k=true/\p<=J4 (tk k).k
  ·obtain⟨G,_,a6,v,av⟩:=e.row (by omega) (x:=([(tk k).k,119],true)) (by simp[xE,adp,c.1])
   obtain⟨_,_,a7,w,a0⟩:=v.toks (E k)
   obtain⟨y,F,a8,z,a1⟩:=w.row (by omega) (x:=([120,121],dw (tk (k+1)).k)) (by simp[xE,ado])
   obtain⟨an,ao,a5,A,h,a2⟩:=z.cut
   obtain⟨u,am,K⟩:=(f an (by omega)).unit A h.lt
   obtain⟨q,ak,L,ap,H,B,a3,_⟩:=o ao (by omega) (fun a b=>f a (by omega)) h l (rpw (tk k).k) (tk (k+1)) u am
   obtain⟨r,al,ad,ar,I,C,a4,J⟩:=o ap (by omega) (fun a b=>f a (by omega)) B l p s (uB (tk k).k s (tk (L-1)).t) ((one N ks).app (one q ak))
   exact⟨r,al,ad,ar,.mgo G c.1 c.2 (.ex (oy F).1 y K H) I,C,by omega,J⟩
  ·exact⟨N,ks,k,m,.mstop e.lt (fun b=>by rcases Int.lt_or_le (J4 (tk k).k) p with g|g;exact g;exact absurd ⟨b,g⟩ c),e,ah _,fun b=>by rcases Int.lt_or_le (J4 (tk k).k) p with g|g;exact g;exact absurd ⟨b,g⟩ c⟩
theorem aex(p:∀i,(tk i).k<100){m:Nat}(e:∀a,a<m->Ex tk n a){i j:Nat}(r:D tk n m [119] i j)(u:j<n):∃N ks,P tk n (.expr 0) i (one N ks) j:=by
 obtain⟨t,q,F,g,C⟩:=r.row (by omega) (x:=([120,121],dw (tk i).k)) (by simp[xE,ado])
 obtain⟨A,B,k,h,d,E⟩:=g.cut
 obtain⟨N,ks,y⟩:=(e A (by omega)).unit h d.lt
 obtain⟨f,z,b,a,v,l,_,w⟩:=aix p B (fun a c=>e a (by omega)) d u 0 (tk i) N ks
 have s:iL (tk b).k=false:=by
  cases c:iL (tk b).k with
  |false=>rfl
  |true=>have:=w c;have:=aew (tk b).k;omega
 obtain⟨_,_,G,o,_⟩:=l.row (by omega) (x:=([],true)) (by simp[xE,adp,s])
 obtain rfl:=o.nils
 exact⟨f,z,.ex (oy q).1 t y v⟩
def fam(S:Int):Int:=if S<=112 then 1 else if S<=115 then 2 else if S<=118 then 3 else 4
theorem aey{S t:Int}(hS:S=110\/S=111\/S=112\/S=114\/S=115\/S=117\/S=118\/S=122)(d:Gh t=true):∃a c,xE S t=(na t a c,true)/\(a=110\/a=114\/a=117\/a=122)/\(c=111\/c=115\/c=118\/c=122)/\fam a=fam S/\fam c=fam S:=by
 have b:t=48\/t=44\/t=40:=bi d
 rcases hS with rfl|rfl|rfl|rfl|rfl|rfl|rfl|rfl
 ·exact⟨110,111,by rcases b with rfl|rfl|rfl<;>decide,by omega,by omega,rfl,rfl⟩
 ·exact⟨110,111,by rcases b with rfl|rfl|rfl<;>decide,by omega,by omega,rfl,rfl⟩
 ·exact⟨110,111,by rcases b with rfl|rfl|rfl<;>decide,by omega,by omega,rfl,rfl⟩
 ·exact⟨114,115,by rcases b with rfl|rfl|rfl<;>decide,by omega,by omega,rfl,rfl⟩
 ·exact⟨114,115,by rcases b with rfl|rfl|rfl<;>decide,by omega,by omega,rfl,rfl⟩
 ·exact⟨117,118,by rcases b with rfl|rfl|rfl<;>decide,by omega,by omega,rfl,rfl⟩
 ·exact⟨117,118,by rcases b with rfl|rfl|rfl<;>decide,by omega,by omega,rfl,rfl⟩
 ·exact⟨122,122,by rcases b with rfl|rfl|rfl<;>decide,by omega,by omega,rfl,rfl⟩
theorem aiy:∀(m:Nat),(∀a,a<m->Ex tk n a)->∀{S:Int},(S=110\/S=111\/S=112\/S=114\/S=115\/S=117\/S=118\/S=122)->∀{k j:Nat},D tk n m [S] k j->j<n->∀(s:Tk)(N:Nd)(ks:Fo),∃N' a8 ad a b,P tk n (.post s (one N ks)) k (one N' a8) ad/\D tk n a [b] ad j/\a<=m/\Gh (tk ad).k=false/\(b=110\/b=111\/b=112\/b=114\/b=115\/b=117\/b=118\/b=122)/\fam b=fam S:=by
 intro m
 induction m using Nat.strongRecOn with
 |_ m F=>
  intro r S hS k j K E s N ks
  cases hf:Gh (tk k).k with
  |false=>exact⟨N,ks,k,m,S,.pstop K.lt hf,K,ah _,hf,hS,rfl⟩
  |true=>
   obtain⟨v,z,a7,bb,bc,al,am⟩:=aey hS hf
   obtain⟨a2,_,bl,p,bd⟩:=K.row (by omega) a7
   have a6:=bi hf
   rcases a6 with e|e|e
   ·rw[show(na (tk k).k v z,true).1=[48,1,v] by rw[e];rfl]at p
    obtain⟨_,_,ar,w,an⟩:=p.toks
    obtain⟨a1,a3,G,q,ao⟩:=w.toks
    obtain⟨c,o,l,ak,d,p2,f,bf,g,h,i⟩:=F G (by omega) (fun a I=>r a (by omega)) (by omega) q E s (nd 33 s (tk (k+1)).t 0 0 (tk (k+1)).x []) (one N ks)
    exact⟨c,o,l,ak,d,.pdot e a1 a3 p2,f,by omega,g,h,by rw[i,al]⟩
   ·rw[show(na (tk k).k v z,true).1=[44,119,45,v] by rw[e];rfl]at p
    obtain⟨_,_,ar,w,an⟩:=p.toks
    obtain⟨G,ak,af,q,B,ao⟩:=w.cut
    obtain⟨av,a9,L⟩:=(r G (by omega)).expr q B.lt
    obtain⟨A,y,H,C,a5⟩:=B.toks
    obtain⟨c,o,l,u,d,p2,f,ap,g,h,i⟩:=F H (by omega) (fun a I=>r a (by omega)) (by omega) C E s (kD 32 s (tk af).t) ((one N ks).app (one av a9))
    exact⟨c,o,l,u,d,.psq e a2 L A y p2,f,by omega,g,h,by rw[i,al]⟩
   ·rw[show(na (tk k).k v z,true).1=[40,123,41,z] by rw[e];rfl]at p
    obtain⟨_,_,ar,w,an⟩:=p.toks
    obtain⟨G,ak,af,q,B,ao⟩:=w.cut
    obtain⟨A,y,H,C,a5⟩:=B.toks
    cases hb:dw (tk (k+1)).k with
    |false=>
     obtain⟨_,_,u,J,_⟩:=q.row (by omega) (x:=([],true)) (by simp[xE,adr,hb])
     obtain rfl:=J.nils
     obtain⟨c,o,l,u,d,p2,f,ap,g,h,i⟩:=F H (by omega) (fun a I=>r a (by omega)) (by omega) C E s (kD 34 s (tk (k+1)).t) (one N ks)
     exact⟨c,o,l,u,d,.pcall0 e A y p2,f,by omega,g,h,by rw[i,am]⟩
    |true=>
     obtain⟨a4,_,u,J,ap⟩:=q.row (by omega) (x:=([124],true)) (by simp[xE,adr,hb])
     obtain⟨a0,L⟩:=(r u (by omega)).exprs J y
     obtain⟨c,o,l,ba,d,p2,f,bk,g,h,i⟩:=F H (by omega) (fun a I=>r a (by omega)) (by omega) C E s (kD 34 s (tk af).t) ((one N ks).app a0)
     exact⟨c,o,l,ba,d,.pcall e a4 (oy hb).2.1 L A y p2,f,by omega,g,h,by rw[i,am]⟩
theorem IH{t a c:Int}(b:Gh t=false):na t a c=[]:=by
 have b:=iA b
 unfold na
 rw[aa (by omega),aa (by omega),aa (by omega)]
theorem D.join{m c:Nat}{a b:List Int}{i k j:Nat}(p:D tk n m a i k)(h:D tk n c b k j):D tk n (m+c) (a++b) i j:=by
 induction p with
 |nil=>rw[qG];exact h
 |@tok d q r i j e f g o l=>rw[show d+1+c=(d+c)+1 by omega];exact .tok e f g (l h)
 |@exp d q r i j e f g o l=>rw[show d+1+c=(d+c)+1 by omega];exact .exp (r:=r++b) e f g (by rw[<-cG];exact l h)
theorem abB(N:Nd)(ks:Fo)(s:Tk)(e:Int):∃N' a,od N ks s e=one N' a:=by unfold od;split<;>exact⟨_,_,rfl⟩
theorem EL{m:Nat}(p:∀b,b<m->Ex tk n b){S:Int}(hS:S=110\/S=111\/S=112\/S=114\/S=115\/S=117\/S=118\/S=122){i j:Nat}(w:j<n)(hd:D tk n m [1,S] i j\/D tk n m [40,119,41,S] i j):∃N' af r b a,P tk n .base i (one N' af) r/\D tk n b [a] r j/\b<m/\Gh (tk r).k=false/\(a=110\/a=111\/a=112\/a=114\/a=115\/a=117\/a=118\/a=122)/\fam a=fam S:=by
 rcases hd with hd|hd
 ·obtain⟨f,q,z,o,I⟩:=hd.toks
  obtain⟨c,u,s,v,d,p2,e,J,g,h,l⟩:=aiy z (fun b E=>p b (by omega)) hS o w (tk i) (nd 26 (tk i) (tk i).t 0 0 (tk i).x []) .nil
  exact⟨c,u,s,v,d,.bname f q p2,e,by omega,g,h,l⟩
 ·obtain⟨f,q,z,o,I⟩:=hd.toks
  obtain⟨v,ap,L,F,G,J⟩:=o.cut
  obtain⟨B,y,al,H,an⟩:=G.toks
  obtain⟨Nx,ak,K⟩:=(p v (by omega)).expr F y
  obtain⟨A,ad,C⟩:=abB Nx ak (tk i) (tk L).t
  obtain⟨c,u,s,am,d,p2,e,ao,g,h,l⟩:=aiy al (fun b E=>p b (by omega)) hS H w (tk i) A ad
  rw[<-C]at p2
  exact⟨c,u,s,am,d,.bopen f q K B y p2,e,by omega,g,h,l⟩
theorem D.names:∀(m:Nat){k j:Nat},D tk n m [104] k j->j<n->∃e,Fx tk n k e j/\(tk j).k≠46:=by
 intro m
 induction m using Nat.strongRecOn with
 |_ m r=>
  intro k j c d
  by_cases a:(tk k).k=46
  ·obtain⟨l,_,s,b,p⟩:=c.row (by omega) (x:=([46,1,104],true)) (by simp[xE,adj,a])
   obtain⟨_,_,w,g,u⟩:=b.toks
   obtain⟨f,o,t,h,v⟩:=g.toks
   obtain⟨e,q,i⟩:=r t (by omega) h d
   exact⟨_,.go a o f q,i⟩
  ·obtain⟨l,_,s,b,p⟩:=c.row (by omega) (x:=([],true)) (by simp[xE,adj,a])
   obtain rfl:=b.nils
   exact⟨[],.stop a d,a⟩
theorem params:∀(m:Nat){S:Int},S=126\/S=128->∀{k j:Nat},D tk n m [S,41] k j->j<n->∃t r,Lp tk n k t r j:=by
 intro m
 induction m using Nat.strongRecOn with
 |_ m C=>
  intro S hS k j w f
  obtain⟨ad,F,E,c,l,K⟩:=w.cut
  obtain⟨g,J,af,v,_⟩:=l.toks
  obtain rfl:=v.nils
  by_cases b:(tk k).k=1
  ·obtain⟨p,_,s,a,q⟩:=c.row (by omega) (x:=([1,127],true)) (by rcases hS with rfl|rfl<;>simp[xE,LL,L8,b])
   obtain⟨_,_,G,d,z⟩:=a.toks
   by_cases i:(tk (k+1)).k=46
   ·obtain⟨y,_,H,h,A⟩:=d.row (by omega) (x:=([46,128],true)) (by simp[xE,adt,i])
    obtain⟨_,_,I,o,L⟩:=h.toks
    obtain⟨t,r,B⟩:=C (I+F) (by omega) (.inr rfl) (k:=k+2) (j:=E+1) (D.join o l) f
    exact⟨_,_,.go b i o.lt B⟩
   ·obtain⟨y,_,H,h,A⟩:=d.row (by omega) (x:=([],true)) (by simp[xE,adt,i])
    obtain rfl:=h.nils
    exact⟨_,_,.last b g f⟩
  ·by_cases e:(tk k).k=49
   ·obtain⟨p,_,s,a,q⟩:=c.row (by omega) (x:=([49],true)) (by rcases hS with rfl|rfl<;>simp[xE,LL,L8,e])
    obtain⟨_,_,G,d,z⟩:=a.toks
    obtain rfl:=d.nils
    exact⟨_,_,.rest e g f⟩
   ·rcases hS with rfl|rfl
    ·obtain⟨p,_,s,a,q⟩:=c.row (by omega) (x:=([],true)) (by simp[xE,LL,b,e])
     obtain rfl:=a.nils
     exact⟨_,_,.close g f⟩
    ·obtain⟨_,u,_⟩:=c.row (by omega) (x:=([],false)) (by simp[xE,L8,b,e])
     cases u
theorem abC{m:Nat}(e:∀h,h<m->Ex tk n h){i j:Nat}(d:D tk n m [125] i j)(g:j<n):∃R,P tk n .moreE i R j:=by
 by_cases a:(tk i).k=46
 ·obtain⟨f,_,r,b,p⟩:=d.row (by omega) (x:=([46,119,125],true)) (by simp[xE,ads,a])
  obtain⟨_,_,A,k,v⟩:=b.toks
  obtain⟨s,t,y,l,c,w⟩:=k.cut
  obtain⟨u,z,q⟩:=(e s (by omega)).expr l c.lt
  obtain⟨R,o⟩:=(e t (by omega)).moreE c g
  exact⟨_,.ego a f q o⟩
 ·obtain⟨f,_,r,b,p⟩:=d.row (by omega) (x:=([],true)) (by simp[xE,ads,a])
  obtain rfl:=b.nils
  exact⟨_,.estop a g⟩
theorem abD{m:Nat}(b:∀c,c<m->Ex tk n c){i j:Nat}(g:D tk n m [124] i j)(h:j<n):∃R,P tk n .exprs i R j:=by
 obtain⟨q,_,v,d,r⟩:=g.row (by omega) (x:=([119,125],dw (tk i).k)) (by simp[xE,agc])
 obtain⟨l,o,t,e,a,s⟩:=d.cut
 obtain⟨p,u,k⟩:=(b l (by omega)).expr e a.lt
 obtain⟨R,f⟩:=(b o (by omega)).moreE a h
 exact⟨_,.es k f⟩
theorem E2{m:Nat}(o:∀b,b<m->Ex tk n b){i j:Nat}(l:D tk n m [132] i j)(q:j<n):∃N ks,P tk n .block i (one N ks) j:=by
 obtain⟨p,k,z,c,u⟩:=l.row (by omega) (x:=([42,100,43],decide ((tk i).k=42))) (by simp[xE,aaa])
 obtain⟨_,_,A,d,v⟩:=c.toks
 obtain⟨s,B,y,e,f,w⟩:=d.cut
 obtain⟨a,r,C,g,_⟩:=f.toks
 obtain rfl:=g.nils
 obtain⟨t,h⟩:=(o s (by omega)).stats e r (.inl a)
 exact⟨_,_,.block (bi k) p h a q⟩
theorem aez{m:Nat}(k:∀b,b<m->Ex tk n b){i j:Nat}(s:Tk)(h:D tk n m [133] i j)(o:j<n):∃N ks,P tk n (.body s) i (one N ks) j:=by
 obtain⟨l,g,y,c,t⟩:=h.row (by omega) (x:=([40,126,41,132],decide ((tk i).k=40))) (by simp[xE,adw])
 obtain⟨_,_,z,d,u⟩:=c.toks
 obtain⟨q,r,w,e,a,v⟩:=d.split [126,41] [132] rfl
 obtain⟨N,ks,f⟩:=(k r (by omega)).block a o
 obtain⟨A,B,p⟩:=params q (.inl rfl) e a.lt
 exact⟨_,_,.body (bi g) l p f⟩
theorem aeA(q:∀i,(tk i).k<100){m:Nat}(l:∀f,f<m->Ex tk n f){i j:Nat}(J:D tk n m [120] i j)(b:j<n):∃N ks,P tk n .unit i (one N ks) j:=by
 obtain⟨o,c,E,a,af⟩:=J.row (by omega) (x:=DH (tk i).k) (by simp[xE,aid])
 unfold DH at c a
 split at a
 ·rename_i h
  obtain⟨_,_,e,d,p⟩:=a.toks (q i)
  obtain⟨N,ks,v⟩:=(l e (by omega)).unit d b
  exact⟨_,_,.upre h o v⟩
 rename_i C
 rw[aa C]at c
 split at a
 ·rename_i h
  obtain⟨N,ks,k,e,S,p2,r,p,s,t,u⟩:=EL (m:=E) (S:=122) (fun f h=>l f (by omega)) (by omega) b (.inl (by rw[h]at a;exact a))
  obtain rfl:S=122:=by rcases t with rfl|rfl|rfl|rfl|rfl|rfl|rfl|rfl<;>first|rfl|(revert u;decide)
  obtain⟨_,_,F,g,_⟩:=r.row (by omega) (x:=([],true)) (by simp[xE,adq,IH s])
  obtain rfl:=g.nils
  exact⟨N,ks,.ubas (.inl h) o p2⟩
 rename_i y
 rw[aa y]at c
 split at a
 ·rename_i h
  obtain⟨N,ks,k,e,S,p2,r,p,s,t,u⟩:=EL (m:=E) (S:=122) (fun f h=>l f (by omega)) (by omega) b (.inr (by rw[h]at a;exact a))
  obtain rfl:S=122:=by rcases t with rfl|rfl|rfl|rfl|rfl|rfl|rfl|rfl<;>first|rfl|(revert u;decide)
  obtain⟨_,_,F,g,_⟩:=r.row (by omega) (x:=([],true)) (by simp[xE,adq,IH s])
  obtain rfl:=g.nils
  exact⟨N,ks,.ubas (.inr h) o p2⟩
 rename_i z
 rw[aa z]at c
 split at a
 ·rename_i h
  obtain⟨_,_,e,d,p⟩:=a.toks (q i)
  obtain⟨L,al,k,G,H,ak⟩:=d.cut
  obtain⟨w,K,F,g,_⟩:=H.toks
  obtain rfl:=g.nils
  obtain⟨ad,I⟩:=(l L (by omega)).entries G K w
  exact⟨_,_,.utab h o I w b⟩
 rename_i A
 rw[aa A]at c
 split at a
 ·rename_i h
  obtain⟨_,_,e,d,p⟩:=a.toks (q i)
  obtain⟨N,ks,v⟩:=(l e (by omega)).body (tk i) d b
  exact⟨N,ks,.ufn h o v⟩
 rename_i B
 rw[aa B]at c
 obtain⟨_,_,e,d,p⟩:=a.toks (q i)
 obtain rfl:=d.nils
 simp only[dw,C,Bz,decide_eq_true_eq]at c
 rcases c with h|h|h|h|h|h|h|h|h|h|h
 ·exact absurd h y
 ·exact⟨_,_,.uint h b⟩
 ·exact⟨_,_,.uflt h b⟩
 ·exact⟨_,_,.ustr h b⟩
 ·exact⟨_,_,.unil h b⟩
 ·exact⟨_,_,.utru h b⟩
 ·exact⟨_,_,.ufls h b⟩
 ·exact⟨_,_,.urst h b⟩
 ·exact absurd h B
 ·exact absurd h z
 ·exact absurd h A
theorem abE{m:Nat}(f:∀r,r<m->Ex tk n r){i j:Nat}(l:D tk n m [131] i j)(o:j<n):∃N ks,P tk n .entry i (one N ks) j:=by
 by_cases d:(tk i).k=48
 ·obtain⟨g,_,p,a,q⟩:=l.row (by omega) (x:=([48,1,47,119],true)) (by simp[xE,L9,d])
  obtain⟨_,_,I,h,F⟩:=a.toks
  obtain⟨u,_,s,k,G⟩:=h.toks
  obtain⟨v,C,t,c,L⟩:=k.toks
  obtain⟨N,ks,b⟩:=(f t (by omega)).expr c o
  exact⟨_,_,.named d u v C b⟩
 by_cases e:(tk i).k=44
 ·obtain⟨g,_,p,a,q⟩:=l.row (by omega) (x:=([44,119,45,47,119],true)) (by simp[xE,L9,e])
  obtain⟨_,_,I,h,F⟩:=a.toks
  obtain⟨s,t,ak,k,c,G⟩:=h.cut
  obtain⟨N,ks,b⟩:=(f s (by omega)).expr k c.lt
  obtain⟨w,_,am,z,ad⟩:=c.toks
  obtain⟨y,E,J,A,af⟩:=z.toks
  obtain⟨K,al,H⟩:=(f J (by omega)).expr A o
  exact⟨_,_,.pair e g b w y E H⟩
 ·obtain⟨g,B,p,a,q⟩:=l.row (by omega) (x:=([119],dw (tk i).k)) (by simp[xE,L9,d,e])
  obtain⟨N,ks,b⟩:=(f p (by omega)).expr a o
  exact⟨_,_,.item d e (oy B).1 g b⟩
theorem GJ{m:Nat}(q:∀s,s<m->Ex tk n s){i j:Nat}(p:D tk n m [129] i j)(h:j<n)(f:(tk j).k=43):∃R,P tk n .entries i R j:=by
 by_cases hb:dw (tk i).k=true\/(tk i).k=48\/(tk i).k=44
 ·obtain⟨g,_,z,b,w⟩:=p.row (by omega) (x:=([131,130],true)) (by rcases hb with hb|hb|hb<;>simp[xE,adu,hb])
  have o:(tk i).k≠43:=by rcases hb with hb|hb|hb;exact(oy hb).2.2.1;omega;omega
  obtain⟨A,I,k,t,d,F⟩:=b.cut
  obtain⟨E,H,r⟩:=(q A (by omega)).entry t d.lt
  by_cases c:(tk k).k=46
  ·obtain⟨l,_,B,e,y⟩:=d.row (by omega) (x:=([46,129],true)) (by simp[xE,adv,c])
   obtain⟨_,_,C,u,G⟩:=e.toks
   obtain⟨R,v⟩:=(q C (by omega)).entries u h f
   exact⟨_,.ncom o g r c l v⟩
  ·obtain⟨l,_,B,e,y⟩:=d.row (by omega) (x:=([],true)) (by simp[xE,adv,c])
   obtain rfl:=e.nils
   exact⟨_,.nlast o g r c l (.nstop f h)⟩
 ·have b:dw (tk i).k=false:=by cases a:dw (tk i).k with|false=>rfl|true=>exact absurd (.inl a) hb
  obtain⟨g,_,z,b,w⟩:=p.row (by omega) (x:=([],true)) (by simp only[xE,adu,b];rw[aa (by simp),aa (fun a=>hb (.inr (.inl a))),aa (fun a=>hb (.inr (.inr a)))];rfl)
  obtain rfl:=b.nils
  exact⟨_,.nstop f h⟩
theorem ag7{m:Nat}(f:∀y,y<m->Ex tk n y){i j k g:Nat}{x b:Fo}(l:(tk i).k=20\/(tk i).k=15)(r:i<n)(s:P tk n (.expr 0) (i+1) x k)(o:P tk n .block k b g)(q:D tk n m [105] g j)(v:j<n):∃N ks,P tk n .branch i (one N ks) j:=by
 by_cases d:(tk g).k=15
 ·obtain⟨a,_,z,c,w⟩:=q.row (by omega) (x:=([15,119,132,105],true)) (by simp[xE,LG,d])
  obtain⟨_,_,A,h,F⟩:=c.toks
  obtain⟨J,ao,al,C,t,af⟩:=h.cut
  obtain⟨N,ks,G⟩:=(f J (by omega)).expr C t.lt
  obtain⟨K,L,am,E,u,ak⟩:=t.cut
  obtain⟨B,I,p⟩:=(f K (by omega)).block E u.lt
  obtain⟨ad,an,H⟩:=(f L (by omega)).els (.inr d) a G p u v
  exact⟨_,_,.belif l r s o d a H⟩
 by_cases e:(tk g).k=16
 ·obtain⟨a,_,z,c,w⟩:=q.row (by omega) (x:=([16,132],true)) (by simp[xE,LG,e])
  obtain⟨_,_,A,h,F⟩:=c.toks
  obtain⟨B,I,p⟩:=(f A (by omega)).block h v
  exact⟨_,_,.belse l r s o e a p⟩
 ·obtain⟨a,_,z,c,w⟩:=q.row (by omega) (x:=([],true)) (by simp[xE,LG,d,e])
  obtain rfl:=c.nils
  exact⟨_,_,.bno l r s o d e a⟩
theorem aeB:∀(m:Nat),(∀a,a<m->Ex tk n a)->∀{i j:Nat},D tk n m [113] i j->j<n->∃N ks R k o a,P tk n .base i (one N ks) k/\P tk n .moreB k R o/\(tk o).k=47/\o<n/\D tk n a [124] (o+1) j/\a<m:=by
 intro m
 induction m using Nat.strongRecOn with
 |_ m ak=>
  intro w i j d y
  have K:∃b,b<m/\∃S:Int,(S=114\/S=115)/\(D tk n b [1,S] i j\/D tk n b [40,119,41,S] i j):=by
   by_cases u:(tk i).k=1
   ·obtain⟨L,_,b,e,l⟩:=d.row (by omega) (x:=([1,114],true)) (by simp[xE,LI,u])
    exact⟨b,l,114,by omega,.inl e⟩
   ·by_cases v:(tk i).k=40
    ·obtain⟨L,_,b,e,l⟩:=d.row (by omega) (x:=([40,119,41,115],true)) (by simp[xE,LI,v])
     exact⟨b,l,115,by omega,.inr e⟩
    ·obtain⟨_,c,_⟩:=d.row (by omega) (x:=([],false)) (by simp[xE,LI,u,v])
     cases c
  obtain⟨b,l,s,J,e⟩:=K
  obtain⟨N,ks,k,a2,S,p2,f,av,G,H,t⟩:=EL (m:=b) (S:=s) (fun a c=>w a (by omega)) (by omega) y e
  have I:fam s=2:=by rcases J with rfl|rfl<;>rfl
  rw[I]at t
  have z:(tk k).k≠48/\(tk k).k≠44/\(tk k).k≠40:=by have:=iA G;omega
  have hS:S=114\/S=115:=by rcases H with rfl|rfl|rfl|rfl|rfl|rfl|rfl|rfl<;>first|omega|(revert t;decide)
  rcases hS with rfl|rfl
  ·by_cases g:(tk k).k=46
   ·obtain⟨h,_,am,p,ad⟩:=f.row (by omega) (x:=([46,113],true)) (by simp[xE,LJ,g])
    obtain⟨_,_,r,q,af⟩:=p.toks
    obtain⟨ao,a1,ap,a0,al,an,A,B,C,E,F,ar⟩:=ak r (by omega) (fun a c=>w a (by omega)) q y
    exact⟨N,ks,_,k,al,an,p2,.bgo g h A B,C,E,F,by omega⟩
   ·by_cases d:(tk k).k=47
    ·obtain⟨h,_,am,p,ad⟩:=f.row (by omega) (x:=([47,124],true)) (by simp[xE,LJ,d])
     obtain⟨_,_,r,q,af⟩:=p.toks
     exact⟨N,ks,.nil,k,k,r,p2,.bstop g h,d,h,q,by omega⟩
    ·obtain⟨_,c,_⟩:=f.row (by omega) (x:=([],false)) (by simp[xE,LJ,z,g,d])
     cases c
  ·obtain⟨_,c,_⟩:=f.row (by omega) (x:=([],false)) (by simp[xE,af9,z])
   cases c
theorem D.blk{m:Nat}{r:List Int}{i j:Nat}(a:D tk n m (132::r) i j):(tk i).k=42/\i<n:=by
 obtain⟨g,h,k,b,e,f⟩:=a.cut
 obtain⟨d,c,_⟩:=b.row (by omega) (x:=([42,100,43],decide ((tk i).k=42))) (by simp[xE,aaa])
 exact⟨bi c,d⟩
theorem ag8{m:Nat}(a:∀K,K<m->Ex tk n K){i j:Nat}(p:(tk i).k=19)(an:D tk n m [19,1,106] i j)(E:j<n):∃N ks,P tk n .stat i (one N ks) j:=by
 obtain⟨_,_,bv,al,bc⟩:=an.toks
 obtain⟨l,bb,bx,B,bk⟩:=al.toks
 by_cases e:(tk (i+2)).k=47
 ·obtain⟨t,_,a7,q,ap⟩:=B.row (by omega) (x:=([47,119,46,119,107,132],true)) (by simp[xE,adk,e])
  obtain⟨_,_,L,r,ar⟩:=q.toks
  obtain⟨ad,a8,k,b,c,bl⟩:=r.cut
  obtain⟨Nx,a3,h⟩:=(a ad (by omega)).expr b c.lt
  obtain⟨y,H,af,s,av⟩:=c.toks
  obtain⟨v,bA,J,d,C,bo⟩:=s.cut
  obtain⟨a9,bs,I⟩:=(a v (by omega)).expr d C.lt
  obtain⟨bw,a4,br,z,A,bd⟩:=C.cut
  obtain⟨w,G⟩:=A.blk
  obtain⟨Nb,a2,f⟩:=(a a4 (by omega)).block A E
  by_cases g:(tk J).k=46
  ·obtain⟨u,_,a5,o,ao⟩:=z.row (by omega) (x:=([46,119],true)) (by simp[xE,adl,g])
   obtain⟨_,_,a6,am,bf⟩:=o.toks
   obtain⟨ba,bt,a1⟩:=(a a6 (by omega)).expr am G
   exact⟨_,_,.tfor p (by omega) l (.stop (by omega) t) e (.es h (.ego y H I (.ego g u a1 (.estop (by omega) G)))) f⟩
  ·obtain⟨u,_,a5,o,ao⟩:=z.row (by omega) (x:=([],true)) (by simp[xE,adl,g])
   obtain rfl:=o.nils
   exact⟨_,_,.tfor p (by omega) l (.stop (by omega) t) e (.es h (.ego y H I (.estop g u))) f⟩
 ·obtain⟨t,_,a7,q,ap⟩:=B.row (by omega) (x:=([104,21,119,132],decide ((tk (i+2)).k=46\/(tk (i+2)).k=21))) (by simp[xE,adk,e])
  obtain⟨L,ad,k,r,b,ar⟩:=q.cut
  obtain⟨bD,a0,_⟩:=D.names L r b.lt
  obtain⟨ak,_,a8,c,bn⟩:=b.toks
  obtain⟨af,v,J,s,d,av⟩:=c.cut
  obtain⟨w,F⟩:=d.blk
  obtain⟨Nx,a3,h⟩:=(a af (by omega)).expr s F
  obtain⟨Nb,a2,f⟩:=(a v (by omega)).block d E
  exact⟨_,_,.teach p (by omega) l a0 ak h w F f⟩
theorem II{m:Nat}(l:∀o,o<m->Ex tk n o){i j:Nat}{a:Int}(I:a=110\/a=112)(p:(tk i).k=1\/(tk i).k=40)(s:i<n)(d:D tk n m [1,a] i j\/D tk n m [40,119,41,a] i j)(e:j<n)(ak:(tk j).k=5\/(tk j).k=6\/(tk j).k=43):∃N ks,P tk n .stat i (one N ks) j:=by
 obtain⟨N,ks,k,ap,S,p2,b,al,G,H,v⟩:=EL (m:=m) (S:=a) l (by omega) e d
 rw[show fam a=1 by rcases I with rfl|rfl<;>rfl]at v
 have t:(tk k).k≠48/\(tk k).k≠44/\(tk k).k≠40:=by have:=iA G;omega
 have hS:S=110\/S=111\/S=112:=by rcases H with rfl|rfl|rfl|rfl|rfl|rfl|rfl|rfl<;>first|omega|(revert v;decide)
 rcases hS with rfl|rfl|rfl
 ·by_cases h:(tk k).k=46
  ·obtain⟨f,_,y,c,w⟩:=b.row (by omega) (x:=([46,113],true)) (by simp[xE,LH,h])
   obtain⟨_,_,u,q,J⟩:=c.toks
   obtain⟨L,ao,ad,am,an,K,A,B,C,E,F,af⟩:=aeB u (fun o g=>l o (by omega)) q e
   obtain⟨z,r⟩:=(l K (by omega)).exprs F e
   exact⟨_,_,.tset p s p2 (.bgo h f A B) C E r⟩
  ·by_cases d:(tk k).k=47
   ·obtain⟨f,_,y,c,w⟩:=b.row (by omega) (x:=([47,124],true)) (by simp[xE,LH,d])
    obtain⟨_,_,u,q,J⟩:=c.toks
    obtain⟨z,r⟩:=(l u (by omega)).exprs q e
    exact⟨_,_,.tset p s p2 (.bstop h f) d f r⟩
   ·obtain⟨_,g,_⟩:=b.row (by omega) (x:=([],false)) (by simp[xE,LH,t,h,d])
    cases g
 ·obtain⟨f,_,y,c,w⟩:=b.row (by omega) (x:=([],true)) (by simp[xE,af7,t])
  obtain rfl:=c.nils
  exact⟨_,_,.tdo p s p2 (by omega) (by omega) e⟩
 ·obtain⟨_,g,_⟩:=b.row (by omega) (x:=([],false)) (by simp[xE,af8,t])
  cases g
theorem IJ{m:Nat}(f:∀G,G<m->Ex tk n G){i j:Nat}(r:i<n)(E:(gA (tk i).k).2=true)(a:D tk n m (gA (tk i).k).1 i j)(g:j<n)(L:(tk j).k=5\/(tk j).k=6\/(tk j).k=43):(∃N ks,P tk n .stat i (one N ks) j)/\(tk i).k≠5/\(tk i).k≠6/\(tk i).k≠43:=by
 have ad:(tk i).k=22\/(tk i).k=13\/(tk i).k=18\/(tk i).k=20\/(tk i).k=31\/(tk i).k=19\/(tk i).k=11\/(tk i).k=23\/(tk i).k=27\/(tk i).k=30\/(tk i).k=28\/(tk i).k=14\/(tk i).k=42\/(tk i).k=1\/(tk i).k=40:=by
  refine Decidable.byContradiction fun a2=>?_
  simp only[not_or]at a2
  simp[gA,a2]at E
 refine⟨?_,by omega,by omega,by omega⟩
 rcases ad with e|e|e|e|e|e|e|e|e|e|e|e|e|e|e
 ·rw[show(gA (tk i).k).1=[22,1,104,103] by rw[e];rfl]at a
  obtain⟨_,_,o,b,p⟩:=a.toks
  obtain⟨z,bw,d,c,s⟩:=b.toks
  obtain⟨w,H,k,l,t,av⟩:=c.cut
  obtain⟨b0,B,_⟩:=D.names w l t.lt
  by_cases y:(tk k).k=47
  ·obtain⟨v,_,I,u,a1⟩:=t.row (by omega) (x:=([47,124],true)) (by simp[xE,adi,y])
   obtain⟨_,_,a4,C,bl⟩:=u.toks
   obtain⟨a5,K⟩:=(f a4 (by omega)).exprs C g
   exact⟨_,_,.tlet e (by omega) z B y K⟩
  ·obtain⟨v,_,I,u,a1⟩:=t.row (by omega) (x:=([],true)) (by simp[xE,adi,y])
   obtain rfl:=u.nils
   exact⟨_,_,.tlet0 e (by omega) z B y⟩
 ·rw[show(gA (tk i).k).1=[13,1,47,119] by rw[e];rfl]at a
  obtain⟨_,_,o,b,p⟩:=a.toks
  obtain⟨z,_,d,c,s⟩:=b.toks
  obtain⟨a7,af,w,l,av⟩:=c.toks
  obtain⟨N,ks,h⟩:=(f w (by omega)).expr l g
  exact⟨_,_,.tcon e z a7 af h⟩
 ·rw[show(gA (tk i).k).1=[18,1,133] by rw[e];rfl]at a
  obtain⟨_,_,o,b,p⟩:=a.toks
  obtain⟨z,_,d,c,s⟩:=b.toks
  obtain⟨af,bf,_⟩:=c.row (by omega) (x:=([40,126,41,132],decide ((tk (i+2)).k=40))) (by simp[xE,adw])
  obtain⟨N,ks,h⟩:=(f d (by omega)).body (tk (i+2)) c g
  exact⟨_,_,.tfn e z (bi bf) af h⟩
 ·rw[show(gA (tk i).k).1=[20,119,132,105] by rw[e];rfl]at a
  obtain⟨_,_,o,b,p⟩:=a.toks
  obtain⟨d,w,k,c,l,s⟩:=b.cut
  obtain⟨N,ks,h⟩:=(f d (by omega)).expr c l.lt
  obtain⟨H,I,br,t,u,a0⟩:=l.cut
  obtain⟨ak,a3,q⟩:=(f H (by omega)).block t u.lt
  obtain⟨bv,bD,bo⟩:=(f I (by omega)).els (.inl e) r h q u g
  exact⟨_,_,.tif e r bo⟩
 ·rw[show(gA (tk i).k).1=[31,119,132] by rw[e];rfl]at a
  obtain⟨_,_,o,b,p⟩:=a.toks
  obtain⟨d,w,k,c,l,s⟩:=b.cut
  obtain⟨N,ks,h⟩:=(f d (by omega)).expr c l.lt
  obtain⟨ak,a3,q⟩:=(f w (by omega)).block l g
  exact⟨_,_,.twhile e r h q⟩
 ·rw[show(gA (tk i).k).1=[19,1,106] by rw[e];rfl]at a
  exact ag8 f e a g
 ·rw[show(gA (tk i).k).1=[11] by rw[e];rfl]at a
  obtain⟨_,_,o,b,p⟩:=a.toks
  obtain rfl:=b.nils
  exact⟨_,_,.tbreak e g⟩
 ·rw[show(gA (tk i).k).1=[23] by rw[e];rfl]at a
  obtain⟨_,_,o,b,p⟩:=a.toks
  obtain rfl:=b.nils
  exact⟨_,_,.tnext e g⟩
 ·rw[show(gA (tk i).k).1=[27,108] by rw[e];rfl]at a
  obtain⟨_,_,o,b,p⟩:=a.toks
  cases q:dw (tk (i+1)).k with
  |true=>
   obtain⟨v,_,d,c,s⟩:=b.row (by omega) (x:=([124],true)) (by simp[xE,adm,q])
   obtain⟨a5,K⟩:=(f d (by omega)).exprs c g
   exact⟨_,_,.tret e v q K⟩
  |false=>
   obtain⟨v,_,d,c,s⟩:=b.row (by omega) (x:=([],true)) (by simp[xE,adm,q])
   obtain rfl:=c.nils
   exact⟨_,_,.tret0 e v L⟩
 ·rw[show(gA (tk i).k).1=[30,132,12,1,109,132] by rw[e];rfl]at a
  obtain⟨_,_,o,b,p⟩:=a.toks
  obtain⟨d,w,k,c,l,s⟩:=b.cut
  obtain⟨N,ks,h⟩:=(f d (by omega)).block c l.lt
  obtain⟨am,_,H,t,a0⟩:=l.toks
  obtain⟨an,ar,I,u,a1⟩:=t.toks
  obtain⟨a4,bs,br,C,ao,bl⟩:=u.cut
  obtain⟨a8,ap⟩:=ao.blk
  obtain⟨ak,a3,q⟩:=(f bs (by omega)).block ao g
  by_cases F:(tk (k+2)).k=46
  ·obtain⟨v,_,bt,J,bn⟩:=C.row (by omega) (x:=([46,1],true)) (by simp[xE,adn,F])
   obtain⟨_,_,bF,bd,bA⟩:=J.toks
   obtain⟨a6,bk,bE,bc,bx⟩:=bd.toks
   obtain rfl:=bc.nils
   exact⟨_,_,.ttry e r h am ar an (.go F bk a6 (.stop (fun A=>by have e:(tk (k+2+2)).k=42:=a8;omega) ap)) q⟩
  ·obtain⟨v,_,bt,J,bn⟩:=C.row (by omega) (x:=([],true)) (by simp[xE,adn,F])
   obtain rfl:=J.nils
   exact⟨_,_,.ttry e r h am ar an (.stop F ap) q⟩
 ·rw[show(gA (tk i).k).1=[28,119] by rw[e];rfl]at a
  obtain⟨_,_,o,b,p⟩:=a.toks
  obtain⟨N,ks,h⟩:=(f o (by omega)).expr b g
  exact⟨_,_,.tthrow e r h⟩
 ·rw[show(gA (tk i).k).1=[14,116] by rw[e];rfl]at a
  obtain⟨_,_,o,b,p⟩:=a.toks
  have ad:∃d,d<m/\(D tk n d [1,117] (i+1) j\/D tk n d [40,119,41,117] (i+1) j):=by
   by_cases y:(tk (i+1)).k=1
   ·obtain⟨_,_,d,c,s⟩:=b.row (by omega) (x:=([1,117],true)) (by simp[xE,LK,y])
    exact⟨d,by omega,.inl c⟩
   ·by_cases E:(tk (i+1)).k=40
    ·obtain⟨_,_,d,c,s⟩:=b.row (by omega) (x:=([40,119,41,117],true)) (by simp[xE,LK,E])
     exact⟨d,by omega,.inr c⟩
    ·obtain⟨_,A,_⟩:=b.row (by omega) (x:=([],false)) (by simp[xE,LK,y,E])
     cases A
  obtain⟨d,s,c⟩:=ad
  obtain⟨N,ks,k,w,S,p2,al,av,a9,ba,bb⟩:=EL (m:=d) (S:=117) (fun G A=>f G (by omega)) (by omega) g c
  have B:(tk k).k≠48/\(tk k).k≠44/\(tk k).k≠40:=by have:=iA a9;omega
  have hS:S=117\/S=118:=by rcases ba with rfl|rfl|rfl|rfl|rfl|rfl|rfl|rfl<;>first|omega|(revert bb;decide)
  rcases hS with rfl|rfl
  ·obtain⟨_,A,_⟩:=al.row (by omega) (x:=([],false)) (by simp[xE,aga,B])
   cases A
  ·obtain⟨v,_,H,t,a0⟩:=al.row (by omega) (x:=([],true)) (by simp[xE,agb,B])
   obtain rfl:=t.nils
   exact⟨_,_,.tdefer e r p2⟩
 ·rw[show(gA (tk i).k).1=[132] by rw[e];rfl]at a
  obtain⟨_,_,o,b,p⟩:=a.row (by omega) (x:=([42,100,43],decide ((tk i).k=42))) (by simp[xE,aaa])
  obtain⟨N,ks,h⟩:=E2 f a g
  exact⟨N,ks,.tblock e r h⟩
 ·rw[show(gA (tk i).k).1=[1,110] by rw[e];rfl]at a
  exact II f (.inl rfl) (.inl e) r (.inl a) g L
 ·rw[show(gA (tk i).k).1=[40,119,41,112] by rw[e];rfl]at a
  exact II f (.inr rfl) (.inr e) r (.inr a) g L
theorem abF{m:Nat}(g:∀b,b<m->Ex tk n b){i j:Nat}(r:D tk n m [100] i j)(l:j<n)(h:(tk j).k=43\/(tk j).k=6):∃R,P tk n .stats i R j:=by
 by_cases e:(tk i).k=5
 ·obtain⟨a,_,z,c,y⟩:=r.row (by omega) (x:=([5,100],true)) (by simp[xE,Jr,e])
  obtain⟨_,_,A,d,F⟩:=c.toks
  obtain⟨R,q⟩:=(g A (by omega)).stats d l h
  exact⟨R,.ssep e a q⟩
 cases hb:(gA (tk i).k).2 with
 |false=>
  obtain⟨a,_,z,c,y⟩:=r.row (by omega) (x:=([],true)) (by simp[xE,Jr,e,hb])
  obtain rfl:=c.nils
  exact⟨_,.sstop h l⟩
 |true=>
  obtain⟨a,_,z,c,y⟩:=r.row (by omega) (x:=((gA (tk i).k).1++[101],true)) (by simp[xE,Jr,e,hb])
  obtain⟨A,L,k,d,w,F⟩:=c.split _ _ rfl
  by_cases f:(tk k).k=5
  ·obtain⟨o,_,I,p,G⟩:=w.row (by omega) (x:=([5,100],true)) (by simp[xE,adh,f])
   obtain⟨_,_,J,E,K⟩:=p.toks
   obtain⟨R,q⟩:=(g J (by omega)).stats E l h
   obtain⟨⟨B,H,s⟩,t,u,v⟩:=IJ (fun b C=>g b (by omega)) a hb d o (.inl f)
   exact⟨_,.sgo t u v a s (.ssep f o q)⟩
  ·obtain⟨o,_,I,p,G⟩:=w.row (by omega) (x:=([],true)) (by simp[xE,adh,f])
   obtain rfl:=p.nils
   obtain⟨⟨B,H,s⟩,t,u,v⟩:=IJ (fun b C=>g b (by omega)) a hb d o (by omega)
   exact⟨_,.sgo t u v a s (.sstop h l)⟩
theorem aeC(b:∀i,(tk i).k<100)(m:Nat):Ex tk n m:=by
 induction m using Nat.strongRecOn with
 |_ m a=>exact⟨aeA b a,aex b a,abD a,abC a,E2 a,abF a,fun c=>aez a c,GJ a,abE a,ag7 a⟩
end
structure Im where
 N:Nd
 b:Nat
 vn:Value
 kv:Value
def nV(x:Im):Value:=gC x.N.k x.b
def lh(L:List Im)(ks:List Int):List Value:=ks.map fun b=>match L[b.toNat]? with|some a=>nV a|none=> .nilIface
structure jm (W:World) (base:Nat) (vs:Value) (L:List Im):Prop where
 row:W.ownsRow base 45 1 vs L.length (L.map nV)
 box:∀(i:Nat) x,L[i]?=some x->gl W x.b x.N x.vn i x.kv
 kid:∀(i:Nat) x,L[i]?=some x->W.ownsRow base 45 1 x.kv x.N.ks.length (lh (L.take i) x.N.ks)
 far:∀x∈L,x.kv.ownBlock=none\/x.kv.ownBlock≠vs.ownBlock
 rng:∀(i:Nat) x z,L[i]?=some x->z∈x.N.ks->0<=z/\z<(i:Int)
theorem gl.below{W a:World}{b:Nat}{N:Nd}{vn d:Value}{e:Int}(c:gl W b N vn e d)(f:Below W.heap.size W a):gl a b N vn e d:=(f.block _ (aw c)).trans c
theorem jm.below{W f:World}{base:Nat}{g:Value}{L:List Im}(a:jm W base g L)(b:Below W.heap.size W f):jm f base g L:=
 ⟨cF a.row b,fun d e c=>(a.box d e c).below b,fun d e c=>cF (a.kid d e c) b,a.far,a.rng⟩
theorem nJ{W:World}{a b:Nat}{f g:Array Value}{d e:TypeId}{h i:Nat×Nat}(j:W.heap[a]?=some (.cells f d h))(k:W.heap[b]?=some (.cells g e i))(ht:d≠e):a≠b:=by
 rintro rfl
 have c:=j.symm.trans k
 simp only[fe,ia]at c
 exact ht c.2.1
theorem mp(c:Nat):stT c≠45/\stT c≠98/\stT c≠50:=by
 unfold stT
 split<;>decide
theorem zj{W:World}{mb b:Nat}{cs:Array Value}{t:TypeId}{f:Nat×Nat}(c:W.ownsMap Tryz.prog 9 (plainElem (H:=Unit) Tryz.prog 3) mb 22 (FD 22))(d:W.heap[b]?=some (.cells cs t f)):mb≠b:=by
 rintro rfl
 obtain⟨g,e,a,h⟩:=c
 rw[d]at a
 cases a
def IK(W:World)(g:Nat):Prop:=∃a,W.heap[g]?=some (.cells a 45 (0,0))
theorem lG{W:World}{base n g:Nat}{v:Value}{xs:List Value}(b:W.ownsRow base 45 1 v n xs)(c:v.ownBlock=some g):IK W g/\base<=g:=by
 rcases bg b with⟨_,rfl⟩|⟨e,i,rfl⟩
 ·simp[Value.ownBlock]at c
 ·obtain rfl:e=g:=by simpa [Value.ownBlock] using c
  rcases b.2 with⟨a,_⟩|⟨k,j,d,a,f,h,_⟩
  ·cases a
  ·cases a;exact⟨⟨d,h⟩,f⟩
structure wC (w0:World) (lb mb p bn:Nat) (vs:Value) (L:List Im) (N:Nd) (vn vk kv:Value) (j:Nat) (W:World):Prop where
 lk:Lk W lb mb vs
 ns:jm W w0.heap.size vs L
 rb:nc p W 50 N vn vk
 bx:gl W bn N vn L.length kv
 kr:W.ownsRow w0.heap.size 45 1 kv j (lh L (N.ks.take j))
 fr:kv.ownBlock=none\/kv.ownBlock≠vs.ownBlock
 fo:∀x∈L,x.kv.ownBlock=none\/x.kv.ownBlock≠kv.ownBlock
 bl:Below w0.heap.size w0 W
 lo:w0.heap.size<=lb/\w0.heap.size<=bn/\w0.heap.size<=p
theorem wC.below{g:World}{lb mb p d:Nat}{f:Value}{L:List Im}{N:Nd}{vn vk e:Value}{j:Nat}{W c:World}(a:wC g lb mb p d f L N vn vk e j W)(b:Below W.heap.size W c):wC g lb mb p d f L N vn vk e j c:=
 ⟨a.lk.below b,a.ns.below b,a.rb.below b,a.bx.below b,cF a.kr b,a.fr,a.fo,a.bl.trans (b.mono a.bl.size),a.lo⟩
theorem wC.kid{f:World}{lb mb p d:Nat}{x:Value}{L:List Im}{N:Nd}{vn vk l:Value}{j:Nat}{W c:World}(av:mC f)(a:wC f lb mb p d x L N vn vk l j W)(v:W.grownBy c l.ownBlock){g cap H:Nat}(z:c.ownsRow f.heap.size 45 1 (.slice (some ⟨g,0,none⟩) (j+1) cap) (j+1) (lh L (N.ks.take (j+1))))(ar:l.ownBlock=some g\/g=H)(a2:W.heap.size=H):
  gl c d N vn L.length l/\wC f lb mb p d x L N vn vk (.slice (some ⟨g,0,none⟩) (j+1) cap) (j+1) (c.setCell ⟨d,5,none⟩ (.slice (some ⟨g,0,none⟩) (j+1) cap)):=by
 have F:∀b,l.ownBlock=some b->IK W b/\f.heap.size<=b:=fun b w=>lG a.kr w
 have B:∀{s:Nat}{t:Array Value}{o:TypeId},W.heap[s]?=some (.cells t o (0,0))->o≠45->c.heap[s]?=some (.cells t o (0,0)):=fun k G=>
  (v.block _ (aw k) (fun e=>by obtain⟨⟨y,u⟩,_⟩:=F _ e.symm;exact nJ k u G rfl)).trans k
 have q:gl c d N vn L.length l:=B a.bx (mp _).1
 have an:Below f.heap.size f c:=a.bl.grown v a.bl.size (fun b w=>(F b w).2)
 have ad:Below f.heap.size f (c.setCell ⟨d,5,none⟩ (.slice (some ⟨g,0,none⟩) (j+1) cap)):=an.setCell a.lo.2.1 _
 have set:∀{s:Nat}{t:Array Value}{o:TypeId},c.heap[s]?=some (.cells t o (0,0))->o≠stT (dL N.k)->(c.setCell ⟨d,5,none⟩ (.slice (some ⟨g,0,none⟩) (j+1) cap)).heap[s]?=some (.cells t o (0,0)):=fun k G=>
  (aK _ _ _ _ (fun e=>by exact nJ k q G e)).trans k
 have I:∀{ak:Value}{af:Nat}{am:List Value},c.ownsRow f.heap.size 45 1 ak af am->(c.setCell ⟨d,5,none⟩ (.slice (some ⟨g,0,none⟩) (j+1) cap)).ownsRow f.heap.size 45 1 ak af am:=fun z=>
  z.kept (row:=some d) ⟨rfl,rfl,rfl,by simp[World.setCell],fun b w r=>aK _ _ _ _ (fun e=>r (by rw[e]))⟩ (by
   cases hv:Value.ownBlock _ with
   |none=>exact .inl rfl
   |some b=>exact .inr (fun e=>by obtain⟨⟨y,u⟩,_⟩:=lG z hv;obtain rfl:=bh e;exact nJ q u (mp _).1 rfl))
 have al:x.ownBlock=none\/x.ownBlock≠l.ownBlock:=by
  rcases a.fr with e|e
  ·cases hv:x.ownBlock with
   |none=>exact .inl rfl
   |some b=>rw[e];exact .inr (by simp)
  ·exact .inr (eA e)
 have J:∀b,b<W.heap.size->l.ownBlock≠some b->some g≠some b:=fun b w r e=>by
  obtain rfl:=bh e
  rcases ar with e2|e2
  ·exact r e2
  ·omega
 refine⟨q,⟨⟨set (B a.lk.b (by decide)) (eA (mp _).2.1),?_,av.keep ad⟩,⟨I (a.ns.row.kept v al),?_,?_,a.ns.far,a.ns.rng⟩,set (B a.rb (by decide)) (eA (mp _).2.2),?_,I z,?_,?_,ad,a.lo⟩⟩
 ·have K:=pA a.lk.m (v.block _ a.lk.m.lt (fun e=>by obtain⟨⟨y,u⟩,_⟩:=F _ e.symm;exact zj a.lk.m u rfl))
  exact pA K (aK _ _ _ _ (fun e=>by exact zj K q e))
 ·intro n h i
  have k:=B (a.ns.box n h i) (mp _).1
  by_cases r:h.b=d
  ·exfalso
   have C:=a.ns.box n h i
   have e2:=a.bx
   unfold gl at C e2
   rw[r,e2]at C
   have ao:=congrArg (fun a1=>match a1 with|some (Obj.cells y _ _)=>y[4]?|_=>none) C
   simp at ao
   have a3:n<L.length:=(List.getElem?_eq_some_iff.1 i).1
   omega
  ·exact(aK _ _ _ _ r).trans k
 ·intro n h i
  exact I ((a.ns.kid n h i).kept v (a.fo h (bJ i)))
 ·unfold gl at q⊢
  have:=bI c d 5 _ _ (.slice (some ⟨g,0,none⟩) (j+1) cap) q
  rw[this]
  simp
 ·refine .inr fun e=>?_
  have A:=e.symm
  have E:=(a.ns.row.lt g A).2
  exact J g E (by rcases al with e2|e2;rw[e2]at A;cases A;rw[A]at e2;exact eA e2) rfl
 ·intro h i
  cases hxk:h.kv.ownBlock with
  |none=>exact .inl rfl
  |some b=>
   refine .inr fun e=>?_
   obtain⟨n,a0,ap⟩:=gh i
   have E:=((a.ns.kid n h (by rw[aF a0,ap])).lt b hxk).2
   refine J b E ?_ e.symm
   rcases a.fo h i with e2|e2
   ·rw[hxk]at e2;cases e2
   ·rw[hxk]at e2;exact eA e2
structure Ps (w0:World) (vb:Nat) (T:ByteArray) (W:World):Prop where
 pg:Pg w0 T W
 ne:vb≠w0.heap.size
 vi:W.heap[vb]?=some (.cells (Gk vb) 106 (0,0))
theorem Ps.below{e:World}{d:Nat}{T:ByteArray}{W b:World}(a:Ps e d T W)(c:Below W.heap.size W b):Ps e d T b:=
 ⟨a.pg.below c,a.ne,(c.block _ (aw a.vi)).trans a.vi⟩
theorem Ps.next{b:World}{d:Nat}{T e:ByteArray}{W c:World}(a:Ps b d T W)(p:Pg b e c)(k:Kq b.heap.size W c):Ps b d e c:=
 ⟨p,a.ne,(k.block d (aw a.vi) a.ne (fun g h f=>by rw[a.vi]at f;cases f)).trans a.vi⟩
def Pw(b:World)(d:Nat)(f:FuncId)(args:Array Value)(g:ByteArray):Prop:=
 ∀(c:ByteArray)(a:World),Ps b d c a->Calls Tryz.prog f args a fun h e=>h= .returned (.tuple #[])/\Ps b d (c++g) e/\Kq b.heap.size a e
abbrev vP(a:Nat):Value:= .pointer (some ⟨a,0,none⟩)
theorem iw(a:World)(i t:Nat)(s:ByteArray)(h:s.size<=100000000):Pw a i 306 #[kF a t,.string s] s:=fun d e b=>
 (aes a t d s e b.pg h).mono fun j k ⟨f,g,c⟩=>⟨f,b.next g c,c⟩
theorem C5(a:World)(h t:Nat)(ht:t<=1000000):Pw a h 305 #[kF a t] (fK t):=fun d e b=>
 (EE a t ht d e b.pg).mono fun i j ⟨f,g,c⟩=>⟨f,b.next g c,c⟩
def imD:Im:=⟨ndD,0,.nilIface,.nilIface⟩
def jo(L:List Im)(z:Int):Im:=L.getD z.toNat imD
def nK(W:World)(L:List Im)(v:Value)(c:List Int):Prop:=
 (c=[]/\∃a b,v= .slice a 0 b)\/∃a b,v= .slice (some a) c.length b/\c.length<=b/\∀d e,c[d]?=some e->W.cell? (a.add d)=some (nV (jo L e))
theorem nK.below{W b:World}{L:List Im}{v:Value}{c:List Int}(a:nK W L v c)(i:Below W.heap.size W b):nK b L v c:=by
 rcases a with a|⟨d,e,f,g,h⟩
 ·exact .inl a
 ·exact .inr ⟨d,e,f,g,fun k l j=>ai i (h k l j)⟩
theorem nK.form{W:World}{L:List Im}{v:Value}{b:List Int}(d:nK W L v b):∃a c,v= .slice a b.length c:=by
 rcases d with⟨rfl,a,c,rfl⟩|⟨a,c,rfl,_⟩
 ·exact⟨a,c,rfl⟩
 ·exact⟨some a,c,rfl⟩
theorem nK.get{W:World}{L:List Im}{a:Option Addr}{n c:Nat}{d:List Int}(g:nK W L (.slice a n c) d){j:Nat}{z:Int}(e:d[j]?=some z):∃b,a=some b/\d.length<=c/\W.cell? (b.add j)=some (nV (jo L z)):=by
 rcases g with⟨rfl,_⟩|⟨b,k,f,h,i⟩
 ·simp at e
 ·cases f
  exact⟨b,rfl,h,i j z e⟩
def oz(vn:Value):Prop:=∀a n b,vn= .slice (some a) n b->n<=b/\a=⟨a.block,a.off,none⟩
structure Tp (w0:World) (ns:List Nd) (L:List Im) (base:Nat) (vs:Value):Prop where
 at_:jm w0 base vs L
 map:L.map Im.N=ns
 nms:∀x∈L,bp w0 x.vn x.N.nm
 jn:∀x∈L,oz x.vn
theorem aiz{L:List Im}{a:List Nd}(b:L.map Im.N=a)(z:Int):(jo L z).N=ae a z:=by
 unfold jo ae
 rw[<-b,aL,aL,bq]
 cases L[z.toNat]?<;>rfl
structure NdQ (w0:World) (L:List Im) (N:Nd) (b:Nat) (vn:Value) (a:Option Addr) (n c:Nat):Prop where
 hn:N.ks.length=n
 rd:∀W,Below w0.heap.size w0 W->∃num,gl W b N vn num (.slice a n c)
 ks:nK w0 L (.slice a n c) N.ks
 nm:bp w0 vn N.nm
 jn:oz vn
theorem rx{p:World}{h:List Nd}{L:List Im}{base:Nat}{F:Value}(T:Tp p h L base F){i:Nat}(s:i<h.length):∃b vn a n c,nV (jo L i)= .iface (jd (dL (ae h i).k)) (.pointer (some ⟨b,0,none⟩))/\NdQ p L (ae h i) b vn a n c:=by
 have E:i<L.length:=by rw[<-T.map,aI]at s;exact s
 have e:L[i]?=some (jo L i):=by
  unfold jo
  rw[mH,aL,aF E];rfl
 have g:=aiz T.map (i:Int)
 have B:=T.at_.box i _ e
 have l:=T.at_.kid i _ e
 obtain⟨a,c,t⟩:=bG l
 have C:nK p L (jo L i).kv (jo L i).N.ks:=by
  rcases l.2 with⟨f,r⟩|⟨j,v,H,f,r,I,y,J,K,ad⟩
  ·exact .inl ⟨fj r,none,0,f⟩
  ·refine .inr ⟨⟨j,0,none⟩,v,f,y,fun o d m=>?_⟩
   have af:=(List.getElem?_eq_some_iff.1 m).1
   have q:=l
   rw[f]at q
   have z:(⟨j,0,none⟩:Addr).add o=⟨j,o,none⟩:=by unfold Addr.add;split<;>simp_all
   rw[z,q.cellAt o (by omega)]
   unfold lh
   rw[bq,m]
   obtain⟨z0,ak⟩:=T.at_.rng i _ d e (bJ m)
   have u:d.toNat<L.length:=by omega
   have w:(L.take i)[d.toNat]?=some (L[d.toNat]):=by rw[iE,ab (by omega),aF u]
   have x:jo L d=L[d.toNat]:=by unfold jo;rw[aL,aF u];rfl
   simp only[qI,w,x]
 refine⟨(jo L i).b,(jo L i).vn,a,_,c,?_,rfl,fun G A=>⟨i,?_⟩,?_,?_,T.jn _ (bJ e)⟩
 ·rw[<-g];rfl
 ·rw[<-g,<-t];exact B.below A
 ·rw[<-g,<-t];exact C
 ·rw[<-g];exact T.nms _ (bJ e)
theorem NdQ.cells{e:World}{L:List Im}{N:Nd}{b:Nat}{vn:Value}{a:Option Addr}{n c:Nat}(f:NdQ e L N b vn a n c){W:World}(g:Below e.heap.size e W):W.cell? ⟨b,0,none⟩=some (.int .i64 N.k)/\W.cell? ⟨b,5,none⟩=some (.slice a n c)/\∀v,(exT N vn (dL N.k))[0]?=some v->W.cell? ⟨b,6,none⟩=some v:=by
 obtain⟨i,d⟩:=f.rd W g
 unfold gl at d
 refine⟨by rw[au _ _ _ _ _ _ d];rfl,by rw[au _ _ _ _ _ _ d];rfl,fun v h=>?_⟩
 rw[au _ _ _ _ _ _ d]
 simpa using h
abbrev zH(b:World)(a:Nat)(L:List Im)(t:Nat)(z:Int)(c:ByteArray):Prop:=Pw b a 83 #[vP a,fJ b t,nV (jo L z)] c
theorem mq(k:Nat)(b:Nat)(w:World):(method 413 (jd k) (.pointer (some ⟨b,0,none⟩)) "loop.example/warp/impl.head").run Tryz.prog w= .ok (307,.pointer (some ⟨b,0,none⟩)) w:=by
 match k with
 |0=>exact vH 0 b w
 |1=>exact vH 1 b w
 |2=>exact vH 2 b w
 |3=>exact vH 3 b w
 |4=>exact vH 4 b w
 |5=>exact vH 5 b w
 |k+6=>exact vH 6 b w
theorem Ps.mth{d:World}{a:Nat}{T:ByteArray}{W:World}(b:Ps d a T W){k:Nat}{v:Value}(c:(Gk a)[k]?=some v):W.cell? ⟨a,k,none⟩=some v:=by
 rw[au _ _ _ _ _ _ b.vi]
 exact c
theorem abG(c:World)(a:Nat)(q:List Nd)(L:List Im)(base:Nat)(I:Value)(A:Tp c q L base I)(t i:Nat)(E:i<q.length)(b:Nat)(j:(ae q i).k=(b:Int))(an:b<43)(f:FuncId)(o:(Gk a)[b]?=some (mv a f))(ak:∀(args:Array Value) (w:World),(callFunc f args).run Tryz.prog w= .ok (.enter f args) w)(n:ByteArray)
  (x:Pw c a f #[vP a,fJ c t,nV (jo L i)] n):zH c a L t i n:=by
 intro m w e
 obtain⟨h,a0,K,ar,ad,p,l⟩:=rx A E
 rw[j]at p
 have B:=(l.cells e.pg.bel).1
 rw[j]at B
 have af:=e.mth o
 have H:=fun w=>de h w
 have F:=fun w=>mq (dL (b:Int)) h w
 have g:Hid (Pw c a f #[vP a,fJ c t,nV (jo L i)] n):=x
 have v:Ps c a m w.drew:=e.below (aq (ag _ _))
 have r:Hid (Ps c a m w/\Ps c a m w.drew):=⟨e,v⟩
 have z:Hid (∀s d,Ps c a s d->d.cell? ⟨h,0,none⟩=some (.int .i64 (b:Int))/\d.cell? ⟨a,b,none⟩=some (mv a f)):=fun s d u=>⟨by have:=(l.cells u.pg.bel).1;rwa [j]at this,u.mth o⟩
 rw[p]at g⊢
 generalize fJ c t=ap at g⊢
 generalize jd (dL (b:Int))=av at g F⊢
 have al:(0:Int)<=(b:Int):=by omega
 have am:(b:Int)<43:=by omega
 clear x p l e o j v
 go_enter Tryz.func83,Tryz.ntmps83
 go_wp2_with fail
 go_region_held3 (fun d=>d.cell? ⟨h,0,none⟩=some (.int .i64 (b:Int))/\d.cell? ⟨a,b,none⟩=some (mv a f)) (first|exact z.out _ _ r.out.2|exact z.out _ _ y|go_keep) (first|(go_at_call 307;refine(H _).mono ?_;rintro C J ⟨rfl,ao⟩;subst J)|(refine(g.out _ _ r.out.2).mono ?_;rintro C a1 ⟨rfl,y,G⟩))
 go_wp2_with fail
 go_end0
 exact⟨rfl,y,(Kq.of_below (aq (ag _ _))).trans G⟩
theorem E3(a:World)(d:Nat)(L:List Im)(t:Nat)(e:List Int)(v:Value)(p:nK a L v e)(a1:e.length<=1048576)(E:Int->ByteArray)(A:∀z∈e,zH a d L t z (E z)):
  Pw a d 135 #[vP d,fJ a t,v] (bK (e.map E)):=by
 intro h r J
 obtain⟨ao,ar,rfl⟩:=p.form
 obtain⟨f,o⟩:∃f,e.length=f:=⟨_,rfl⟩
 rw[o]at p a1⊢
 have u:Hid (Ps a d h r/\nK a L (.slice ao f ar) e/\(∀z∈e,zH a d L t z (E z))/\e.length=f):=⟨J,p,A,o⟩
 obtain⟨b,n⟩:∃b,e.map E=b:=⟨_,rfl⟩
 rw[n]
 have F:Hid (e.map E=b/\b.length=f):=⟨n,by rw[<-n,aI];exact o⟩
 have a0:=fun r=>mj a.heap.size (ek t) r
 have x:Hid (Pw a d 306 #[kF a t,.string dx] dx):=iw a d t dx (by decide)
 have w:Hid (∀z∈e,Pw a d 83 #[vP d,fJ a t,nV (jo L z)] (E z)):=A
 unfold fJ kF at w x⊢
 generalize ek t=a2 at a0 x w⊢
 clear J p A o n
 go_enter Tryz.func135,Tryz.ntmps135
 go_wp2_with fail
 go_loopw [10] (fun B wr=>∃c:Nat,c<=f/\B= .int .i64 c/\Hid (Ps a d (h++bK (b.take c)) wr/\Kq a.heap.size r wr)) (fun B _=>f-(intOf B).toNat)
 case atStart=>exact⟨0,by omega,rfl,by rw[show h++bK (b.take 0)=h from ByteArray.append_empty];exact u.out.1,Kq.refl _ _⟩
 case round=>
  obtain⟨c,a4,rfl,g⟩:=hrel
  by_cases av:c<f
  ·obtain⟨z,q⟩:=bC u.out.2.2.2 av
   obtain⟨ap,rfl,_,H⟩:=(u.out.2.1.below g.out.1.pg.bel).get q
   have af:b[c]?=some (E z):=by rw[<-F.out.1,bq,q];rfl
   have ad:=lE b c (E z) af
   have y:=w.out z (bJ q)
   generalize nV (jo L z)=am at H y
   have G:Hid (Pw a d 83 #[vP d,.iface 60 (.agg #[.pointer (some ⟨a.heap.size,0,none⟩),.string a2]),am] (E z)):=y
   have m:Hid (bK (b.take (c+1))=(if c=0 then bK (b.take c) else bK (b.take c)++dx)++E z):=ad
   clear ad q af y
   by_cases K:c=0
   ·subst K
    have k:bK (b.take (0+1))=bK (b.take 0)++E z:=by rw[m.out,ab rfl]
    have s:Hid (bK (b.take (0+1))=bK (b.take 0)++E z):=k
    clear k m
    have a3:wr.cell? ap=some am:=by simpa [Addr.add] using H
    go_wp2_with (go_at_call 83;fail)
    refine(G.out _ _ g.out.1).mono ?_
    rintro I i ⟨rfl,p2,l⟩
    have j:Hid (Ps a d (h++bK (b.take 0)++E z) i/\Kq a.heap.size wr i):=⟨p2,l⟩
    clear p2 l
    go_wp2_with fail
    refine⟨⟨1,by omega,by go_num,?_,g.out.2.trans j.out.2⟩,by simp[intOf];omega⟩
    rw[show(1:Nat)=0+1 from rfl,s.out,<-be]
    exact j.out.1
   ·have k:bK (b.take (c+1))=bK (b.take c)++dx++E z:=by rw[m.out,aa K]
    have s:Hid (bK (b.take (c+1))=bK (b.take c)++dx++E z):=k
    clear k m
    have a5:(0:Int)<(c:Int):=by omega
    go_wp2_with (go_at_call 306;fail)
    refine(x.out _ _ g.out.1).mono ?_
    rintro I i ⟨rfl,p2,l⟩
    have j:Hid (Ps a d (h++bK (b.take c)++dx) i/\Kq a.heap.size wr i):=⟨p2,l⟩
    clear p2 l
    go_wp2_with (go_at_call 83;fail)
    refine(G.out _ _ j.out.1).mono ?_
    rintro I an ⟨rfl,al,ak⟩
    have C:Hid (Ps a d (h++bK (b.take c)++dx++E z) an/\Kq a.heap.size i an):=⟨al,ak⟩
    clear al ak
    go_wp2_with fail
    refine⟨⟨c+1,by omega,by go_num,?_,(g.out.2.trans j.out.2).trans C.out.2⟩,by simp[intOf];omega⟩
    rw[s.out,<-be,<-be]
    exact C.out.1
  ·obtain rfl:c=f:=by omega
   go_wp2_with fail
   go_end0
   refine⟨rfl,?_,g.out.2⟩
   have:=g.out.1
   rwa [bH (by rw[F.out.2];exact ah _)]at this
theorem jJ(a:World)(b:Nat)(t:Nat)(s X:ByteArray)(r:s.size<=100000000)(v:Value)(h:Pw a b 135 #[vP b,fJ a t,v] X):
  Pw a b 133 #[vP b,fJ a t,.string s,v] (s++X):=by
 intro d c g
 have u:=fun c=>mj a.heap.size (ek t) c
 have o:Hid (Pw a b 306 #[kF a t,.string s] s):=iw a b t s r
 have p:Hid (Pw a b 135 #[vP b,fJ a t,v] X):=h
 have n:Hid (Ps a b d c):=g
 unfold fJ kF at *
 generalize ek t=w at *
 clear g h
 go_enter Tryz.func133,Tryz.ntmps133
 go_wp2_with (go_at_call 306;fail)
 refine(o.out _ _ n.out).mono ?_
 rintro q l ⟨rfl,p2,i⟩
 have e:Hid (Ps a b (d++s) l/\Kq a.heap.size c l):=⟨p2,i⟩
 clear p2 i
 go_wp2_with (go_at_call 135;fail)
 refine(p.out _ _ e.out.1).mono ?_
 rintro q m ⟨rfl,k,j⟩
 have f:Hid (Ps a b (d++s++X) m/\Kq a.heap.size c m):=⟨k,e.out.2.trans j⟩
 clear k j
 go_wp2_with fail
 go_end0
 exact⟨rfl,by rw[<-be];exact f.out.1,f.out.2⟩
theorem si(a:World)(b:Nat)(t:Nat)(s X e:ByteArray)(v f:Value)(l:Pw a b 133 #[vP b,fJ a t,.string s,v] X)(m:Pw a b 83 #[vP b,fJ a t,f] e):
  Pw a b 137 #[vP b,fJ a t,.string s,v,f] (X++⟨#[32]⟩++e):=by
 intro d c k
 have C:=fun c=>mj a.heap.size (ek t) c
 have z:Hid (Pw a b 133 #[vP b,fJ a t,.string s,v] X):=l
 have A:Hid (Pw a b 306 #[kF a t,.string ⟨#[32]⟩] ⟨#[32]⟩):=iw a b t _ (by decide)
 have B:Hid (Pw a b 83 #[vP b,fJ a t,f] e):=m
 have y:Hid (Ps a b d c):=k
 unfold fJ kF at *
 generalize ek t=E at *
 clear k l m
 go_enter Tryz.func137,Tryz.ntmps137
 go_wp2_with (go_at_call 133;fail)
 refine(z.out _ _ y.out).mono ?_
 rintro j u ⟨rfl,p2,n⟩
 have g:Hid (Ps a b (d++X) u/\Kq a.heap.size c u):=⟨p2,n⟩
 clear p2 n
 go_wp2_with (go_at_call 306;fail)
 refine(A.out _ _ g.out.1).mono ?_
 rintro j w ⟨rfl,q,o⟩
 have h:Hid (Ps a b (d++X++⟨#[32]⟩) w/\Kq a.heap.size c w):=⟨q,g.out.2.trans o⟩
 clear q o
 go_wp2_with (go_at_call 83;fail)
 refine(B.out _ _ h.out.1).mono ?_
 rintro j x ⟨rfl,r,p⟩
 have i:Hid (Ps a b (d++X++⟨#[32]⟩++e) x/\Kq a.heap.size c x):=⟨r,h.out.2.trans p⟩
 clear r p
 go_wp21
 go_end0
 exact⟨rfl,by have:=i.out.1;simpa only[be] using this,i.out.2⟩
theorem jC(a:World)(h t:Nat)(s T:ByteArray)(m:s.size<=100000000)(u:FrameMode)(w:World)(d:Ps a h T w):
  CallsD Tryz.prog 306 #[kF a t,.string s] u w fun e n c=>n=u/\(e= .returned (.tuple #[])/\Ps a h (T++s) c/\Kq a.heap.size w c):=by
 have f:∀g,Below w.heap.size w (w.alloc g):=fun g=>(ag _ w).alloc (ah _) g
 have j:Hid (∀b,Below w.heap.size w b->Calls Tryz.prog 303 #[.pointer (some ⟨a.heap.size,0,none⟩),.string s] b fun e c=>e= .returned (.tuple #[])/\Pg a (T++s) c/\Kq a.heap.size b c):=fun b l=>CH a T s b (d.pg.below l) m
 have k:Hid (Ps a h T w):=d
 unfold kF
 generalize ek t=o
 clear d
 go_enter_d Tryz.func306,Tryz.ntmps306
 go_wp2_with (go_at_call 303;refine(j.out _ (f _)).mono ?_;rintro e p ⟨rfl,p2,i⟩)
 go_end0
 exact⟨rfl,k.out.next p2 ((Kq.of_below (f _)).trans i),(Kq.of_below (f _)).trans i⟩
theorem pE(b:Nat)(a s:ByteArray)(w:World):(invoke (.fn (.method "loop.example/warp/impl.put") #[]) #[.iface 60 (.agg #[.pointer (some ⟨b,0,none⟩),.string a]),.string s]).run Tryz.prog w= .ok (.enter 306 #[.agg #[.pointer (some ⟨b,0,none⟩),.string a],.string s]) w:=by kernel_rfl
theorem tL(a:World)(b t:Nat)(v:Value)(e:ByteArray)(l:Pw a b 83 #[vP b,fJ a t,v] e):
  Pw a b 140 #[vP b,fJ a t,v,.bool true] (ft e):=by
 intro d c h
 have B:=fun c=>mj a.heap.size (ek t) c
 have w:Hid (Pw a b 306 #[kF a t,.string ⟨#[40]⟩] ⟨#[40]⟩):=iw a b t _ (by decide)
 have x:Hid (Pw a b 83 #[vP b,fJ a t,v] e):=l
 have y:Hid (∀d c,Ps a b d c->∀i,CallsD Tryz.prog 306 #[kF a t,.string ⟨#[41]⟩] i c fun g p q=>p=i/\(g= .returned (.tuple #[])/\Ps a b (d++⟨#[41]⟩) q/\Kq a.heap.size c q)):=fun d c h i=>jC a b t _ d (by decide) i c h
 have u:Hid (Ps a b d c):=h
 unfold fJ kF at *
 generalize ek t=C at *
 clear h l
 go_enter_defers Tryz.func140,Tryz.ntmps140
 go_wp2_with (go_at_call 306;fail)
 refine(w.out _ _ u.out).mono ?_
 rintro g r ⟨rfl,p2,m⟩
 have j:Hid (Ps a b (d++⟨#[40]⟩) r/\Kq a.heap.size c r):=⟨p2,m⟩
 clear p2 m
 go_wp2_with (go_at_call 83;fail)
 refine(x.out _ _ j.out.1).mono ?_
 rintro g s ⟨rfl,o,n⟩
 have k:Hid (Ps a b (d++⟨#[40]⟩++e) s/\Kq a.heap.size c s):=⟨o,j.out.2.trans n⟩
 clear o n
 go_wp2_with fail
 refine pf (f:=306) (by simp) (pE _ _ _ _) ?_
 refine(y.out _ _ k.out.1 .returning).mono ?_
 rintro g p E ⟨rfl,rfl,A,z⟩
 refine⟨_,gx rfl _ _ _,rfl,?_,k.out.2.trans z⟩
 unfold ft
 simpa only[be] using A
