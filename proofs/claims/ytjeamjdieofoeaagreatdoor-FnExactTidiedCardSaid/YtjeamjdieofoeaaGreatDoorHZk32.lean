import Derived.Test.YtjeamjdieofoeaaGreatDoorHZk29
import Derived.Test.YtjeamjdieofoeaaGreatDoorHZk30
import Derived.Test.YtjeamjdieofoeaaGreatDoorHZk26
import Derived.Test.YtjeamjdieofoeaaGreatDoorHZk31
set_option linter.all false
set_option maxRecDepth 100000
set_option maxHeartbeats 25600000
open Go.Proofs.Tryz renaming prog->M
open ByteArray renaming empty->O
open Option renaming none->Q,some->U
open Go.RowKit renaming Below->S,Hid->B3
open Go.Obj renaming cells->Y
open Go.Value renaming int->Ax,string->A2,slice->A5,agg->B7,bool->C2
open Go.IntKind renaming i64->A0
open Go renaming World->A9,Value->B0,Calls->B1
open Go.Ending renaming returned->Br
open Bool renaming true->Bs,false->B6
open Go.Lib renaming asciiSpaceTab->B4,TabIs->Cb
namespace Go.Proofs.YtjeamjdieofoeaaGreatDoor
open Go.RowKit Go.Maps Go.WideMaps
variable{N:Nd}{a c:Int}{i q t:Nat}{ns:List Nd}
theorem acv(r:Nat)(m n o:B0)(z:Int)(w:A9)(a:w.heap[r]?=U (Y #[m,n,o] 28 (0,0))):
  CallsD M 18 #[.pointer (U ⟨r,0,Q⟩)] (.panicking (aau z)) w fun e l w'=>
   e= Br (.tuple #[])/\l= .panicking [{v:= .iface 61 (B7 #[Ax A0 z]),recovered:=Bs}]/\w'.heap[r]?=U (Y #[Ax A0 1,Ax A0 z,A5 Q 0 0] 28 (0,0))/\S r w w':=by
 have i:=fun w=>amD z w;unfold aau;refine callsD_of_wpS Tryz.func18 rfl fun q p j=>?_;apply wpS_seq;apply xA;simp[wpOpsS,go_sem,recoverD,j,Tryz.ntmps18,Exit.thenS,i];apply wpS_seq;apply xA;simp[wpOpsS,go_sem,Exit.thenS,gD];refine wpS_cond (t:=Bs) (by simp[Act.eval]) ?_;simp only[jq];have k:∀w:A9,(zeroValue 28).run M w= .ok (B7 #[Ax A0 0,Ax A0 0,A5 Q 0 0]) w:=fun w=>by kernel_rfl
 have b:(w.alloc (Y #[Ax A0 z] 61)).heap[r]?=_:=(dg w _ r (ai a)).trans a;have h:S r w (w.alloc (Y #[Ax A0 z] 61)):=(cK w _).mono (gq (ai a));obtain⟨c,d,f,g⟩:=row3 b;apply xA;simp[wpOpsS,go_sem,c,d,f,g,k,bodyPostS,results,Tryz.results18];exact⟨adH b _ _ _,E9 h _ _ _⟩
theorem acw(p:Addr)(w:A9):
  CallsD M 18 #[.pointer (U p)] .returning w fun e d w'=>e= Br (.tuple #[])/\d= .returning/\w'=w.alloc (Y #[Ax A0 0] 61):=by
 have b:=fun w=>amE w;refine callsD_of_wpS Tryz.func18 rfl fun a f c=>?_;apply wpS_seq;apply xA;simp[wpOpsS,go_sem,recoverD,c,Tryz.ntmps18,Exit.thenS,b];apply wpS_seq;apply xA;simp[wpOpsS,go_sem,Exit.thenS,gD];refine wpS_cond (t:=B6) (by simp[Act.eval]) ?_;simp only[AJ,if_false];refine wpS_of_wp (wp_skip ?_);cases a
 simp_all [bodyPostS,results,Tryz.results18]
theorem Kt(w:A9)(v:B0)(a:List Nd)(h:fs w v a)(F:a.length<=1048576)(J:∀N∈a,io N)(b:nA w)(K:TypeId)(fr:Nat×Nat)(t:w.heap[0]?=U (.cells ez K fr))
  (H:∀W,S w.heap.size w W->Cb M W "strings.asciiSpace" .u8 B4):
  B1 M 24 #[.agg #[v]] w fun e w'=>e= .returned (.agg #[.int .i64 (dd a).1,.int .i64 (dd a).2])/\S w.heap.size w w':=by
 have B:∀x y,S w.heap.size w ((w.alloc x).alloc y):=fun x y=>((ah _ w).alloc (ag _) x).alloc (by simp) y;have p:B3 (∀W,S w.heap.size w W->B1 M 15 #[.agg #[v]] W (Kk W a)):=fun W g=>
  aaI W v a (h.below g) F J (b.below g (ag _)) K fr ((g.block _ (ai t)).trans t) (fun q af=>H q (g.trans (af.mono g.size)))
 obtain⟨k,l,rfl⟩:=h.form;obtain⟨n,G⟩:=az a.length;rw[G]at p⊢;obtain⟨d,r⟩:=az ((dd a).1);obtain⟨f,s⟩:=az ((dd a).2);have j:=gI r s;rw[r,s];clear h F J b t H G r s;go_in;go_wp2_with fail;have o:kD (w.heap.size+1) ((w.alloc (.cells #[.slice k n l] 26)).alloc (.cells #[.int .i64 0,.int .i64 0] 36)) 0 0:=by
  have:=aA (w.alloc (.cells #[.slice k n l] 26)) (.cells #[.int .i64 0,.int .i64 0] 36);rw[cD]at this;exact this
 have c:=B (.cells #[.slice k n l] 26) (.cells #[.int .i64 0,.int .i64 0] 36);generalize (w.alloc (.cells #[.slice k n l] 26)).alloc (.cells #[.int .i64 0,.int .i64 0] 36)=q at o c⊢;refine(p q c).mono ?_;rintro e i ⟨u,E⟩;obtain⟨I,rfl⟩:∃I,e= .returned (.tuple #[I,.agg #[.int .i64 d,.int .i64 f]]):=by
  rcases E with⟨_,b⟩|⟨ad,_,_,_,ak,b,_⟩
  ·exact⟨_,by rw[b,j.out.1,j.out.2]⟩
  ·refine⟨nV ak,?_⟩;rw[b,<-j.out.1,<-j.out.2,ad]
 have m:=o.below u;obtain⟨al,am,an⟩:=jl m;have ao:w.heap.size+1<i.heap.size:=ai m;have ap:w.heap.size+1≠i.heap.size:=by omega
 have C:S w.heap.size w i:=c.trans (u.mono c.size);have z:=gI C m;clear E u o c p C m B;go_wp2_with fail;have L:=(pu z.2 d f).below ((ah _ ((i.setCell ⟨w.heap.size+1,0,Q⟩ (.int .i64 d)).setCell ⟨w.heap.size+1,1,Q⟩ (.int .i64 f))).alloc (ag _) (.cells #[.int .i64 d,.int .i64 f] 36));have A:S w.heap.size w ((i.setCell ⟨w.heap.size+1,0,Q⟩ (.int .i64 d)).setCell ⟨w.heap.size+1,1,Q⟩ (.int .i64 f)):=(z.1.setCell (by simp) _).setCell (by simp) _;exact aI (eu rfl _ _ (w.heap.size+1) _ _ _ _ rfl L Tryz.underlying36 rfl (by kernel_rfl)) rfl ⟨rfl,A.alloc A.size _⟩
theorem xh(lo:Nat):∀(ks:Fo),LCs lo ks
 | .nil=>trivial
 | .cons N k r=>⟨Ao (xh lo k),xh lo r⟩
theorem Dy(f:Mb->B0):∀(L:List Mb),(L.flatMap fun x=>(f x).ownBlock.toList).Nodup->∀(i j:Nat)(a b:B0),i<j->(L.map f)[i]?=U a->(L.map f)[j]?=U b->a.ownBlock=Q\/a.ownBlock≠b.ownBlock
 |[],h,i,j,a,b,k,c,d=>by simp at c
 |x::r,h,i,0,a,b,k,c,d=>by omega
 |x::r,h,0,j+1,a,b,k,c,d=>by
  simp at c;subst c;rw[xx,uz]at h;cases hx:(f x).ownBlock with
  |none=>exact .inl rfl
  |some g=>
   right;intro e;have m:=cH (show(r.map f)[j]?=U b by simpa using d);obtain⟨o,n,l⟩:=List.mem_map.1 m;exact h.2.2 g (by simp[hx]) g (List.mem_flatMap.2 ⟨o,n,by rw[l,<-e];simp⟩) rfl
 |x::r,h,i+1,j+1,a,b,k,c,d=>by
  rw[xx,uz]at h;exact Dy f r h.2.1 i j a b (by omega) (by simpa using c) (by simpa using d)
theorem Ar(f:Mb->B0){a:List Mb}(h:(a.flatMap fun x=>(f x).ownBlock.toList).Nodup):aeH (a.map f):=fun c d b e k i j=>by
 rcases bj c d with q|q
 ·exact Dy f a h c d b e q i j
 ·rcases Dy f a h d c e b (by omega) j i with g|g
  ·cases ho:b.ownBlock with
   |none=>exact .inl rfl
   |some l=>right;rw[g];simp
  ·exact .inr (dv g)
theorem amK{w:A9}{lo:Nat}{v:B0}{c:List Mb}(h:Lw w lo v c)(g:(nB' c).Nodup)(f:(kB c).Nodup):mw w lo w.heap.size v c:=
 ⟨h.row,fun a b=>(h.row.lt a b).2,fun e d=>⟨(h.each e d).1,(h.each e d).2,fun a b=>((h.each e d).1.lt a b).2,fun a b=>((h.each e d).2.lt a b).2⟩,Ar _ g,Ar _ f⟩
theorem Bv(w:A9)(lo e:Nat):mw w lo e (A5 Q 0 0) []:=⟨dr _ _ _ _,fun i d=>(by simp[Value.ownBlock]at d),fun j f=>(by cases f),fun g h b c _ a=>(by simp at a),fun g h b c _ a=>(by simp at a)⟩
def PiP(w:A9)(c a:Int)(b:List Nd)(e:Ending)(w':A9):Prop:=∃v L,e= Br (psV c a v)/\L.map Mb.N=b/\mw w' w.heap.size w'.heap.size v L/\S w.heap.size w w'
structure PL (w:A9):Prop where
 lay:Cw w
 gn:12<=w.heap.size
 pow:∃tt fr,w.heap[3]?=U (.cells Jf tt fr)
 asc:Cb M w "strings.asciiSpace" .u8 B4
theorem PL.below{w w':A9}{B:Nat}(h:PL w)(a:S B w w')(b:w.heap.size<=B):PL w':=by
 obtain⟨e,d,c⟩:=h.pow;exact⟨h.lay.below a b,bL h.gn a.size,⟨e,d,(a.block _ (fD (ai c) b)).trans c⟩,zn h.asc a b⟩
theorem Out.at_of{s:ByteArray}{z:Int}(h:Out s c a ns)(e:s.size<=65536)(d:0<=z)(b:rF s=([],z)):c=1/\a=z/\ns=[]:=by
 cases h with
 |big h=>omega
 |at_ _ _ h=>rw[b]at h;cases h;exact⟨rfl,rfl,rfl⟩
 |ok _ h _=>rw[b]at h;cases h;omega
theorem Out.ok_of{s:ByteArray}{toks:List Tk}(h:Out s c a ns)(g:s.size<=65536)(b:rF s=(toks, -1)):∃m R e,PF s toks m R e/\c=okC (oH s R)/\a=0/\ns=okN (oH s R):=by
 cases h with
 |big h=>omega
 |at_ _ f h=>rw[b]at h;cases h;omega
 |ok _ h d=>rw[b]at h;cases h;exact⟨_,_,_,d,rfl,rfl,rfl⟩
theorem amL{d:Nat}{W c:A9}{cs:Array B0}(h:Gp d W c)(m:W.heap[d]?=U (Y cs 113 (0,0))){base e size n:Nat}{v:B0}{xs:List B0}(o:W.ownsRow base e size v n xs)(j:e≠113)(k:e≠115):c.ownsRow base e size v n xs:=by
 obtain⟨q,b⟩:=o;refine⟨q,?_⟩;rcases b with b|⟨i,f,g,p,l,a,r⟩
 ·exact .inl b
 ·exact .inr ⟨i,f,g,p,l,jx h a (fun e=>by rw[e,m]at a;cases a;exact j rfl) k,r⟩
theorem Ee(w:A9)(s:ByteArray)(cI:s.size<=1048576)(cs:PL w)(bt:Out s c a ns):B1 M 9 #[.string s] w (PiP w c a ns):=by
 have i3:∀(ea:Fn)(first cc:Array B0)(w:A9),(Instr.makeFunc ea first cc).run M w= .ok (.func ea first cc) w:=fun _ _ _ _=>rfl;have j6:∀w:A9,(zeroValue 28).run M w= .ok (.agg #[.int .i64 0,.int .i64 0,.slice Q 0 0]) w:=fun w=>by kernel_rfl
 have eb:=cK w (.cells #[.int .i64 0,.int .i64 0,.slice Q 0 0] 28);have g0:=aA w (.cells #[.int .i64 0,.int .i64 0,.slice Q 0 0] 28);have he:(w.alloc (.cells #[.int .i64 0,.int .i64 0,.slice Q 0 0] 28)).heap.size=w.heap.size+1:=cD _ _;have bf:=aq bt;by_cases iy:65536<s.size
 ·have gm:(65536:Int)<(s.size:Int):=by omega
  have L:B3 (c=2/\a=0/\ns=[]):=by
   cases bt with
   |big h=>exact⟨rfl,rfl,rfl⟩
   |at_ h _ _=>omega
   |ok h _ _=>omega
  clear bt bf;go_enter_defers Tryz.func9,Tryz.ntmps9
  go_wp2_with fail;exact⟨_,eu rfl _ _ w.heap.size _ _ _ _ rfl (aA w _) Tryz.underlying28 rfl (by kernel_rfl),show PiP w c a ns _ _ from by rw[L.out.1,L.out.2.1,L.out.2.2];exact⟨_,[],rfl,rfl,Bv _ _ _,cK w _⟩⟩
 ·have gm:¬(65536:Int)<(s.size:Int):=by omega
  obtain⟨d5,cg,C⟩:=cs.pow;have fc:=Gu (w.alloc (.cells #[.int .i64 0,.int .i64 0,.slice Q 0 0] 28)) d5 cg ((eb.block _ (ai C)).trans C);have a0:=aq cs;clear bt cs C;go_enter_defers Tryz.func9,Tryz.ntmps9
  go_wp2_with fail;refine fc.mono ?_;rintro b bb ⟨cm,rfl,ch,d2,cb⟩;rw[he]at ch d2 cb;have cn:S w.heap.size w bb:=eb.trans (cb.mono (by omega));have ek:GQ bb (w.heap.size+1) cm (w.heap.size+1) [100,6]:=⟨ch,d2,by decide,by decide⟩;have fb:=Hv bb (w.heap.size+1) cm (w.heap.size+1) s ek (a0.lay.below cn (ag _)) (by omega) (by have:=a0.gn;omega);have c6:=(cb.block w.heap.size (by omega)).trans g0;clear fc;go_wp2_with fail;refine fb.mono ?_;rintro b o ⟨(⟨E,d3,toks,b9,kd,el,c8,rfl,b0,cx,jn,g9,ad⟩|⟨z,a7,rfl,ad⟩)⟩
  ·have B:S w.heap.size w o:=cn.trans (ad.mono (by omega));have a5:=(ad.block w.heap.size (by omega)).trans c6;have e9:=ai a5;obtain⟨n,df⟩:=az toks.length;rw[df]at b0 g9;obtain⟨fA,f4,rfl⟩:=bI b0;obtain⟨stF,cf,bw⟩:∃stF cf,ij E 6=Bs->passOk (E.length+45) cf E 6 stF/\stF.length<=E.length+45/\DL stF (feedL d3 6).1:=by
    by_cases cI:ij E 6=Bs
    ·obtain⟨a9,e3,g7⟩:=c8.passOk (by decide) (by decide) cI;exact⟨a9,_,fun _=>⟨e3,wC e3,g7⟩⟩
    ·exact⟨[],0,fun b=>absurd b cI⟩
   have b8:=fun a9=>Fc (o.alloc a9) (w.heap.size+1) cm (w.heap.size+1) E stF ⟨6,(s.size:Nat),(s.size:Nat),0,0,⟨#[]⟩⟩ s cf (cx.below (cK o a9)) ((a0.lay.below (B.trans ((cK o a9).mono B.size)) (ag _)).tabs) (by omega) (by simp) (by simp) (by simp) (by simp) (by simp) (fun b=>⟨(bw b).1,by have:=(bw b).2.1;omega,fun a bx=>by have:=aH ((bw b).2.2.o1 a bx);omega⟩);unfold vTk at b8;simp only at b8;obtain⟨ih,cF,_⟩:=cx.g.ex;have gf:=ai cF;have y:=Ig b0 df el c8 cF;have j1:=ai c6;have j2:=ad.size;clear fb el c8 bw b0 df cx cF ek ch d2;go_wp2_with fail;refine(b8 _).mono ?_;have J:=cK o (.cells #[.int .i64 6,.int .i64 (s.size:Nat),.int .i64 (s.size:Nat),.int .i64 0,.int .i64 0,.string ⟨#[]⟩] 67);have d4:=aA o (.cells #[.int .i64 6,.int .i64 (s.size:Nat),.int .i64 (s.size:Nat),.int .i64 0,.int .i64 0,.string ⟨#[]⟩] 67);have g8:(o.alloc (.cells #[.int .i64 6,.int .i64 (s.size:Nat),.int .i64 (s.size:Nat),.int .i64 0,.int .i64 0,.string ⟨#[]⟩] 67)).heap.size=o.heap.size+1:=cD _ _;have ds:=cJ y.1 J;have ck:=(J.block _ gf).trans y.2.2.2.2;generalize o.alloc (.cells #[.int .i64 6,.int .i64 (s.size:Nat),.int .i64 (s.size:Nat),.int .i64 0,.int .i64 0,.string ⟨#[]⟩] 67)=hI at J d4 g8 ds ck⊢;rintro b v ⟨(⟨bF,rfl,gz,c4,af⟩|⟨bF,rfl,af⟩)⟩
   ·have bD:(feedL d3 6).2=Bs:=by rw[<-y.out.2.2.2.1.may (by decide) (by decide)];exact bF
    have c7:=(af.block w.heap.size (by omega)).trans ((J.block _ e9).trans a5);have bo:S w.heap.size w v:=(B.trans (J.mono B.size)).trans (af.mono (by omega));obtain⟨ap,d,j8,q,bA,bx,e2⟩:=bf.ok_of (toks:=toks++[⟨6,(s.size:Nat),(s.size:Nat),b9,0,⟨#[]⟩⟩]) (by omega) (by unfold rF;rw[y.out.2.2.1,aa (by simp),ab bD]);have fk:=amL c4 ck ds (by decide) (by decide);have fm:dD o.heap.size v 6 (s.size:Nat) (s.size:Nat) 0 0 ⟨#[]⟩:=jx c4 d4 (by omega);obtain⟨ht,hw,hy,hA,hB,hC,hD⟩:=bg fm;obtain⟨hn,gp,a7,hh,hj⟩:=du acr;have i9:=af.size;have e0:n=ap:=by have:=q.len;rw[aK,y.out.2.1]at this;simpa using this
    have m:=Ig q bA bx e2 e0;have dz:=cJ fk (cK v (.cells #[.int .i64 6,.int .i64 (s.size:Nat),.int .i64 (s.size:Nat),.int .i64 0,.int .i64 0,.string ⟨#[]⟩] 67));have ji:=(cK v (.cells #[.int .i64 6,.int .i64 (s.size:Nat),.int .i64 (s.size:Nat),.int .i64 0,.int .i64 0,.string ⟨#[]⟩] 67)).size;have fo:=aA v (.cells #[.int .i64 6,.int .i64 (s.size:Nat),.int .i64 (s.size:Nat),.int .i64 0,.int .i64 0,.string ⟨#[]⟩] 67);clear b8 gz c4 d4 ds ck fm q bA bx e2 e0 fk bD bF;go_wp2_with (at_builtin;refine wpList_append_own_at _ rfl _ _ 31 rfl bb.heap.size 67 hn _ 6 56 Tryz.underlying31 gp a7 hh hj rfl (by decide) _ _ _ rfl dz ⟨v.heap.size,0,Q⟩ 1 1 [.int .i64 6,.int .i64 (s.size:Nat),.int .i64 (s.size:Nat),.int .i64 0,.int .i64 0,.string ⟨#[]⟩] rfl rfl (World.news_of_block fo) (by intro kc e7;simp at e7;rcases e7 with rfl|rfl|rfl|rfl|rfl|rfl<;>rfl) (by unfold maxLen;omega) (by omega) (by omega) ?_;intro ke j d0 bE _ f9;obtain⟨G,ak,rfl⟩:=ownsRow_succ d0);have j3:=bE.size;have e8:∀k,(Value.slice fA n f4).ownBlock=U k->bb.heap.size<=k:=fun k u=>(dz.lt k u).1;have br:S w.heap.size w j:=(bo.trans ((cK v _).mono bo.size)).grown bE (by omega) (fun k u=>by have:=e8 k u;omega);have a6:=(bE.block w.heap.size (by omega) (fun b=>by have:=e8 _ b.symm;omega)).trans (((cK v _).block _ (by omega)).trans c7);obtain⟨d5,cg,C⟩:=a0.pow;have cr:=(br.block _ (ai C)).trans C;have ir:=ai C;obtain⟨bk,am,em⟩:∃bk,j.heap[G]?=U (.cells bk 67 (0,0))/\TkR bk (tD (toks++[⟨6,(s.size:Nat),(s.size:Nat),b9,0,⟨#[]⟩⟩])) (n+1):=by
     rcases d0.2 with⟨dk,_⟩|⟨h9,cc,f3,dk,i2,bA,A,ik,il,f7⟩
     ·cases dk
     ·cases dk;refine⟨f3,bA,agJ (ts:=toks++[⟨6,(s.size:Nat),(s.size:Nat),0,0,⟨#[]⟩⟩]) (by rw[tK];exact f7) (by rw[aK,y.out.2.1];rfl) (fun d1 T an=>?_)⟩;rcases bj d1 toks.length with h|h
      ·rw[iu h]at an;rw[Dl (T:=T) (by rw[iu h];exact an)];exact⟨rfl,fun _=>rfl⟩
      ·have b:d1=toks.length:=by have:=(List.getElem?_eq_some_iff.1 an).1;simp at this;omega
       subst b;rw[fL (ag _),eC]at an;cases an;rw[Dl (T:=⟨6,(s.size:Nat),(s.size:Nat),b9,0,⟨#[]⟩⟩) (by rw[fL (ag _),eC];rfl)];exact⟨rfl,fun h=>absurd rfl h⟩
    obtain⟨K,I⟩:∃K:Pe,(⟨0,j.heap.size,G,ak,n+1,tD (toks++[⟨6,(s.size:Nat),(s.size:Nat),b9,0,⟨#[]⟩⟩])⟩:Pe)=K:=⟨_,rfl⟩;have q:=m.1;have d9:Pp K (j.alloc (.cells #[.slice (U ⟨G,0,Q⟩) (n+1) ak,.int .i64 0] 70)) 0:=by
     rw[<-I];exact⟨by show n+1<=_;omega,⟨bk,(0,0),((cK j _).block _ (ai am)).trans am,em⟩,aA j _,by have:=br.size;show _<j.heap.size;omega,d5,cg,((cK j _).block _ (ai cr)).trans cr⟩
    obtain⟨d1,hS⟩:PI K .stats 0 d ap:=ahb (by rw[<-I];exact q.k78) (by rw[<-I];show P _ (n+1) _ _ _ _;rw[m.out.2.2.2.2];exact q.p);have a8:=aoa (ag7 (.inr (by rw[<-I];show(tD _ ap).k=6;rw[q.end_])) hS) (by rw[<-I];show ap<n+1;have:=m.2.2.2.2;omega) _ d9 (by have:=q.sz;rw[bm];omega);have ei:(K.tk ap).t=(s.size:Nat):=by rw[<-I];show(tD _ ap).t=_;rw[q.end_]
    have cq:K.pb=j.heap.size:=by rw[<-I]
    unfold pV at a8;rw[ei,cq]at a8;have hl:(j.alloc (.cells #[.slice (U ⟨G,0,Q⟩) (n+1) ak,.int .i64 0] 70)).heap.size=j.heap.size+1:=cD _ _;have cB:=cK j (.cells #[.slice (U ⟨G,0,Q⟩) (n+1) ak,.int .i64 0] 70);have eg:S w.heap.size w (j.alloc (.cells #[.slice (U ⟨G,0,Q⟩) (n+1) ak,.int .i64 0] 70)):=br.trans (cB.mono br.size);have e4:=(cB.block _ (ai a6)).trans a6;have j4:=ai a6;clear hS d9 q am em C cr d0 bE f9 dz fo ht hw hy hA hB hC hD;generalize j.alloc (.cells #[.slice (U ⟨G,0,Q⟩) (n+1) ak,.int .i64 0] 70)=ca at a8 hl cB eg e4⊢;refine a8.mono ?_;rintro b fv ⟨hs,rfl,a1⟩;obtain⟨f2,ff,e1⟩:=a1.nb;have hd:=a1.gr.size;have g3:=(a1.gr.block w.heap.size (by omega) (fun b=>by rw[cq]at b;have:=bp b;omega)).trans e4;have f8:S w.heap.size w fv:=eg.grown a1.gr (by omega) (fun k u=>by rw[cq]at u;have:=bp u;omega);have fd:=Ao (xh ca.heap.size d) (N:=⟨1,0,(s.size:Nat),1,0,0,z0,[],[]⟩) fv hs f2 [] (.slice Q 0 0) ff ⟨dr _ _ _ _,fun d8 b7=>(by cases b7)⟩ hd (by have:=m.1.sz;rw[bm];simp;omega);have fz:=aq e1;clear a8 ff e1 a1 ei;go_wp2_with fail;refine fd.mono ?_;rintro b l ⟨j7,F,rfl,ao,cw,am,⟨ge,ev⟩,bn,gt,_⟩;rw[dt]at ao;obtain⟨e,g,rfl⟩:=bI ao.row;have eh:S w.heap.size w l:=f8.trans (bn.bl.mono (by omega));have e5:=(bn.bl.block w.heap.size (by omega)).trans g3;have j5:=bn.bl.size;obtain⟨i,c3⟩:=az F.length;rw[c3]at ao;have fg:fs l (.slice e i g) (oH s d):=by
     have:=ao.nds;rw[cw]at this;exact this
    have bd:B3 (Lw l ca.heap.size (.slice e i g) F/\F.map Mb.N=oH s d/\(nB' F).Nodup/\(kB F).Nodup):=⟨ao,cw,List.nodup_iff_count.2 fun fx=>bL (am fx) (List.nodup_iff_count.1 (List.nodup_append.1 fz).1 fx),ev⟩;rw[c3];have ba:=cK l (.cells #[.slice e i g] 26);have ec:S w.heap.size w (l.alloc (.cells #[.slice e i g] 26)):=eh.trans (ba.mono eh.size);have bh:=a0.below ec (ag _);have gu:(oH s d).length<=1048576:=by
     have:=m.1.sz;unfold oH;rw[Fo.flat_len,bm];omega
    obtain⟨hp,f5,eq⟩:=bh.lay.tabs.word;have dn:=Kt (l.alloc (.cells #[.slice e i g] 26)) (.slice e i g) (oH s d) (fg.below ba) gu m.1.sm bh.lay.errs hp f5 eq (fun hH gd=>zn bh.asc gd (ag _));have cz:=aA l (.cells #[.slice e i g] 26);have c5:=(ba.block _ (ai e5)).trans e5;have i6:(l.alloc (.cells #[.slice e i g] 26)).heap.size=l.heap.size+1:=cD _ _;have bc:B3 (okC (oH s d)=(if(dd (oH s d)).1=0 then 0 else 2)/\okN (oH s d)=(if(dd (oH s d)).1=0 then oH s d else [])):=⟨rfl,rfl⟩;obtain⟨fq,c9⟩:=az ((dd (oH s d)).1);obtain⟨kb,e6⟩:=az ((dd (oH s d)).2);rw[c9]at bc;simp only[c9,e6]at dn;have i1:∀(fu hr:B0)(w:A9),(Instr.field 36 (.agg #[fu,hr]) 0).run M w= .ok fu w:=fun _ _ _=>by kernel_rfl
    clear fd ao cw am ge ev bn gt fg eq c9 e6 bh c3;go_wp2_with fail;refine dn.mono ?_;rintro b x ⟨rfl,a3⟩;have es:=(a3.block _ (ai cz)).trans cz;have b1:=(a3.block _ (ai c5)).trans c5;have ef:S w.heap.size w x:=ec.trans (a3.mono (by omega));have i7:=a3.size;have gs:∀k,k<l.heap.size->x.heap[k]?=l.heap[k]?:=fun k u=>(a3.block k (by omega)).trans (ba.block k u);obtain⟨hJ,hK,h7,h8⟩:=row3 b1;have j9:x.cell? ⟨l.heap.size,0,Q⟩=U (.slice e i g):=by rw[au _ _ _ _ _ _ es];rfl
    have i4:w.heap.size≠l.heap.size:=by omega
    have i5:=ai b1;clear dn cz c5 ba es;by_cases a4:fq=0
    ·subst a4;go_wp2_with fail;refine lI (f:=18) (args:=#[.pointer (U ⟨w.heap.size,0,Q⟩)]) (by simp) (by simp[go_sem]) ?_;refine(acw ⟨w.heap.size,0,Q⟩ _).mono ?_;rintro b d6 d7 ⟨rfl,rfl,rfl⟩;have A:=adH b1 (.int .i64 0) (.int .i64 0) (.slice e i g);have H:=E9 ef (.int .i64 0) (.int .i64 0) (.slice e i g);have et:∀k,k≠w.heap.size->_:=fun k u=>ako (w:=x) (r:=w.heap.size) (k:=k) u (.int .i64 0) (.int .i64 0) (.slice e i g);have fa:x.heap.size<=(((x.setCell ⟨w.heap.size,0,Q⟩ (.int .i64 0)).setCell ⟨w.heap.size,1,Q⟩ (.int .i64 0)).setCell ⟨w.heap.size,2,Q⟩ (.slice e i g)).heap.size:=by simp[World.setCell]
     generalize ((x.setCell ⟨w.heap.size,0,Q⟩ (.int .i64 0)).setCell ⟨w.heap.size,1,Q⟩ (.int .i64 0)).setCell ⟨w.heap.size,2,Q⟩ (.slice e i g)=a2 at A H et fa⊢;have ar:=cK a2 (.cells #[.int .i64 0] 61);have j0:=H.size;have i8:x.heap.size<=a2.heap.size:=fa;have b:=bc.out;rw[ab trivial,ab trivial]at b;have dq:Lw (a2.alloc (.cells #[.int .i64 0] 61)) ca.heap.size (.slice e i g) F:=bd.1.mono fun k ii f6=>(ar.block k (by omega)).trans ((et k (by omega)).trans (gs k f6));refine⟨_,eu rfl _ _ w.heap.size _ _ _ _ rfl ((ar.block _ (ai A)).trans A) Tryz.underlying28 rfl (by kernel_rfl),show PiP w c a ns _ _ from ?_⟩;rw[m.out.2.1,m.out.2.2.1,m.out.2.2.2.1,b.1,b.2];exact⟨_,F,rfl,bd.2.1,amK ⟨nI dq.row (by omega),fun d8 b7=>⟨nI (dq.each d8 b7).1 (by omega),nI (dq.each d8 b7).2 (by omega)⟩⟩ bd.2.2.1 bd.2.2.2,H.trans (ar.mono (by omega))⟩
    ·have an:(fq==0)=B6:=by simpa using a4
     have L:B3 (okC (oH s d)=2/\okN (oH s d)=[]):=by
      have b:=bc.out;rw[aa a4,aa a4]at b;exact b
     clear a4 bc;go_wp2_with fail;refine lI (f:=18) (args:=#[.pointer (U ⟨w.heap.size,0,Q⟩)]) (by simp) (by simp[go_sem]) ?_;refine(acw ⟨w.heap.size,0,Q⟩ _).mono ?_;rintro b d6 d7 ⟨rfl,rfl,rfl⟩;have A:=adH b1 (.int .i64 2) (.int .i64 0) (.slice Q 0 0);have H:=E9 ef (.int .i64 2) (.int .i64 0) (.slice Q 0 0);generalize ((x.setCell ⟨w.heap.size,0,Q⟩ (.int .i64 2)).setCell ⟨w.heap.size,1,Q⟩ (.int .i64 0)).setCell ⟨w.heap.size,2,Q⟩ (.slice Q 0 0)=a2 at A H⊢;have ar:=cK a2 (.cells #[.int .i64 0] 61);refine⟨_,eu rfl _ _ w.heap.size _ _ _ _ rfl ((ar.block _ (ai A)).trans A) Tryz.underlying28 rfl (by kernel_rfl),show PiP w c a ns _ _ from ?_⟩;rw[m.out.2.1,m.out.2.2.1,m.out.2.2.2.1,L.out.1,L.out.2];exact⟨_,[],rfl,rfl,Bv _ _ _,H.trans (ar.mono H.size)⟩
   ·have c7:=(af.block w.heap.size (by omega)).trans ((J.block _ e9).trans a5);have bo:S w.heap.size w v:=(B.trans (J.mono B.size)).trans (af.mono (by omega));have bD:(feedL d3 6).2=B6:=by rw[<-y.out.2.2.2.1.may (by decide) (by decide)];exact bF
    obtain⟨rfl,rfl,rfl⟩:=bf.at_of (z:=(s.size:Nat)) (by omega) (by omega) (by unfold rF;rw[y.out.2.2.1,aa (by simp),aa (by rw[bD];simp)]);refine lI (f:=18) (args:=#[.pointer (U ⟨w.heap.size,0,Q⟩)]) (by simp) (by simp[go_sem]) ?_;refine(acv w.heap.size _ _ _ _ v c7).mono ?_;rintro b d6 d7 ⟨rfl,rfl,a6,fF⟩;have g5:=Bq E (s.extract s.size s.size);rw[iJ]at g5;exact⟨_,eu rfl _ _ w.heap.size _ _ _ _ rfl a6 Tryz.underlying28 rfl (by kernel_rfl),⟨_,[],by unfold psV;simp only[lG];rw[show xb E (s.extract s.size s.size)=0 by omega,Int.natCast_zero,Int.add_zero],rfl,Bv _ _ _,bo.trans fF⟩⟩
  ·have B:S w.heap.size w o:=cn.trans (ad.mono (by omega));have a5:=(ad.block w.heap.size (by omega)).trans c6;obtain⟨rfl,rfl,rfl⟩:=bf.at_of (by omega) a7.bad (by unfold rF;rw[ab a7.bad]);refine lI (f:=18) (args:=#[.pointer (U ⟨w.heap.size,0,Q⟩)]) (by simp) (by simp[go_sem]) ?_;refine(acv w.heap.size _ _ _ z o a5).mono ?_;rintro b d6 d7 ⟨rfl,rfl,g1,fB⟩;exact⟨_,eu rfl _ _ w.heap.size _ _ _ _ rfl g1 Tryz.underlying28 rfl (by kernel_rfl),⟨_,[],by rw[<-a7.at_];rfl,rfl,Bv _ _ _,B.trans fB⟩⟩
theorem aj4{a:Int}(h:1<=a/\a<=18):((vL a).2=(vL a).1+1/\(vL a).1≠4/\1<=(vL a).1/\(vL a).1<=10)\/((vL a).1=4/\(vL a).2=4):=by
 unfold vL
 repeat' split
 all_goals first|(left;exact⟨rfl,by decide,by decide,by decide⟩)|(right;exact⟨rfl,rfl⟩)
theorem zA(h:gy N.k=Bs):N.k=28\/N.k=29\/N.k=31:=by unfold gy at h;simp at h;omega
theorem uw(h:gy N.k=Bs)(a:N.k=31->1<=N.op/\N.op<=18):((jm N=mj N+1/\mj N≠4/\1<=mj N/\mj N<=10)\/(mj N=4/\jm N=4))/\iD N.k N.op=mj N/\tj N.k N.op=jm N:=by
 unfold mj jm iD tj;rcases zA h with e|e|e
 ·rw[e];exact⟨.inl ⟨rfl,by simp,by simp,by simp⟩,rfl,rfl⟩
 ·rw[e];exact⟨.inl ⟨rfl,by simp,by simp,by simp⟩,rfl,rfl⟩
 ·rw[e];exact⟨aj4 (a e),rfl,rfl⟩
theorem ahC{a:Nd}(h:gy a.k=B6):11<=iD a.k a.op:=by
 unfold gy at h;simp at h;unfold iD;rw[aa (by omega),aa (by omega),aa (by omega)];split<;>omega
theorem aj5(a:List Nd)(E:Int->ByteArray)(N:Nd)(q:Int)(f:gy N.k=Bs)(h:N.k=31->1<=N.op/\N.op<=18)(g:(ae a q).k=31->1<=(ae a q).op/\(ae a q).op<=18):
  (if acs N (ae a q)=Bs then gi (E q) else E q)=po a E q (Ae N (iD N.k N.op)):=by
 obtain⟨l,d,e⟩:=uw f h;unfold po Ae acs;rw[d,e];cases hM:gy (ae a q).k with
 |false=>
  have:=ahC hM;rw[aa (by simp),aa];split<;>omega
 |true=>
  obtain⟨i,c,j⟩:=uw hM g;rw[c];by_cases b:jm (ae a q)<=mj N
  ·rw[ab (by simp[b]),ab];split<;>omega
  ·rw[aa (by simp[b]),aa];split<;>omega
theorem ahD(a:List Nd)(E:Int->ByteArray)(N:Nd)(q:Int)(e:gy N.k=Bs)(g:N.k=31->1<=N.op/\N.op<=18)(f:(ae a q).k=31->1<=(ae a q).op/\(ae a q).op<=18):
  (if Hw N (ae a q)=Bs then gi (E q) else E q)=po a E q (tj N.k N.op):=by
 obtain⟨j,l,d⟩:=uw e g;unfold po Hw;rw[d];cases hM:gy (ae a q).k with
 |false=>
  have:=ahC hM;rw[aa (by simp),aa (by omega)]
 |true=>
  obtain⟨h,c,i⟩:=uw hM f;rw[c];by_cases b:mj (ae a q)<jm N
  ·rw[ab (by simp[b]),ab b]
  ·rw[aa (by simp[b]),aa b]
theorem aoj(a:List Nd)(E:Int->ByteArray)(N:Nd)(q:Nat)(b:dG N 0=(q:Int))(h:19<=N.op/\N.op<=22)(c:(ae a q).k=31->1<=(ae a q).op/\(ae a q).op<=18):
  Ea N.op++(if(decide (N.op=19)&&GC (ae a q))=Bs then⟨#[32]⟩ else O)++(if gy (ae a q).k=Bs then gi (E q) else E q)=unB a E N:=by
 unfold unB;rw[b]
 congr 1
 ·unfold Ea unS;rw[b];rcases(show N.op=19\/N.op=20\/N.op=21\/N.op=22 by omega) with e|e|e|e
  ·rw[e];cases hn:GC (ae a q)<;>simp
  ·rw[e];simp
  ·rw[e];simp
  ·rw[e];simp
 ·unfold po;cases hM:gy (ae a q).k with
  |false=>
   have:=ahC hM;rw[aa (by simp),aa (by omega)]
  |true=>
   obtain⟨d,f,g⟩:=uw hM c;rw[ab rfl,ab (by omega)]
theorem acx{a:Int}(h:1<=a/\a<=18):fy (60+a)=pG (60+a):=by
 obtain⟨b,c⟩:=h;rcases(show a=1\/a=2\/a=3\/a=4\/a=5\/a=6\/a=7\/a=8\/a=9\/a=10\/a=11\/a=12\/a=13\/a=14\/a=15\/a=16\/a=17\/a=18 by omega) with rfl|rfl|rfl|rfl|rfl|rfl|rfl|rfl|rfl|rfl|rfl|rfl|rfl|rfl|rfl|rfl|rfl|rfl;all_goals decide+kernel
theorem aj6(h:N.k=28):zz N=⟨#[32,97,110,100,32]⟩:=by unfold zz kC;rw[ab h];decide+kernel
theorem am0(h:N.k=29):zz N=⟨#[32,111,114,32]⟩:=by unfold zz kC;rw[aa (by omega),ab h];decide+kernel
theorem aj7(h:N.k=31)(a:1<=N.op/\N.op<=18):zz N=⟨#[32]⟩++pG (60+N.op)++⟨#[32]⟩:=by unfold zz kC;rw[aa (by omega),aa (by omega),ab h,acx a]
theorem aj8(b:N.k=31->1<=N.op/\N.op<=18):kC N<=100/\0<=kC N:=by
 unfold kC;by_cases a:N.k=31
 ·have:=b a;rw[aa (by omega),aa (by omega),ab a];omega
 ·split
  ·omega
  ·split
   ·omega
   ·omega
theorem ad9(b:gy N.k=Bs)(c:N.k=31->1<=N.op/\N.op<=18):(fy (kC N)).size<=100:=by
 rcases zA b with e|e|e
 ·unfold kC;rw[ab e];decide+kernel
 ·unfold kC;rw[aa (by omega),ab e];decide+kernel
 ·have a:=c e;unfold kC;rw[aa (by omega),aa (by omega),ab e,acx a];have:=Dj a;omega
theorem Ia(x:ByteArray):cC [x]=x:=by rw[E7];show x++O=x;exact ByteArray.append_empty
theorem am1(N:Nd):⟨#[40]⟩++cC (nF N)++⟨#[41]⟩++⟨#[32]⟩=adp N:=by
 unfold adp nF;by_cases b:N.op=1
 ·rw[ab b,ab b,adG];by_cases a:N.nm=[]
  ·rw[ab a,ab a,a];show(⟨#[40]⟩++aap)++⟨#[41]⟩++⟨#[32]⟩=⟨#[40]⟩++O++⟨#[46,46,46]⟩++⟨#[41,32]⟩;decide+kernel
  ·rw[aa a,aa a];have c:(⟨#[41]⟩:ByteArray)++⟨#[32]⟩=⟨#[41,32]⟩:=by decide+kernel
   rw[<-c];unfold aap;simp only[bq]
 ·rw[aa b,aa b];have c:(⟨#[41]⟩:ByteArray)++⟨#[32]⟩=⟨#[41,32]⟩:=by decide+kernel
  rw[<-c,show ∀d:ByteArray,d++O=d from fun d=>ByteArray.append_empty];simp only[bq]
theorem ahE(h:oF ns N=Bs)(e:N.nm.length<=200):(cC (nF N)).size<=1000000:=by
 have b:∀a∈nF N,a.size<=4000:=by
  intro a hs;unfold nF at hs;split at hs
  ·rcases List.mem_append.1 hs with hs|hs
   ·exact rE h a hs
   ·obtain rfl:=List.mem_singleton.1 hs;decide
  ·exact rE h a hs
 have c:=yv _ b;have d:(nF N).length<=201:=by
  unfold nF;split
  ·rw[aK];show _+1<=_;omega
  ·omega
 omega
theorem yB{ks:List Int}(E:Int->ByteArray){q:Int}(b:ks.length=1)(c:ks[0]?=U q):cC (ks.map E)=E q:=by
 match ks,b with
 |[a],_=>
  obtain rfl:a=q:=by simpa using c
  exact Ia _
section
variable (w0 : World) (vb : Nat) (L : List Im) (t : Nat)
inductive MV (N:Nd) (i:Nat):FuncId->ByteArray->Prop
 |flt:Hid (N.k=24)->MV N i 60 N.x
 |nam:Hid (N.k=26)->MV N i 62 N.x
 |str:Hid (N.k=25)->MV N i 61 (fG (oJ N.x))
 |nmd {X:ByteArray}:Hid (N.k=42)->LX w0 vb L t N.ks X->MV N i 74 (⟨#[46]⟩++N.x++⟨#[32,61,32]⟩++X)
 |fld {q:Nat}{E:ByteArray}:Hid (N.k=33)->N.ks[0]?=some (q:Int)->Hid (VX w0 vb L t 124 q E)->MV N i 67 (E++(⟨#[46]⟩++N.x))
 |int_:Hid (N.k=23)->Cw w0-> -9223372036854775808<=N.n->N.n<=9223372036854775807->MV N i 59 (Cy N.n)
 |set {m:Nat}{X Z:ByteArray}:Hid (N.k=5)->Hid (N.n=(m:Int))->1<=m/\m<N.ks.length->LX w0 vb L t (N.ks.take m) X->LX w0 vb L t (N.ks.drop m) Z->MV N i 44 (X++(⟨#[32,61,32]⟩++Z))
end
theorem m_v{a:A9}{j:Nat}{y:List Im}{base:Nat}{a4:B0}(G:Tp a ns y base a4)(bx:t<=100000)(ap:i<ns.length)(al:ae ns i=N)(br:N.ks.length<=1048576)(av:N.x.size<=4000){f:FuncId}{H:ByteArray}(am:MV a j y t N i f H):
  Pw a j f #[vP j,gG a t,nV (lj y i)] H:=by
 intro ad c e;obtain⟨n,a3,a8,B,r,z,g⟩:=vF G ap;rw[al]at z g;have A:=fun c=>da n c;have bs:=fun c=>pq a.heap.size (eB t) c;have bw:=fun c=>xa a.heap.size (eB t) c;have bt:=g.hn;have J:=fun c=>py (de N.k) n c;have E:B3 (∀h:ByteArray,h.size<=100000000->Pw a j 335 #[na a t,A2 h] h):=fun h e=>jB a j t h e;have F:B3 (∀(h m:ByteArray)(v:B0),h.size<=100000000->B3 (Pw a j 114 #[vP j,gG a t,v] m)->Pw a j 112 #[vP j,gG a t,A2 h,v] (h++m)):=fun h m v e ak=>mE a j t h m e v ak;have bA:=fun b (l:S a.heap.size a b)=>(g.cells l).2.1;have p:=e.pg.bel;have P:B3 (Pq a j c ad c):=⟨e,Kq.refl _ _⟩;have K:=aq g;have u:N.x.size<=1000000:=by omega
 cases am
 case' str e=>
  have w:B3 (∀b,S a.heap.size a b->B1 M 118 #[A2 N.x] b fun o C=>o= Br (A2 (fG (oJ N.x)))/\S b.heap.size b C):=fun b l=>aaB N.x av b;have I:=yE N.x;unfold aey at I;have ar:(fG (oJ N.x)).size<=100000000:=by omega
  generalize fG (oJ N.x)=a2 at *
 case' int_ e hLay h0 h1=>
  have w:B3 (∀b,S a.heap.size a b->B1 M 117 #[Ax A0 N.n] b fun o C=>o= Br (A2 (Cy N.n))/\S b.heap.size b C):=fun b l=>Jv N.n h0 h1 b (hLay.below l (ag _));have I:=E5 N.n h1;have ar:(Cy N.n).size<=100000000:=by omega
  have q:de N.k=2:=by rw[e.out];rfl
  generalize Cy N.n=a2 at *
 case' set d m Z e hm h1 hX hZ=>
  have q:de N.k=1:=by rw[e.out];rfl
  obtain⟨a0,rfl,ao, -⟩:=g.ks.get (aJ (show 0<N.ks.length by omega));have L:=aq (hX _ (g.ks.take d (by omega)));have a7:=aq (hZ _ (g.ks.drop d (B-d) (by omega) (by omega)));have bf:¬r=0:=by omega
  have bh:(d:Int)<=(r:Int):=by omega
  have bk:¬r=d:=by omega
  have bl:(0:Int)<=(d:Int):=by omega
  have bn:(d:Int)<=(B:Int):=by omega
  have an:d<=B/\d<=r:=by omega
  obtain⟨_,_⟩:=an
 case' nmd hX=>have L:=aq (hX _ g.ks)
 all_goals
  try (have q:de N.k=3:=by rw[(by with_reducible assumption:B3 (N.k=_)).out];rfl)
  have a1:=fun b (l:S a.heap.size a b)=>(g.cells l).2.2 _ (show(Kw N a3 (de N.k))[0]?=U _ by rw[q];rfl);try (rw[(by with_reducible assumption:B3 (N.n=_)).out]at a1)
  try (have a6:=g.ks.get (by with_reducible assumption:N.ks[_]?=U _);obtain⟨a0,rfl,ao, -⟩:=a6)
  (try have bE:=K.kid0 (by with_reducible assumption))
  try (have bo:=qC (by with_reducible assumption:N.ks[0]?=U _))
  rw[z,q];rw[q]at J;simp only[jy]at J⊢;have bb:=fun c=>ao5 n c;have bc:=fun c=>ao6 n c;have bd:=fun c=>ao7 n c;have a9:∀k:Nat,k<=100->¬9223372036854775807<k+N.x.size:=fun k _=>by omega
  have ba:∀k d:Nat,k<=100->d<=100->¬9223372036854775807<k+N.x.size+d:=fun k d _ _=>by omega
  try unfold VX at *
  unfold gG na at *;generalize eB t=bD at *;clear e g z G;go_in
  repeat' (go_wp2_with (first|(go_at_call 336;refine dB (A _) ?_)|((first|go_at_call 118|go_at_call 117);refine(w.out _ p).mono ?_;rintro o a5 ⟨rfl,s⟩;have P:=aq (P.below s);have p:=P.ps.pg.bel));first|(refine Pq.stp P (ah _ _) (by with_reducible first|assumption|exact aq (E.out _ (by first|assumption|decide|omega|exact sz2 (by decide) u))|exact aq (F.out _ _ _ (by first|decide|exact sz3 (by decide) u (by decide)) (by assumption))) ?_;intro b P p)|(go_region_held3 (fun af=>S a.heap.size a af) (first|exact(P.below (aw (ah _ _))).ps.pg.bel|exact((P.below (aw (ah _ _))).below s).ps.pg.bel|exact p|go_keep) (first|(go_at_call 336;refine dB (A _) ?_)|((first|go_at_call 118|go_at_call 117);refine(w.out _ (P.below (aw (ah _ _))).ps.pg.bel).mono ?_;rintro o a5 ⟨rfl,s⟩)|(refine Pq.stp P (by first|exact aw (ah _ _)|exact(aw (ah _ _)).trans s) (by with_reducible first|assumption|exact aq (E.out _ (by first|assumption|decide|omega|exact sz2 (by decide) u))|exact aq (F.out _ _ _ (by first|decide|exact sz3 (by decide) u (by decide)) (by assumption))) ?_;intro b P p))))
  all_goals
   go_wp2_with (go_at_call 336;refine dB (A _) ?_);go_end0
   exact Pq.fin P (by simp only[bq])
structure Cx (w0:A9) (ns:List Nd) (L:List Im) (base:Nat) (vs:B0):Prop where
 tp:Tp w0 ns L base vs
 pow:th w0
 lay:Cw w0
 sz:Szd ns
 len:ns.length<=3000
 n0:∀i:Int, -9223372036854775808<=(ae ns i).n
 n1:∀i:Int,(ae ns i).n<=9223372036854775807
structure VA (w0:A9) (vb:Nat) (ns:List Nd) (L:List Im) (f:Nat):Prop where
 e:∀(z t:Nat),z<f->z<ns.length->fe (ae ns z).k=Bs->t+f<=50000->DF w0 vb L t z (rI ns f z t)
 s:∀(z t:Nat),z<f->z<ns.length->jj (ae ns z).k=Bs->t+f<=50000->DF w0 vb L t z (rJ ns f z t)
 b:∀(z t:Nat)(word:ByteArray),z<f->z<ns.length->(ae ns z).k=7->t+f<=50000->word.size<=100->Pw w0 vb 115 #[vP vb,gG w0 t,.string word,nV (lj L z)] (yk ns f z word t)
theorem VA.zero(e:A9)(d:Nat)(c:List Nd)(b:List Im):VA e d c b 0:=⟨fun _ _ a=>absurd a (by omega),fun _ _ a=>absurd a (by omega),fun _ _ _ a=>absurd a (by omega)⟩
section
variable {w0 : World} {vb : Nat} {ns : List Nd} {L : List Im} {base : Nat} {vs : Value} {f : Nat}
theorem Cx.op(C:Cx w0 ns L base vs):∀j:Nat,j<ns.length->(ae ns j).k=31->1<=(ae ns j).op/\(ae ns j).op<=18:=fun j b a=>(mF (jC (C.sz.nb j b)).1).2.2 a
theorem Ef(C:Cx w0 ns L base vs)(V:VA w0 vb ns L f)(n:q<=f)(a:q<ns.length)(d:(ae ns q).k=1)(o:t+f<50000):DF w0 vb L t q (Az (fun k t=>rJ ns f k t) (ae ns q).ks t):=by
 obtain⟨i,m⟩:=jC (C.sz.nb q a);have g:=yu i d;refine rK 1 C.tp a d (ajC w0 vb ns L base vs C.tp t (by omega) q a _ rfl (by omega) (fun k t=>rJ ns f k t) (fun p j=>?_));obtain⟨e,h,rfl⟩:=oy j;obtain⟨l,b⟩:=gB (C.sz.nb q a) a e h;have c:=J9 _ 0 g e (by omega) (by omega);rw[b.id]at c⊢;exact V.s l (t+1) (by have:=b.lt;omega) b.len c (by omega)
theorem ox(C:Cx w0 ns L base vs)(V:VA w0 vb ns L f)(e:i<ns.length)(q:i<=f)(n:t+f<=50000){a m:Nat}(h:∀j,a<=j->j<a+m->fe (ae ns (dG (ae ns i) j)).k=Bs)(r:a+m<=(ae ns i).ks.length):∀z∈((ae ns i).ks.drop a).take m,DF w0 vb L t z (rI ns f z t):=by
 intro z o;obtain⟨j,l,c⟩:=ie o;rw[eD,ep]at l;rw[List.getElem_take,List.getElem_drop]at c;obtain⟨p,b⟩:=gB (C.sz.nb i e) e (a+j) (by omega);have g:=Di (N:=ae ns i) (j:=a+j) (by omega);rw[g,b.id]at c;have d:=h (a+j) (by omega) (by omega);rw[b.id]at d;rw[<-c];exact V.e p t (by have:=b.lt;omega) b.len d n
theorem Ag{a:List Int}(h:∀z∈a,DF w0 vb L t z (rI ns f z t))(b:a.length<=1048576):∀v,qF w0 L v a->Pw w0 vb 114 #[vP vb,gG w0 t,v] (cC (a.map fun k=>rI ns f k t)):=fun v c=>J8 w0 vb L t a v c b _ h
theorem bsV(C:Cx w0 ns L base vs)(V:VA w0 vb ns L f)(c:q<f)(a:q<ns.length)(b:fe (ae ns q).k=Bs)(d:t+f<=50000):Pw w0 vb 124 #[vP vb,gG w0 t,nV (lj L q)] (bsB ns (fun k=>rI ns f k t) q):=by
 have:=adE w0 vb ns L base vs C.tp t q a _ (V.e q t c a b d);unfold bsB;exact this
theorem aok(C:Cx w0 ns L base vs)(V:VA w0 vb ns L f)(n:q<=f)(b:q<ns.length)(e:(ae ns q).k=36)(h:t+f<50000):Pw w0 vb 113 #[vP vb,gG w0 t,nV (lj L q)] (JB ns (fun k t=>rJ ns f k t) (ae ns q) t):=by
 obtain⟨g,m⟩:=jC (C.sz.nb q b);obtain⟨j,c,d,l⟩:=agr g e;obtain⟨i,a⟩:=gB (C.sz.nb q b) b 0 (by omega);rw[a.id]at c;have:=al8 w0 vb ns L base vs C.tp t (by omega) q b _ rfl e (by omega) d (ahE g d) i a.at_ _ (Ef C V (by have:=a.lt;omega) a.len c h);unfold JB;rw[a.id,<-am1];exact this
theorem apq(C:Cx w0 ns L base vs)(V:VA w0 vb ns L f)(v:q<=f)(c:q<ns.length)(J:40<=(ae ns q).k/\(ae ns q).k<=42)(l:t+f<=50000):DF w0 vb L t q (Ay ns (fun k=>rI ns f k t) (ae ns q)):=by
 obtain⟨w,K⟩:=jC (C.sz.nb q c);have G:=wL (C.sz.nb q c);have p:=fun h F=>gB (C.sz.nb q c) c h F;unfold Ay;by_cases o:(ae ns q).k=41
 ·rw[ab o];obtain⟨j,d,B⟩:=mF w;obtain⟨a,b⟩:=p 0 (by omega);obtain⟨r,s⟩:=p 1 (by omega);have y:=gA 2 0 d 0 (by omega) (by omega);have H:=b.lt;have e:=ox C V (t:=t) c v l (a:=1) (m:=1) (fun h z A=>by have n:h=1:=(by omega);subst n;exact gA 2 0 d 1 (by omega) (by omega)) (by omega);rw[cA (by rw[ep];omega)]at e;have g:=If C.tp (by omega) c rfl (by omega) (.par j b.at_ (ab7 w0 vb t _ _ (V.e a t (by omega) b.len (by rw[<-b.id];exact y) l)) (Ag e (by rw[ep];omega)));have E:((ae ns q).ks.drop 1).map (fun k=>rI ns f k t)=[rI ns f r t]:=by
   have u:=s.at_
   match hks:(ae ns q).ks,j with
   |[ad,I],_=>
    rw[hks]at u;obtain rfl:I=(r:Int):=by simpa using u
    rfl
  rw[E,Ia]at g;rw[b.id,s.id];have x:(⟨#[93]⟩:ByteArray)++⟨#[32,61,32]⟩=⟨#[93,32,61,32]⟩:=by decide+kernel
  rw[<-x];have:=rK 41 C.tp c o g;simpa only[bq] using this
 rw[aa o];obtain⟨j,d,B⟩:=oa w (show _ by omega);obtain⟨a,b⟩:=p 0 (by omega);have H:=b.lt;rw[b.id]at d;by_cases i:(ae ns q).k=42
 ·rw[ab i];have e:=ox C V (t:=t) c v l (a:=0) (m:=1) (fun h z A=>by have n:h=0:=(by omega);subst n;rw[b.id];exact d) (by omega);rw[ey,cA (by omega)]at e;have g:=m_v C.tp (by omega) c rfl (by omega) G (.nmd i (Ag e (by omega)));rw[yB _ j b.at_]at g;rw[b.id];exact rK 42 C.tp c i g
 ·rw[aa i,b.id];exact rK 40 C.tp c (by omega) (If C.tp (by omega) c rfl (by omega) (.itm b.at_ (V.e a t (by omega) b.len d l)))
theorem aol(C:Cx w0 ns L base vs)(V:VA w0 vb ns L f)(an:i<=f)(b:i<ns.length)(ao:fe (ae ns i).k=Bs)(ap:t+f<50000):DF w0 vb L t i (prE ns (fun q=>rI ns f q t) (fun q t=>rJ ns f q t) (ae ns i) t):=by
 obtain⟨p,a5⟩:=jC (C.sz.nb i b);have J:=wL (C.sz.nb i b);have l:=fun v af=>gB (C.sz.nb i b) b v af;have g:(ae ns i).ks.length<=1048576:=by omega
 have h:t<=100000:=by omega
 have a4:=aH ao;have al:gy (ae ns i).k=Bs->Pw w0 vb 64 #[vP vb,gG w0 t,nV (lj L i)] (GA ns (fun q=>rI ns f q t) (ae ns i) (zz (ae ns i)) (iD (ae ns i).k (ae ns i).op)):=by
  intro A;have a3:=zA A;obtain⟨o,d,u⟩:=mF p;obtain⟨a,c⟩:=l 0 (by omega);obtain⟨r,j⟩:=l 1 (by omega);have n:=gA 2 0 d 0 (by omega) (by omega);have z:=gA 2 0 d 1 (by omega) (by omega);rw[c.id]at n;rw[j.id]at z;have E:=c.lt;have a1:=j.lt;have B:=aj1 w0 vb ns L base vs C.tp C.pow C.lay.tabs t i b A C.op a c.at_ c.len _ (V.e a t (by omega) c.len n (by omega)) r j.at_ j.len _ (V.e r t (by omega) j.len z (by omega)) (aj8 (C.op i b)) (ad9 A (C.op i b));rw[aj5 ns (fun q=>rI ns f q t) _ (a:Int) A (C.op i b) (C.op a c.len),ahD ns (fun q=>rI ns f q t) _ (r:Int) A (C.op i b) (C.op r j.len)]at B;unfold GA;rw[c.id,j.id];exact B
 unfold prE;by_cases w:(ae ns i).k=28
 ·rw[ab w,<-aj6 w];exact rK 28 C.tp b w (al (by rw[w];rfl))
 rw[aa w];by_cases x:(ae ns i).k=29
 ·rw[ab x,<-am0 x];exact rK 29 C.tp b x (al (by rw[x];rfl))
 rw[aa x];by_cases s:(ae ns i).k=31
 ·rw[ab s,<-aj7 s (C.op i b s)];exact rK 31 C.tp b s (al (by rw[s];rfl))
 rw[aa s];by_cases y:(ae ns i).k=30
 ·rw[ab y];obtain⟨o,d,u⟩:=oa p;obtain⟨a,c⟩:=l 0 (by omega);have E:=c.lt;rw[c.id]at d;have B:=ahB w0 vb ns L base vs C.tp C.pow t i b y C.op a c.at_ c.len _ (V.e a t (by omega) c.len d (by omega));rw[aoj ns (fun q=>rI ns f q t) _ a c.id (u y) (C.op a c.len)]at B;exact rK 30 C.tp b y B
 rw[aa y];by_cases ad:(ae ns i).k=32
 ·rw[ab ad];obtain⟨o,d,u⟩:=mF p;obtain⟨a,c⟩:=l 0 (by omega);obtain⟨r,j⟩:=l 1 (by omega);have n:=gA 2 0 d 0 (by omega) (by omega);have z:=gA 2 0 d 1 (by omega) (by omega);have E:=c.lt;have a1:=j.lt;rw[c.id]at n⊢;rw[j.id]at z⊢;have:=rK 32 C.tp b ad (If C.tp h b rfl g (.ind c.at_ j.at_ (bsV C V (by omega) c.len n (by omega)) (ab7 w0 vb t _ _ (V.e r t (by omega) j.len z (by omega)))));simpa only[bq] using this
 rw[aa ad];by_cases F:(ae ns i).k=33
 ·rw[ab F];obtain⟨o,d,u⟩:=oa p;obtain⟨a,c⟩:=l 0 (by omega);have E:=c.lt;rw[c.id]at d⊢;exact rK 33 C.tp b F (m_v C.tp h b rfl g J (.fld F c.at_ (bsV C V (by omega) c.len d (by omega))))
 rw[aa F];by_cases G:(ae ns i).k=34
 ·rw[ab G];obtain⟨o,d⟩:=Hf p G;obtain⟨a,c⟩:=l 0 (by omega);have E:=c.lt;have n:=gA _ 0 d 0 (by omega) (by omega);have am:=ox C V (t:=t) b an (by omega) (a:=1) (m:=(ae ns i).ks.length-1) (fun v u a2=>gA _ 0 d v (by omega) (by omega)) (by omega);rw[cA (by rw[ep];exact ag _)]at am;rw[c.id]at n⊢;exact rK 34 C.tp b G (m_d C.tp h b rfl g (.call c.at_ (bsV C V (by omega) c.len n (by omega)) (Ag am (by rw[ep];omega))))
 rw[aa G];by_cases H:(ae ns i).k=35
 ·rw[ab H];have o:=Dd p H;unfold afx;refine rK 35 C.tp b H (m_d C.tp h b rfl g (.tab (fun a0 ar=>J8 w0 vb L t _ a0 ar g (fun k=>Ay ns (fun q=>rI ns f q t) (ae ns k)) (fun a7 av=>?_))));obtain⟨v,af,rfl⟩:=oy av;obtain⟨a6,ak⟩:=l v af;have d:=ab4 _ 0 o v (by omega) (by omega);rw[ak.id]at d⊢;exact apq C V (by have:=ak.lt;omega) ak.len d (by omega)
 rw[aa H];by_cases I:(ae ns i).k=36
 ·rw[ab I];exact rK 36 C.tp b I (If C.tp h b rfl g (.fnx (aok C V an b I ap)))
 rw[aa I];by_cases K:(ae ns i).k=37
 ·rw[ab K];obtain⟨o,d,u⟩:=oa p;obtain⟨a,c⟩:=l 0 (by omega);have E:=c.lt;rw[c.id]at d⊢;exact rK 37 C.tp b K (If C.tp h b rfl g (.one c.at_ (yq w0 vb t _ _ (V.e a t (by omega) c.len d (by omega)))))
 rw[aa K];unfold plB;rcases(show(ae ns i).k=20\/(ae ns i).k=21\/(ae ns i).k=22\/(ae ns i).k=23\/(ae ns i).k=24\/(ae ns i).k=25\/(ae ns i).k=26\/(ae ns i).k=27 by omega) with e|e|e|e|e|e|e|e
 ·rw[ab e];exact rK 20 C.tp b e (If C.tp h b rfl g .nil_)
 ·rw[aa (by omega),ab e];exact rK 21 C.tp b e (If C.tp h b rfl g .tru)
 ·rw[aa (by omega),aa (by omega),ab e];exact rK 22 C.tp b e (If C.tp h b rfl g .fls)
 ·rw[aa (by omega),aa (by omega),aa (by omega),ab e];exact rK 23 C.tp b e (m_v C.tp h b rfl g (wL (C.sz.nb i b)) (.int_ e C.lay (C.n0 i) (C.n1 i)))
 ·rw[aa (by omega),aa (by omega),aa (by omega),aa (by omega),ab (by omega)];exact rK 24 C.tp b e (m_v C.tp h b rfl g J (.flt e))
 ·rw[aa (by omega),aa (by omega),aa (by omega),aa (by omega),aa (by omega),ab e];exact rK 25 C.tp b e (m_v C.tp h b rfl g J (.str e))
 ·rw[aa (by omega),aa (by omega),aa (by omega),aa (by omega),ab (by omega)];exact rK 26 C.tp b e (m_v C.tp h b rfl g J (.nam e))
 ·rw[aa (by omega),aa (by omega),aa (by omega),aa (by omega),aa (by omega),aa (by omega),ab e];exact rK 27 C.tp b e (If C.tp h b rfl g .rst)
end
section
variable {w0 : World} {vb : Nat} {ns : List Nd} {L : List Im} {base : Nat} {vs : Value} {f : Nat}
theorem aku(E:Int->ByteArray)(b:0<N.ks.length)(a:N.ks[0]?=U (q:Int)):cC ((N.ks.take 1).map E)=E q:=by
 refine yB E (by rw[eD];omega) ?_;rw[jH,ab (by omega)];exact a
theorem brV(C:Cx w0 ns L base vs)(V:VA w0 vb ns L f)(G:i<=f)(e:i<ns.length)(I:(ae ns i).k=7)(A:t+f<50000)(u:ByteArray)(p:u.size<=100):
  Pw w0 vb 115 #[vP vb,gG w0 t,A2 u,nV (lj L i)] (Cz ns (fun q=>rI ns f q t) (fun q t=>rJ ns f q t) (fun q w=>yk ns f q w t) (ae ns i) u t):=by
 obtain⟨J,al⟩:=jC (C.sz.nb i e);have s:=fun r H=>gB (C.sz.nb i e) e r H;have n:(ae ns i).ks.length<=1048576:=by omega
 have o:t<=100000:=by omega
 obtain⟨af,ak,E,y,F⟩:=agu J I;obtain⟨a,l⟩:=s 0 (by omega);obtain⟨B,d⟩:=s 1 (by omega);have am:=l.lt;have an:=d.lt;have z:=ox C V (t:=t) e G (by omega) (a:=0) (m:=1) (fun r K ad=>by have c:r=0:=(by omega);subst c;exact E) (by omega);rw[ey]at z;have h:=Ag z (by rw[eD];omega);rw[aku _ (by omega) l.at_]at h;rw[d.id]at y;have j:=Ef C V (t:=t) (show B<=f by omega) d.len y A;unfold Cz;rw[l.id,d.id];rcases bj (ae ns i).ks.length 3 with g|g
 ·rw[ab g,show ∀v:ByteArray,v++O=v from fun v=>ByteArray.append_empty];exact b_w C.tp o e rfl n p (.two (by omega) h d.at_ j)
 ·rw[aa (by omega)];obtain⟨x,b⟩:=s 2 (by omega);have wc:=b.lt;rw[b.id]at F⊢;by_cases c:(ae ns x).k=7
  ·rw[ab c];exact b_w C.tp o e rfl n p (.elf (by omega) h d.at_ j b.at_ b.len c (V.b x t _ (by omega) b.len c (by omega) (by decide)))
  ·rw[aa c];exact b_w C.tp o e rfl n p (.els (by omega) h d.at_ j b.at_ b.len c (Ef C V (by omega) b.len (by omega) A))
theorem aom(C:Cx w0 ns L base vs)(V:VA w0 vb ns L f)(r:i<=f)(b:i<ns.length)(bh:jj (ae ns i).k=Bs)(z:t+f<50000):
  DF w0 vb L t i (prS ns (fun q=>rI ns f q t) (fun q t=>rJ ns f q t) (fun _ w=>Cz ns (fun q=>rI ns f q t) (fun q t=>rJ ns f q t) (fun q w=>yk ns f q w t) (ae ns i) w t) (ae ns i) t):=by
 obtain⟨u,bl⟩:=jC (C.sz.nb i b);have v:=fun l bd=>gB (C.sz.nb i b) b l bd;have j:(ae ns i).ks.length<=1048576:=by omega
 have p:t<=100000:=by omega
 have bk:=aH bh;have a7:∀k:Int,k=34->fe k=Bs:=fun k e=>by rw[e];rfl
 have B:(ae ns i).nm.length<=200->(cC (ae ns i).nm).size<=1000000:=fun a8=>by have:=yv _ (rE u);omega
 have bc:(ae ns i).nm.length=1->cC (ae ns i).nm=nm0 (ae ns i):=fun a8=>by
  unfold nm0
  match hn:(ae ns i).nm,a8 with
  |[A],_=>exact Ia A
 unfold prS;by_cases ar:(ae ns i).k=1
 ·rw[ab ar];exact Ef C V r b ar z
 rw[aa ar];by_cases E:(ae ns i).k=2
 ·rw[ab E];obtain⟨h1,c⟩:=aai u E;by_cases x:(ae ns i).ks=[]
  ·rw[ab x,show ∀A:ByteArray,A++O=A from fun A=>ByteArray.append_empty];exact rK 2 C.tp b E (m_n C.tp p b rfl j (by omega) (B c) (.let0 E (by rw[x];rfl)))
  ·rw[aa x];have g:=ox C V (t:=t) b r (by omega) (a:=0) (m:=(ae ns i).ks.length) (fun l o y=>gA _ 0 h1 l (by omega) (by omega)) (by omega);rw[ey,cA (ag _)]at g;exact rK 2 C.tp b E (m_n C.tp p b rfl j (by omega) (B c) (.let1 E (by rcases qd (ae ns i).ks.length with e|e;exact absurd (ia e) x;exact e) (Ag g j)))
 rw[aa E];by_cases I:(ae ns i).k=3
 ·rw[ab I];obtain⟨h1,c,o⟩:=Df u I;obtain⟨a,d⟩:=v 0 (by omega);have g:=ox C V (t:=t) b r (by omega) (a:=0) (m:=1) (fun l an ao=>by have e:l=0:=(by omega);subst e;exact c) (by omega);rw[ey,cA (by omega)]at g;have s:=m_n C.tp p b rfl j (by omega) (B (by omega)) (.cst I (Ag g j));rw[yB _ h1 d.at_,bc o]at s;rw[d.id];exact rK 3 C.tp b I s
 rw[aa I];by_cases J:(ae ns i).k=4
 ·rw[ab J];obtain⟨h1,c,o⟩:=aaj u J;obtain⟨a,d⟩:=v 0 (by omega);have a5:=d.lt;rw[d.id]at c⊢;have s:=m_n C.tp p b rfl j (by omega) (B (by omega)) (.fns J d.at_ (aok C V (by omega) d.len c z));rw[bc o]at s;exact rK 4 C.tp b J s
 rw[aa J];by_cases K:(ae ns i).k=5
 ·rw[ab K];obtain⟨h1,c,o,y⟩:=agt u K;obtain⟨m,s⟩:∃m:Nat,(ae ns i).n=(m:Int):=⟨(ae ns i).n.toNat,by omega⟩;have bf:(ae ns i).n.toNat=m:=by omega
  rw[bf]at o y⊢;have a9:=ox C V (t:=t) b r (by omega) (a:=0) (m:=m) (fun l a3 a4=>agq _ 0 o l (by omega) (by omega)) (by omega);rw[ey]at a9;have ba:=ox C V (t:=t) b r (by omega) (a:=m) (m:=(ae ns i).ks.length-m) (fun l a3 a4=>gA _ m y l (by omega) (by omega)) (by omega);rw[cA (by rw[ep];exact ag _)]at ba;have:=rK 5 C.tp b K (m_v C.tp p b rfl j (wL (C.sz.nb i b)) (.set K s (by omega) (Ag a9 (by rw[eD];omega)) (Ag ba (by rw[ep];omega))));simpa only[bq] using this
 rw[aa K];by_cases a2:(ae ns i).k=6
 ·rw[ab a2];obtain⟨h1,c⟩:=E4 u (by omega);obtain⟨a,d⟩:=v 0 (by omega);have a5:=d.lt;rw[d.id]at c⊢;exact rK 6 C.tp b a2 (If C.tp p b rfl j (.do_ d.at_ (V.e a t (by omega) d.len (a7 _ c) (by omega))))
 rw[aa a2];by_cases al:(ae ns i).k=7
 ·rw[ab al];exact rK 7 C.tp b al (If C.tp p b rfl j (.iff (brV C V r b al z _ (by decide))))
 rw[aa al];by_cases am:(ae ns i).k=8
 ·rw[ab am];obtain⟨h1,c,o⟩:=Dg u am;obtain⟨a,d⟩:=v 0 (by omega);obtain⟨af,h⟩:=v 1 (by omega);have a5:=d.lt;have ap:=h.lt;have g:=ox C V (t:=t) b r (by omega) (a:=0) (m:=1) (fun l an ao=>by have e:l=0:=(by omega);subst e;exact c) (by omega);rw[ey]at g;have bb:=Ag g (by rw[eD];omega);rw[aku _ (by omega) d.at_]at bb;rw[h.id]at o;rw[d.id,h.id];exact rK 8 C.tp b am (If C.tp p b rfl j (.whl h1 bb h.at_ (Ef C V (by omega) h.len o z)))
 rw[aa am];by_cases a6:(ae ns i).k=9\/(ae ns i).k=10
 ·rw[ab a6];by_cases av:(ae ns i).k=10
  ·rw[aa (by omega)];obtain⟨h1,c,o,y⟩:=Hg u av;rw[h1];have g:=ox C V (t:=t) b r (by omega) (a:=0) (m:=1) (fun l an ao=>by have e:l=0:=(by omega);subst e;exact c) (by omega);rw[ey]at g;obtain⟨af,h⟩:=v 1 (by omega);have ap:=h.lt;show DF _ _ _ _ _ (_++_++_++_++_++Az _ (ae ns (dG (ae ns i) 1)).ks t);rw[h.id]at o⊢;exact rK 10 C.tp b av (m_n C.tp p b rfl j (by omega) (B y) (.eac av h1 (Ag g (by rw[eD];omega)) h.at_ (Ef C V (by omega) h.len o z)))
  ·have F:(ae ns i).k=9:=by omega
   rw[ab F];obtain⟨h1,c,o,y⟩:=aak u F;rcases h1 with h1|h1
   ·rw[h1]at c o⊢;have g:=ox C V (t:=t) b r (by omega) (a:=0) (m:=2) (fun l a3 a4=>gA _ 0 c l (by omega) (by omega)) (by omega);rw[ey]at g;obtain⟨af,h⟩:=v 2 (by omega);have ap:=h.lt;have ad:(ae ns (dG (ae ns i) 2)).k=1:=o;show DF _ _ _ _ _ (_++_++_++_++_++Az _ (ae ns (dG (ae ns i) 2)).ks t);rw[h.id]at ad⊢;exact rK 9 C.tp b F (m_n C.tp p b rfl j (by omega) (B (by omega)) (.fr F (.inl rfl) h1 (Ag g (by rw[eD];omega)) h.at_ (Ef C V (by omega) h.len ad z)))
   ·rw[h1]at c o⊢;have g:=ox C V (t:=t) b r (by omega) (a:=0) (m:=3) (fun l a3 a4=>gA _ 0 c l (by omega) (by omega)) (by omega);rw[ey]at g;obtain⟨af,h⟩:=v 3 (by omega);have ap:=h.lt;have ad:(ae ns (dG (ae ns i) 3)).k=1:=o;show DF _ _ _ _ _ (_++_++_++_++_++Az _ (ae ns (dG (ae ns i) 3)).ks t);rw[h.id]at ad⊢;exact rK 9 C.tp b F (m_n C.tp p b rfl j (by omega) (B (by omega)) (.fr F (.inr rfl) h1 (Ag g (by rw[eD];omega)) h.at_ (Ef C V (by omega) h.len ad z)))
 rw[aa a6];by_cases a0:(ae ns i).k=11
 ·rw[ab a0];exact rK 11 C.tp b a0 (If C.tp p b rfl j .brk)
 rw[aa a0];by_cases a1:(ae ns i).k=12
 ·rw[ab a1];exact rK 12 C.tp b a1 (If C.tp p b rfl j .nxt)
 rw[aa a1];by_cases G:(ae ns i).k=13
 ·rw[ab G];have h1:=agv u G;by_cases x:(ae ns i).ks=[]
  ·rw[ab x,show ∀A:ByteArray,A++O=A from fun A=>ByteArray.append_empty];exact rK 13 C.tp b G (If C.tp p b rfl j (.ret0 (by rw[x];rfl)))
  ·rw[aa x];have g:=ox C V (t:=t) b r (by omega) (a:=0) (m:=(ae ns i).ks.length) (fun l o y=>gA _ 0 h1 l (by omega) (by omega)) (by omega);rw[ey,cA (ag _)]at g;exact rK 13 C.tp b G (If C.tp p b rfl j (.ret (by rcases qd (ae ns i).ks.length with e|e;exact absurd (ia e) x;exact e) (Ag g j)))
 rw[aa G];by_cases H:(ae ns i).k=14
 ·rw[ab H];obtain⟨h1,c,o,y⟩:=aal u H;obtain⟨a,d⟩:=v 0 (by omega);obtain⟨af,h⟩:=v 1 (by omega);have a5:=d.lt;have ap:=h.lt;rw[d.id]at c⊢;rw[h.id]at o⊢;exact rK 14 C.tp b H (m_n C.tp p b rfl j (by omega) (B y) (.try_ H d.at_ h.at_ (Ef C V (by omega) d.len c z) (Ef C V (by omega) h.len o z)))
 rw[aa H];by_cases ak:(ae ns i).k=15
 ·rw[ab ak];obtain⟨h1,c⟩:=Dh u ak;obtain⟨a,d⟩:=v 0 (by omega);have g:=ox C V (t:=t) b r (by omega) (a:=0) (m:=1) (fun l an ao=>by have e:l=0:=(by omega);subst e;exact c) (by omega);rw[ey,cA (by omega)]at g;have s:=If C.tp p b rfl j (.thr (Ag g j));rw[yB _ h1 d.at_]at s;rw[d.id];exact rK 15 C.tp b ak s
 rw[aa ak,ab (by omega)];obtain⟨h1,c⟩:=E4 u (by omega);obtain⟨a,d⟩:=v 0 (by omega);have g:=ox C V (t:=t) b r (by omega) (a:=0) (m:=1) (fun l an ao=>by have e:l=0:=(by omega);subst e;exact a7 _ c) (by omega);rw[ey,cA (by omega)]at g;have s:=If C.tp p b rfl j (.dfr (Ag g j));rw[yB _ h1 d.at_]at s;rw[d.id];exact rK 16 C.tp b (by omega) s
theorem aj9(C:Cx w0 ns L base vs)(V:VA w0 vb ns L f):VA w0 vb ns L (f+1):=
 ⟨fun g e d a b c=>by rw[rI];exact aol C V (by omega) a b (by omega),
  fun g e d a b c=>by rw[rJ];exact aom C V (by omega) a b (by omega),
  fun g e j d a h c i=>by rw[yk];exact brV C V (by omega) a h (by omega) j i⟩
theorem vA(C:Cx w0 ns L base vs):∀f,VA w0 vb ns L f
 |0=>VA.zero w0 vb ns L
 |f+1=>aj9 C (vA C f)
end
open Go.Lib (strCells strCells_length)
theorem Pg.new(a:A9):Pg a O (a.alloc (Y #[A5 Q 0 0,C2 B6] 54)):=
 ⟨(ah _ a).alloc (ag _) _,A5 Q 0 0,O,B6,aA a _,dr _ _ _ _,by decide,fun _=>⟨rfl,rfl⟩,fun b=>absurd b (by decide)⟩
theorem aka(x:ByteArray):O++x=x:=ByteArray.empty_append
theorem Eg(w:A9)(v:B0)(a:List Nd)(h:fs w v a)(bs:∀(p:Addr) (n c i:Nat) (N:Nd) (vn:B0),v= A5 (U p) n c->a[i]?=U N->w.cell? ⟨(p.add (i*9)).block,(p.add (i*9)).off+7,Q⟩=U vn->rD vn)(b0:a.length<=1048576)(bd:∀N∈a,io N)(bE:∀N∈a,BI N)(J:Cw w)(ca:th w)
  (b5:∀W,S w.heap.size w W->Cb M W "strings.asciiSpace" .u8 B4):
  B1 M 8 #[B7 #[v]] w fun e w'=>e= Br (A2 (gL a))/\S w.heap.size w w':=by
 have bx:∀f,S w.heap.size w (w.alloc f):=fun f=>(ah _ w).alloc (ag _) f;obtain⟨c2,cq,a1⟩:=J.tabs.word;have am:B3 (∀W,S w.heap.size w W->B1 M 15 #[B7 #[v]] W (aaH rD W a)):=fun W l=>
  Aq rD W v a (fun p n c i N vn e bw F=>by
   subst e;obtain⟨c9,e,cb,df,ar⟩:=h.get bw;cases e;have:=aj l ar.c7;rw[this]at F;obtain rfl:cb=vn:=by simpa using F
   exact bs p n c i N cb rfl bw ar.c7) (h.below l) b0 bd (J.errs.below l (ag _)) c2 cq ((l.block _ (ai a1)).trans a1) (fun ck cr=>b5 ck (l.trans (cr.mono l.size)))
 obtain⟨bl,c,rfl⟩:=h.form;obtain⟨n,q⟩:∃n,a.length=n:=⟨_,rfl⟩;rw[q]at am⊢;have u:B3 (a.length=n/\(∀N∈a,io N)/\(∀N∈a,BI N)/\Cw w/\th w):=⟨q,bd,bE,J,ca⟩;have ba:=am.out _ (bx (Y #[A5 bl n c] 26));clear h b0 bd bE J ca a1 b5 q am bs;go_enter Tryz.func8,Tryz.ntmps8;go_wp2_with (go_at_call 15;fail);refine ba.mono ?_;rintro e b ⟨B,F⟩;have c8:(w.alloc (Y #[A5 bl n c] 26)).heap.size=w.heap.size+1:=cD _ _;have C:=(bx _).trans (B.mono (by omega));have z:∀f,S b.heap.size b (b.alloc f):=fun f=>(ah _ b).alloc (ag _) f;rcases F with⟨g,rfl⟩|⟨g,bn,cc,an,ak,rfl,b6,bt,b1,a7⟩
 ·have bo:((dd a).1 !=0)=Bs:=by rw[xB];exact g
  have k:B3 (gL a=⟨#[]⟩):=by show _=_;unfold gL;rw[aa g]
  generalize (dd a).1=c4 at bo;generalize (dd a).2=c5;clear ba g;go_wp21
  go_ret;exact⟨by rw[k.out];rfl,C.trans ((z _).mono C.size)⟩
 ·have K:(dd a).1=0:=by rw[g]
  have E:S w.heap.size w (b.alloc (Y #[Ax A0 0,Ax A0 0] 36)):=C.trans ((z _).mono C.size);obtain⟨c0,b9,bc⟩:=ahv K;have o:Cx (b.alloc (Y #[Ax A0 0,Ax A0 0] 36)) a an bn cc:=by
   refine⟨⟨b1.below (z _),bt,fun t j=>(a7 t j).1.below (B.trans ((z _).mono B.size)),fun t j=>(a7 t j).2⟩,u.out.2.2.2.2.below E (ag _),u.out.2.2.2.1.below E (ag _),ags K,b9,fun i=>?_,fun i=>?_⟩;all_goals
    unfold ae;rw[be];cases e:a[i.toNat]? with
    |none=>decide
    |some N=>have:=(u.out.2.2.1 N (cH e)).n;simp only[gl];omega
  have bo:((0:Int)!=0)=B6:=rfl;have a8:(b.alloc (Y #[Ax A0 0,Ax A0 0] 36)).heap.size=b.heap.size+1:=cD _ _;have q:=u.out.1;have b7:lj an ((n-1:Nat):Int)=ak:=by
   unfold lj;rw[lG,be,<-q,b6];rfl
  have a2:ae a ((a.length:Int)-1)=ae a ((n-1:Nat):Int):=by congr 1;omega
  rw[a2]at bc;obtain⟨b4,cx⟩:=jC (o.sz.nb (n-1) (by omega));have bA:=yu b4 bc;have b3:lh a=gw ((ae a ((n-1:Nat):Int)).ks.map fun cB=>rJ a a.length cB 0++(⟨#[10]⟩:ByteArray)):=by unfold lh;rw[a2]
  have x:B3 (∀af,Pw (b.alloc (Y #[Ax A0 0,Ax A0 0] 36)) af 17 #[vP af,gG (b.alloc (Y #[Ax A0 0,Ax A0 0] 36)) 0,nV ak] (lh a)):=fun af=>by
   have:=ajD (b.alloc (Y #[Ax A0 0,Ax A0 0] 36)) af a an bn cc o.tp (n-1) (by omega) _ rfl (by omega) (fun cf=>rJ a a.length cf 0) (fun cf cz=>by
    obtain⟨b8,cw,rfl⟩:=oy cz;obtain⟨t,j⟩:=gB (o.sz.nb (n-1) (by omega)) (by omega) b8 cw;have br:=J9 _ 0 bA b8 (by omega) (by omega);rw[j.id]at br⊢;exact(vA o a.length).s t 0 j.len j.len br (by omega))
   rw[b7,<-b3]at this;exact this
  have bk:B3 (gL a=CA a):=by show _=_;unfold gL;rw[ab K]
  obtain⟨D,a0⟩:∃D,lh a=D:=⟨_,rfl⟩;have bh:B3 (CA a=if 65536<D.size then O else D):=by show _=_;unfold CA;rw[a0]
  rw[a0]at x;obtain⟨bf,H⟩:∃bf,nV ak=bf:=⟨_,rfl⟩;rw[H]at x;unfold nV er at H;have bD:=Pg.new (b.alloc (Y #[Ax A0 0,Ax A0 0] 36));have d:B3 (S w.heap.size w (b.alloc (Y #[Ax A0 0,Ax A0 0] 36))/\Pg (b.alloc (Y #[Ax A0 0,Ax A0 0] 36)) O ((b.alloc (Y #[Ax A0 0,Ax A0 0] 36)).alloc (Y #[A5 Q 0 0,C2 B6] 54))/\(b.alloc (Y #[Ax A0 0,Ax A0 0] 36)).heap.size=b.heap.size+1):=⟨E,bD,a8⟩;have bb:=BH ((b.alloc (Y #[Ax A0 0,Ax A0 0] 36)).alloc (Y #[A5 Q 0 0,C2 B6] 54));rw[cD,a8]at bb;have b2:nV ak=bf:=H;rw[b2];clear ba o b1 a7 g K B b6 bt c0 b9 bc b7 a2 b4 cx bA b3 a0 H b2 bD E a8;go_wp2_with (go_at_call 16;fail);refine bb.mono ?_;rintro e c3 ⟨rfl,a9,a5⟩;generalize b.alloc (Y #[Ax A0 0,Ax A0 0] 36)=ch at x d a5 a9⊢;have cg:B3 (Ps ch (b.heap.size+1+1) O c3):=⟨d.out.2.1.below (by rw[cD,d.out.2.2];exact a5),by rw[d.out.2.2];omega,a9⟩;have I:=x.out (b.heap.size+1+1) _ _ cg.out;unfold gG na vP at I;rw[d.out.2.2]at I;clear a9 a5 bb;go_wp2_with (go_at_call 17;fail);refine I.mono ?_;rintro e r ⟨rfl,L,cF⟩;rw[aka]at L;have al:B3 (S w.heap.size w r):=d.out.1.trans (L.pg.bel.mono d.out.1.size);obtain⟨f,y,c1,A,m,ct,a3,a4⟩:=L.pg.row;rw[d.out.2.2]at A;obtain⟨ao,G⟩:∃ao,y.size=ao:=⟨_,rfl⟩;rw[G]at m ct;obtain⟨cl,cm,rfl⟩:=bI m;have dk:r.cell? ⟨b.heap.size+1,0,Q⟩=U (A5 cl ao cm):=by rw[au _ _ _ _ _ _ A];rfl
  have dq:r.cell? ⟨b.heap.size+1,1,Q⟩=U (C2 c1):=by rw[au _ _ _ _ _ _ A];rfl
  clear L cF I A;by_cases a6:65536<D.size
  ·have ap:=a4 a6;subst ap;have k:B3 (gL a=O):=by show _=_;rw[bk.out,bh.out,ab a6]
   clear a3 a4 m;go_wp21
   go_ret;exact⟨by rw[k.out];rfl,al.out⟩
  ·obtain⟨ap,cn⟩:=a3 (by omega);subst ap cn;have k:B3 (gL a=y):=by show _=_;rw[bk.out,bh.out,aa a6]
   clear a3 a4;rcases bu m with⟨g,e⟩|⟨ar,c6,e⟩
   ·cases e;have cs:y=⟨#[]⟩:=by
     apply pK;have:y.data.size=0:=G;exact Array.eq_empty_of_size_eq_zero this
    have cI:(convert 39 9 (A5 Q 0 0)).run M r= .ok (A2 ⟨#[]⟩) r:=by kernel_rfl
    clear m G;go_wp21
    go_ret;exact⟨by rw[k.out,cs];rfl,al.out⟩
   ·cases e;have cI:=Fh m;clear G;go_wp21
    go_ret;exact⟨by rw[k.out];rfl,al.out⟩
end Go.Proofs.YtjeamjdieofoeaaGreatDoor
namespace Go.Proofs.YtjeamjdieofoeaaGreatDoor
open Go.RowKit Go.Maps Go.WideMaps
variable{N:Nd}{a c:Int}{i q t:Nat}{ns:List Nd}
section
variable {w : World} {lo e size n m c g : Nat} {a : Option Addr} {v : Value} {L : List Mb} {xs : List Value}
theorem aaK(o:w.ownsRow lo e size (A5 a n c) m xs):n<=c/\∀b,a=U b->b=⟨b.block,b.off,Q⟩:=by
 rcases o.2 with⟨d,_⟩|⟨i,g,h,d,_,_,f,_⟩
 ·cases d;exact⟨ag _,fun b d=>by cases d⟩
 ·cases d;exact⟨f,fun b d=>by cases d;rfl⟩
theorem mw.lw{c:Nat}(h:mw w lo c v L):Lw w lo v L:=⟨h.row,fun b a=>⟨(h.each b a).on,(h.each b a).ok⟩⟩
theorem Lw.ex(h:Lw w lo (A5 (U ⟨g,0,Q⟩) n c) L)(a:(L.map Mb.N)[i]?=U N):∃x∈L,x.N=N/\w.cell? ⟨((⟨g,0,Q⟩:Addr).add (i*9)).block,((⟨g,0,Q⟩:Addr).add (i*9)).off+7,Q⟩=U x.vn/\w.cell? ⟨((⟨g,0,Q⟩:Addr).add (i*9)).block,((⟨g,0,Q⟩:Addr).add (i*9)).off+8,Q⟩=U x.vk:=by
 rw[ce]at a;cases hx:L[i]? with
 |none=>rw[hx]at a;cases a
 |some x=>
  rw[hx]at a;have j:L.length=n:=by obtain⟨_,_,d⟩:=bI h.row;simp at d;exact d.2.1.symm
  have b:=h.row;rw[j]at b;obtain⟨k,l,m,o,p,q,r,e,f⟩:=uJ b hx;rw[show(⟨g,0,Q⟩:Addr).add (i*9)=⟨g,i*9,Q⟩ by unfold Addr.add;split<;>simp_all];exact⟨x,cH hx,bp a,e,f⟩
theorem Lw.cap(h:Lw w lo (A5 (U ⟨g,0,Q⟩) n c) L):CF w ⟨g,0,Q⟩ (L.map Mb.N):=by
 intro m N j k e a;obtain⟨i,f,rfl,l,d⟩:=h.ex e;rw[d]at a;have b:=(h.each i f).2;rw[bp a]at b;exact(aaK b).1
theorem Lw.strj(h:Lw w lo v L):∀(a:Addr)(n c i:Nat)(N:Nd)(vn:B0),v= A5 (U a) n c->(L.map Mb.N)[i]?=U N->w.cell? ⟨(a.add (i*9)).block,(a.add (i*9)).off+7,Q⟩=U vn->rD vn:=by
 intro a n c i N vn b l f g s p k;rcases bu h.row with⟨_,d⟩|⟨r,q,d⟩
 ·rw[d]at b;cases b
 rw[d]at b h;cases b;obtain⟨o,m,_,j,_⟩:=h.ex l;rw[j]at f;have e:=(h.each o m).1;rw[bp f,k]at e;exact⟨(aaK e).1,(aaK e).2 g rfl⟩
end
theorem aea:(dd []).1≠0:=by decide
theorem aaL:gL []=⟨#[]⟩:=by decide
theorem Eh(w:A9):B1 M 7 #[B7 #[A5 Q 0 0]] w fun e w'=>e= Br (A2 (gL []))/\S w.heap.size w w':=by
 have d:=fun h=>wJ (w.alloc h) (A5 Q 0 0) [] (Hl _).nds (by simp) (fun j g=>by cases g);rw[aaL];obtain⟨f,a⟩:=az (dd []).1;obtain⟨i,c⟩:=az (dd []).2;have hF:(f !=0)=Bs:=by rw[<-a];exact bne_iff_ne.2 aea
 simp only[a,c]at d;clear a c;go_in;go_wp2_with fail;refine bv (d _) fun k b=>?_;go_wp2_with fail;go_ret;exact⟨rfl,((cK w _).trans (b.mono (by simp))).alloc (by have:=b.size;simp at this;omega) _⟩
theorem Dz(w:A9)(s:ByteArray)(x:s.size<=1048576)(i:Out s c a ns):B1 M 4 #[A2 s] w fun e w'=>e= Br (A2 (gL ns))/\S w.heap.size w w':=by
 have k:=Ed w s x i;have f:=aq i.nn;clear i;unfold PsP psV at k;obtain⟨D,h⟩:=az (gL ns);have p:=aq h;rw[h];clear h;go_in;go_wp2_with fail;refine k.mono ?_;clear k;rintro e d ⟨o,rfl,j,l⟩;have q:B3 (∀b,B1 M 7 #[B7 #[o]] (d.alloc b) fun e w'=>e= Br (A2 D)/\S (d.alloc b).heap.size (d.alloc b) w'):=fun b=>by
  obtain⟨A,E,rfl,m⟩:=j;have n:=m.mono (w':=d.alloc b) fun y _ g=>(cK d b).block y g;rw[<-p.out];rcases bu m.row with⟨v,rfl⟩|⟨u,t,rfl⟩
  ·rw[ia v];exact Eh _
  ·exact Eb _ ⟨u,0,Q⟩ _ t _ n.nds n.cap (by simp) (by have:=f.out.len;simpa using this) f.out.sm f.out.int
 obtain⟨B,F,C,rfl⟩:∃a z c,o= A5 a z c:=by obtain⟨a,c,g⟩:=j.nds.form;exact⟨a,_,c,g⟩
 clear j;go_wp2_with fail;refine bv (q.out _) fun G r=>?_;go_wp2_with fail;go_ret;exact⟨rfl,l.trans (((cK d _).trans (r.mono (by simp))).mono l.size)⟩
theorem DA(w:A9)(s:ByteArray)(z:s.size<=1048576)(i:PL w)(j:Out s c a ns):B1 M 5 #[A2 s] w fun e w'=>e= Br (A2 (gL ns))/\S w.heap.size w w':=by
 have l:=Ee w s z i j;have u:=gI j.nn i;clear j i;unfold PiP psV at l;obtain⟨D,h⟩:=az (gL ns);have t:=aq h;rw[h];clear h;go_in;go_wp2_with fail;refine l.mono ?_;clear l;rintro e d ⟨r,m,rfl,p,k,b⟩;have v:B3 (B1 M 8 #[B7 #[r]] d fun e w'=>e= Br (A2 D)/\S d.heap.size d w'):=by
  obtain⟨f,g⟩:=u.out;have q:=k.lw;rw[<-t.out];subst p;exact Eg d r _ q.nds q.strj (by have:=f.len;simpa using this) f.sm f.int (g.lay.below b (ag _)) (th.below g.pow b (ag _)) fun A y=>(g.below (b.trans (y.mono b.size)) (ag _)).asc
 obtain⟨n,o,rfl⟩:=bI k.row;clear k p;have B:∀w:A9,(Instr.field 28 (B7 #[Ax A0 c,Ax A0 a,A5 n m.length o]) 2).run M w= .ok (B7 #[A5 n m.length o]) w:=fun w=>by kernel_rfl
 go_wp2_with fail;refine bv v.out fun C x=>?_;go_wp2_with fail;go_ret;exact⟨rfl,b.trans (x.mono b.size)⟩
theorem Ku(w:A9)(s:ByteArray)(o:s.size<=9223372036854775807)(d:PL w):B1 M 3 #[A2 s] w fun e w'=>e= Br (C2 Bs)/\S w.heap.size w w':=by
 by_cases f:s.size<=1048576
 ·have l:¬(1048576:Int)<(s.size:Int):=by omega
  obtain⟨n,m,i,c⟩:=amJ s;have g:=Dz w s f c;have h:B3 (∀a,S w.heap.size w a->B1 M 5 #[A2 s] a fun e w'=>e= Br (A2 (gL i))/\S a.heap.size a w'):=fun a k=>DA a s f (d.below k (ag _)) c;generalize gL i=D at g h;clear c d;go_in;go_wp2_with fail;refine bv g fun p b=>?_;go_wp2_with fail;refine bv (h.out _ b) fun q j=>?_;go_wp2_with fail;go_ret;exact⟨rfl,b.trans (j.mono b.size)⟩
 ·have l:(1048576:Int)<(s.size:Int):=by omega
  go_in;go_wp2_with fail;go_ret;exact⟨rfl,ah _ _⟩
