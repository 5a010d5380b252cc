import Derived.Test.YtnoojdbdapljoaaGreatDoorHOk29
import Derived.Test.YtnoojdbdapljoaaGreatDoorHOk41
set_option linter.all false
set_option maxRecDepth 100000
set_option maxHeartbeats 6400000
open Go.Value renaming int->M,string->O,tuple->W,agg->Ax
open Go.IntKind renaming i64->N
open Bool renaming true->Q,false->U
open Go.Lib renaming hasPrefix->S
open Go.Proofs.Tryz renaming prog->X
open Go.Ending renaming returned->Y
open Go.Obj renaming cells->Z
namespace Go.Proofs.YtnoojdbdapljoaaGreatDoor
open Go.RowKit Go.Maps Go.WideMaps
theorem agu(s x:ByteArray)(p:Nat)(f:p<=s.size):S (s.extract p s.size).data.toList x.data.toList=decide (p+x.size<=s.size/\((s.extract p (p+x.size)).toList==x.toList)=Q):=by
 have e:s.data.toList.length=s.size:=iq;have b:x.data.toList.length=x.size:=iq;have c:(s.extract p s.size).data.toList=s.data.toList.drop p:=by
  rw[<-gH,Lib.extract_toList,cw];rw[gJ,iq];exact ah _
 have d:(s.extract p (p+x.size)).toList=(s.data.toList.drop p).take x.size:=by
  rw[Lib.extract_toList];congr 1;omega
 rw[c,d,gH x];unfold S;rw[Cx,yd,ob,List.prefix_iff_eq_take,b,gn];constructor
 ·intro a;refine⟨?_,a.symm⟩;have:=congrArg List.length a;rw[eJ,gJ,e,b]at this;omega
 ·exact fun a=>a.2.symm
theorem aag(s:ByteArray)(f:s.size<=70000)(p:Nat)(b:p<s.size)(a:aK s p=10)(w:World):Calls X 47 #[O s,M N p] w fun e d=>e= Y (W #[Ax #[M N 7,M N p,M N ((p:Int)+1),M N 0,M N 0,O ⟨#[]⟩],M N (-1)])/\Below w.heap.size w d:=by
 have c:=fun w=>dL b w;rw[a]at c;have g:(p:Int)<(s.size:Int):=by omega
 go_in;go_wp2;refine bB (v:= W #[Ax #[M N 7,M N p,M N ((p:Int)+1),M N 0,M N 0,O ⟨#[]⟩],M N (-1)]) (by simp[results,Tryz.results47,go_sem]) rfl ⟨rfl,?_⟩;exact((aj _ w).alloc (ah _) _).alloc (by simp) _
theorem adw(p:Nat)(R:Bool×Nat×List Int):∃(t:Int) (x:ByteArray),Ca p R= Ax #[M N 4,M N p,M N t,M N 0,M N 0,O x]:=by
 unfold Ca;split<;>exact⟨_,_,rfl⟩
theorem Ad(s:ByteArray)(u:s.size<=70000)(p:Nat)(k:p<s.size)(t:aK s p=34)(w:World):Calls X 47 #[O s,M N p] w fun e y=>e= Y (W #[Ca p (iu s (s.size+1) (p+1) []),M N (Fa (iu s (s.size+1) (p+1) []))])/\Below w.heap.size w y:=by
 have l:=fun w=>dL k w;have o:=fun w=>iC (c:=34) (b:=U) (by decide) w;have m:=fun w=>dy (c:=34) (b:=U) (by decide) w;have a:=fun w=>Dh s u p k w;generalize iu s (s.size+1) (p+1) []=f at a;obtain⟨x,A,h⟩:=adw p f;rw[h]at a⊢;generalize Fa f=q at a;rw[t]at l;clear h;have i:fy w.heap.size ((w.alloc (Z #[M N 0,M N 0,M N 0,M N 0,M N 0,O ⟨#[]⟩] 109)).alloc (Z #[M N 0,M N p,M N 0,M N 0,M N 0,O ⟨#[]⟩] 109)) 0 0 0 0 0 ⟨#[]⟩:=(dr _ _ _ (by simp)).trans (aw w _);have g:Below w.heap.size w ((w.alloc (Z #[M N 0,M N 0,M N 0,M N 0,M N 0,O ⟨#[]⟩] 109)).alloc (Z #[M N 0,M N p,M N 0,M N 0,M N 0,O ⟨#[]⟩] 109)):=(((aj _ w).alloc (ah _) _).alloc (by simp) _);go_in;go_wp2_with (first|(go_at_call 77;refine ee (o _) ?_)|(go_at_call 79;refine ee (m _) ?_));refine cd (a _) fun z d=>?_;have j:=i.below d (by simp;omega);have r:=g.trans (d.mono (by simp;omega));clear d i g a o m l;obtain⟨z0,B,C,E,F,G,I⟩:=da j;have H:w.heap.size<z.heap.size:=ax j;go_wp2;refine bB (v:= W #[Ax #[M N 4,M N p,M N x,M N 0,M N 0,O A],M N q]) (by simp[results,Tryz.results47,go_sem,z0,B,C,E,F,G]) rfl ⟨rfl,?_⟩
 iterate 6 refine eI ?_ (by simp) _
 exact r
structure JD (q:ByteArray->Bool) (f k:Nat) (R:Option Nat):Prop where
 out:uC q f k=R
def aj0(p:Nat)(R:Option Nat):Value:=match R with
 |some a=> W #[Ax #[M N (xe (dB lH a)),M N p,M N ((p:Int)+((dB lH a).size:Int)),M N 0,M N 0,O ⟨#[]⟩],M N (-1)]
 |none=> W #[Ax #[M N 0,M N p,M N 0,M N 0,M N 0,O ⟨#[]⟩],M N p]
theorem aiB:∀k:Fin 30,(dB lH k.val).size<=3:=by decide
theorem Ae(s:ByteArray)(b3:s.size<=70000)(p:Nat)(a6:p<s.size)(L:¬aK s p=10)(am:cK (aK s p)=U)(af:dl (aK s p)=U)(ad:¬aK s p=34)(w:World):
  Calls X 47 #[O s,M N p] w fun e a7=>e= Y (aj0 p (uC (fun x=>S (s.extract p s.size).data.toList x.data.toList) 30 0))/\Below w.heap.size w a7:=by
 have a0:=fun w=>dL a6 w;have J:(aK s p==10)=U:=by rw[bg];exact L
 have K:(aK s p==34)=U:=by rw[bg];exact ad
 have H:=fun w=>iC am w;have G:=fun w=>dy af w;have b4:(p:Int)<(s.size:Int):=by omega
 generalize aK s p=bt at a0 J K H G;obtain⟨c,C⟩:∃c:ByteArray->Bool,(fun x=>S (s.extract p s.size).data.toList x.data.toList)=c:=⟨_,rfl⟩;have ao:∀x,c x=decide (p+x.size<=s.size/\((s.extract p (p+x.size)).toList==x.toList)=Q):=fun x=>by rw[<-C];exact agu s x p (by omega)
 rw[C];obtain⟨m,z⟩:=aA (uC c 30 0);rw[z];have q:JD c 30 0 m:=⟨z⟩;have a1:=aq ao;clear z C ao L am af ad;obtain⟨f,i⟩:=aA ((w.alloc (Z #[M N 0,M N 0,M N 0,M N 0,M N 0,O ⟨#[]⟩] 109)).alloc (Z #[M N 0,M N p,M N 0,M N 0,M N 0,O ⟨#[]⟩] 109));have A:fy w.heap.size f 0 0 0 0 0 ⟨#[]⟩:=by rw[<-i];exact(dr _ _ _ (by simp)).trans (aw w _)
 have r:fy (w.heap.size+1) f 0 p 0 0 0 ⟨#[]⟩:=by
  rw[<-i];have:=aw (w.alloc (Z #[M N 0,M N 0,M N 0,M N 0,M N 0,O ⟨#[]⟩] 109)) (Z #[M N 0,M N p,M N 0,M N 0,M N 0,O ⟨#[]⟩] 109);rw[ba]at this;exact this
 have u:Below w.heap.size w f:=by rw[<-i];exact(((aj _ w).alloc (ah _) _).alloc (by simp) _)
 have I:=aq i;clear i;go_in;go_wp2_with (first|(go_at_call 77;refine ee (H _) ?_)|(go_at_call 79;refine ee (G _) ?_));rw[I.out];refine cd (wm f) fun g k=>?_;have t:fy (w.heap.size+1) g 0 p 0 0 0 ⟨#[]⟩:=by rw[k];exact(dr _ _ _ (ax r)).trans r
 have B:fy w.heap.size g 0 0 0 0 0 ⟨#[]⟩:=by rw[k];exact(dr _ _ _ (ax A)).trans A
 have y:Below w.heap.size w g:=by rw[k];exact u.alloc u.size _
 have a3:g.heap[f.heap.size]?=some (Z lH 9 (0,0)):=by rw[k];exact aw f _
 clear k r A u H G a0 I J K;go_wp2_with fail;obtain⟨b8,b9,ca,cb,cc,ce,cf⟩:=da t;obtain⟨z0,bn,bo,bp,br,bs,cm⟩:=da B;have ar:w.heap.size<g.heap.size:=ax B;have av:w.heap.size+1<g.heap.size:=ax t;go_loop [45,9] (fun F _=>∃a:Nat,a<=30/\F= M N a/\JD c (30-a) a m) (fun F _=>30-(intOf F).toNat)
 case atStart=>exact⟨0,by omega,rfl,q⟩
 case round=>
  obtain⟨a,b2,rfl,l⟩:=hrel;by_cases an:a<30
  ·have a4:g.cell? ⟨f.heap.size,a,none⟩=some (O (dB lH a)):=by rw[az _ _ _ _ _ _ a3];exact aaI ⟨a,an⟩
   have b:=l.out;rw[show 30-a=(30-(a+1))+1 by omega,uC,a1.out]at b;have ap:=aiB ⟨a,an⟩;simp only at ap;obtain⟨x,E⟩:=aA (dB lH a);rw[E]at a4 b ap;have a2:=aq E;clear E l q;by_cases ak:p+x.size<=s.size
   ·have a5:(x.size:Int)<=(s.size:Int)-(p:Int):=by omega
    have b1:(p:Int)+(x.size:Int)<=(s.size:Int):=by omega
    by_cases o:((s.extract p (p+x.size)).toList==x.toList)=Q
    ·rw[ab (bG ⟨ak,o⟩)]at b;have d:=aq b;clear b;go_wp2_with (go_at_call 83;refine(sD x _).mono ?_;rintro e ck ⟨rfl,j⟩;obtain⟨bw,bx,bA,bD,bE,bF,b0⟩:=da (t.below j av);obtain⟨a8,a9,bb,bd,bf,bl,cl⟩:=da (B.below j ar);have b6:=gh ar j.size;have b7:=gh av j.size);refine bB (v:= W #[Ax #[M N (xe x),M N p,M N ((p:Int)+(x.size:Int)),M N 0,M N 0,O ⟨#[]⟩],M N (-1)]) (by simp[results,Tryz.results47,go_sem,a8,a9,bb,bd,bf,bl]) rfl ⟨by rw[<-d.out];have h:=a2.out;subst h;rfl,?_⟩
     iterate 8 refine eI ?_ (by simp) _
     exact y.trans (j.mono y.size)
    ·have b5:((s.extract p (p+x.size)).toList==x.toList)=U:=by simpa using o
     rw[aa (fun h=>o (bc h).2)]at b;have d:JD c (30-(a+1)) (a+1) m:=⟨b⟩;clear b o;go_wp2_with fail;go_round
     case rel=>exact⟨a+1,by omega,by go_num,d⟩
     case measure=>simp[intOf];omega
   ·have a5:¬(x.size:Int)<=(s.size:Int)-(p:Int):=by omega
    rw[aa (fun h=>ak (bc h).1)]at b;have d:JD c (30-(a+1)) (a+1) m:=⟨b⟩;clear b;go_wp2_with fail;go_round
    case rel=>exact⟨a+1,by omega,by go_num,d⟩
    case measure=>simp[intOf];omega
  ·obtain rfl:a=30:=by omega
   have d:=aq l.out;clear l q;go_wp2_with fail;refine bB (v:= W #[Ax #[M N 0,M N p,M N 0,M N 0,M N 0,O ⟨#[]⟩],M N (p:Int)]) (by simp[results,Tryz.results47,go_sem,z0,bn,bo,bp,br,bs]) rfl ⟨by rw[<-d.out];rfl,?_⟩
   iterate 6 refine eI ?_ (by simp) _
   exact y
structure aj1 (R:Rd) (k t n:Int) (x:ByteArray) (bad:Int):Prop where
 yes:R.ok=Q->bad= -1/\k=R.k/\t=(R.a:Int)/\n=R.n/\x=R.x/\R.d=(if R.k=7 then 1 else 0)
 no:R.ok=U->bad=(R.a:Int)
theorem aj2(s:ByteArray)(p:Nat):(wdP s p).1≠7:=by
 unfold wdP;split
 ·simp only;omega
 ·simp
theorem aj3(s:ByteArray)(p:Nat):(Hm s p).1≠7:=by
 unfold Hm;split
 ·simp
 ·split<;>simp
theorem If(s:ByteArray)(q:s.size<=70000)(p:Nat)(f:p<s.size)(w:World):
  Calls X 47 #[O s,M N p] w fun e c=>∃k t n x r,e= Y (W #[Ax #[M N k,M N p,M N t,M N 0,M N n,O x],M N r])/\aj1 (fj s p) k t n x r/\Below w.heap.size w c:=by
 unfold fj;by_cases j:cK (aK s p)=Q
 ·rw[ab j];refine cd (ww s (by omega) p f j w) fun c b=>?_;rw[ajI];exact⟨_,_,_,_,_,rfl,⟨fun _=>⟨rfl,rfl,rfl,rfl,rfl,by simp only;rw[aa (aj2 s p)]⟩,fun a=>by cases a⟩,b⟩
 rw[aa j];by_cases i:dl (aK s p)=Q
 ·rw[ab i];refine cd (sJ s (by omega) p f i w) fun c b=>?_;cases hok:(fC s p).2 with
  |true=>
   obtain⟨d,o⟩:=aij s p hok;rw[d,o,ab rfl];exact⟨_,_,_,_,_,rfl,⟨fun _=>⟨rfl,rfl,rfl,rfl,rfl,by simp only;rw[aa (aj3 s p)]⟩,fun a=>by cases a⟩,b⟩
  |false=>
   obtain⟨k,t,n,x,d⟩:=Ji s p;rw[d,Fk s p hok,aa (by simp)];exact⟨_,_,_,_,_,rfl,⟨fun a=>by(try simp at a),fun a=>rfl⟩,b⟩
 rw[aa i];by_cases h:aK s p=34
 ·rw[ab h];refine cd (Ad s q p f h w) fun c b=>?_;generalize iu s (s.size+1) (p+1) []=m;obtain⟨A,B,C⟩:=m;cases A with
  |true=>exact⟨_,_,_,_,_,rfl,⟨fun _=>⟨rfl,rfl,rfl,rfl,rfl,rfl⟩,fun a=>by cases a⟩,b⟩
  |false=>exact⟨_,_,_,_,_,rfl,⟨fun a=>(by cases a),fun a=>rfl⟩,b⟩
 rw[aa h];have u:aK (s.extract p s.size) 0=aK s p:=Jy s p s.size 0 (ah _) (by omega);by_cases g:aK s p=10
 ·have y:vL (s.extract p s.size)=7:=by unfold vL;rw[u,g];rfl
  rw[y,aa (by decide)];refine cd (aag s q p f g w) fun c b=>?_;exact⟨_,_,_,_,_,rfl,⟨fun _=>⟨rfl,rfl,rfl,rfl,rfl,rfl⟩,fun a=>by cases a⟩,b⟩
 ·have l:=Jz (s.extract p s.size) (by rw[u];exact g);unfold Do at l;refine cd (Ae s q p f g (by simpa using j) (by simpa using i) h w) fun c b=>?_;generalize uC (fun x=>S (s.extract p s.size).data.toList x.data.toList) 30 0=m at l;cases m with
  |none=>
   rw[show vL (s.extract p s.size)=0 from l,ab rfl];exact⟨_,_,_,_,_,rfl,⟨fun a=>(by cases a),fun a=>rfl⟩,b⟩
  |some z=>
   obtain⟨d,o,v,E⟩:=(show _/\_/\_/\_ from l);rw[aa v];refine⟨_,_,_,_,_,rfl,⟨fun _=>⟨rfl,d.symm,?_,rfl,rfl,rfl⟩,fun a=>by cases a⟩,b⟩;show(p:Int)+((dB lH z).size:Int)=((p+(ug (vL (s.extract p s.size))).size:Nat):Int);rw[o];omega
structure aiC (s:ByteArray) (f k e:Nat):Prop where
 out:iL nnB s f k=e
structure JE (s:ByteArray) (f k e:Nat):Prop where
 out:blk s f k=e
theorem qe(s:ByteArray)(a0:s.size<=1100000)(p:Nat)(a1:p<=s.size)(w:World):Calls X 46 #[O s,M N p] w fun e a3=>e= Y (M N (blk s (s.size+1) p))/\a3=w:=by
 obtain⟨v,C⟩:=aA (blk s (s.size+1) p);rw[C];have am:JE s (s.size+1) p v:=⟨C⟩;clear C;go_in;go_wp2_with fail;go_loop [1,5] (fun k a4=>∃(a d:Nat),a<=s.size/\s.size<a+d/\k= M N a/\JE s d a v) (fun k _=>s.size-(intOf k).toNat)
 case atStart=>exact⟨p,s.size+1,a1,by omega,rfl,am⟩
 case round=>
  obtain⟨a,d,J,a5,rfl,r⟩:=hrel;obtain⟨d,rfl⟩:∃g,d=g+1:=⟨d-1,by omega⟩;have b:=r.out;rw[blk]at b;by_cases L:a<s.size
  ·have a9:(a:Int)<(s.size:Int):=by omega
   rw[aa (by omega)]at b;have t:=fun w=>dL L w;have x:=sC L;by_cases i:CH (aK s a)=Q
   ·rw[ab i]at b;have f:JE s d (a+1) v:=⟨b⟩;have o:aK s a=32\/aK s a=9\/aK s a=13:=bc i;generalize aK s a=H at t o x;clear b r i;rcases o with rfl|rfl|rfl;all_goals
     go_wp2_with fail;go_round
     case rel=>exact⟨a+1,d,by omega,by omega,by go_num,f⟩
     case measure=>simp[intOf];omega
   ·rw[aa i]at b;have o:¬(aK s a=32\/aK s a=9\/aK s a=13):=fun B=>i (bG B);have y:(aK s a==32)=U:=by rw[bg];omega
    have z:(aK s a==9)=U:=by rw[bg];omega
    have A:(aK s a==13)=U:=by rw[bg];omega
    have u:=fun w=>fD s a0 ((a:Int)+1) (a+1) (by omega) w;have q:=qF s (a+1) 45 (by omega);by_cases h:aK s a=45/\aK s (a+1)=45
    ·rw[ab h]at b;have f:JE s d (nlE s a) v:=⟨b⟩;rw[h.2]at q;have K:lk s (a+1)=45:=by simpa using q
     have ar:=agl s a h.1;have av:=ac3 s a J;rw[h.1]at t;rw[K]at u;have F:aiC s (s.size+1) a (nlE s a):=⟨rfl⟩;generalize nlE s a=G at f ar av F;clear b r i o y z A q K h x;go_wp2_with (go_at_call 76;refine ee (u _) ?_);go_loop [1] (fun k=>∃(c g:Nat),c<=s.size/\s.size<c+g/\k= M N c/\aiC s g c G) (fun k=>s.size-(intOf k).toNat)
     case atStart=>exact⟨a,s.size+1,J,by omega,rfl,F⟩
     case round=>
      obtain⟨c,g,a7,a6,rfl,E⟩:=hrel;obtain⟨g,rfl⟩:∃a2,g=a2+1:=⟨g-1,by omega⟩;have b:=E.out;rw[iL]at b;clear t E;by_cases I:c<s.size
      ·have a8:(c:Int)<(s.size:Int):=by omega
       have af:=fun w=>dL I w;have ak:=sC I;by_cases l:aK s c=10
       ·rw[aa (by rw[l];decide)]at b;rw[l]at af;have j:=aq b;clear b l ak;go_wp2_with fail;go_round
        case rel=>exact⟨c,d,by omega,by have:=j.out;omega,by go_num,by rw[j.out];exact f⟩
        case measure=>have:=j.out;simp[intOf];omega
       ·rw[ab (by unfold nnB;rw[ob];exact⟨l,by omega⟩)]at b;have j:aiC s g (c+1) G:=⟨b⟩;have an:(aK s c==10)=U:=by rw[bg];exact l
        generalize aK s c=H at af an;clear b l ak;go_wp2_with fail;go_round
        case rel=>exact⟨c+1,g,by omega,by omega,by go_num,j⟩
        case measure=>simp[intOf];omega
      ·obtain rfl:c=s.size:=by omega
       rw[aa (by rw[er (Nat.lt_irrefl _)];decide)]at b;have j:=aq b;clear b;go_wp2_with fail;go_round
       case rel=>exact⟨s.size,d,by omega,by omega,by go_num,by rw[j.out];exact f⟩
       case measure=>simp[intOf];omega
    ·rw[aa h]at b;have f:=aq b;clear b r;by_cases m:aK s a=45
     ·have ad:aK s (a+1)≠45:=fun B=>h ⟨m,B⟩;rw[aD ad]at q;rw[m]at t;generalize lk s (a+1)=bb at u q;clear i o y z A h x ad m;go_wp2_with (go_at_call 76;refine ee (u _) ?_);go_ret;exact⟨by rw[<-f.out];rfl,rfl⟩
     ·have ao:(aK s a==45)=U:=by rw[bg];exact m
      have ap:(aK s a !=45)=Q:=by rw[mo];exact m
      generalize aK s a=H at t y z A ao ap;clear i o h x m u q;go_wp2_with fail;go_ret;exact⟨by rw[<-f.out];rfl,rfl⟩
  ·obtain rfl:a=s.size:=by omega
   rw[ab (ah _)]at b;have f:=aq b;clear b r;go_wp2_with fail;go_ret;exact⟨by rw[<-f.out];rfl,rfl⟩
def Af(s:ByteArray)(p:Nat):Int:=if dl (aK s p)=Q then(if aK s p=48/\aK s (p+1)=120 then 2 else 3) else if aK s p=34 then 4 else 0
theorem adx(s:ByteArray)(p:Nat)(h:(fC s p).2=U):∃(t n:Int) (x:ByteArray),xm s p= Ax #[M N (if aK s p=48/\aK s (p+1)=120 then 2 else 3),M N p,M N t,M N 0,M N n,O x]:=by
 unfold xm;unfold fC at h;by_cases a:aK s p=48/\aK s (p+1)=120
 ·rw[ab a]at h;rw[ab a,ab a];unfold hxA;rw[aa (by rw[h];simp)];exact⟨_,_,_,rfl⟩
 ·rw[aa a]at h;rw[aa a,aa a];unfold nmA;rw[aa (by rw[h];simp)];exact⟨_,_,_,rfl⟩
def uG(s:ByteArray)(p:Nat):Int:=if(fj s p).ok=Q then(fj s p).k else Af s p
theorem ady(V:Array Value)(s:ByteArray):∀(f k j:Nat),ue V s f k=some j->j<k+f
 |0,k,j,h=>by simp[ue]at h
 |f+1,k,j,h=>by
  rw[ue]at h;split at h
  ·obtain rfl:=db h;omega
  ·have:=ady V s f (k+1) j h;omega
theorem ahh(s:ByteArray)(p:Nat)(h:(fj s p).ok=Q):1<=(fj s p).k/\(fj s p).k<=78:=by
 unfold fj at h⊢;split
 ·simp only;unfold wdP;cases hf:ue eE (s.extract p (qk s (s.size+1) p)) 22 0 with
  |none=>simp
  |some k=>have:=ady _ _ _ _ _ hf;simp only;omega
 split
 ·split
  ·simp only;unfold Hm;split
   ·simp
   ·split<;>simp
  ·rename_i a b c;rw[aa a,ab b,aa c]at h;cases h
 split
 ·split
  ·simp
  ·rename_i a b c d;rw[aa a,aa b,ab c,aa d]at h;cases h
 split
 ·rename_i a b c d;rw[aa a,aa b,aa c,ab d]at h;cases h
 ·rename_i a b c d;have:=aik (s.extract p s.size);simp only;omega
theorem JF(s:ByteArray)(p:Nat):0<=Af s p/\Af s p<=4:=by
 unfold Af;split
 ·split<;>omega
 ·split<;>omega
theorem Ig(s:ByteArray)(r:s.size<=70000)(p:Nat)(l:p<s.size)(w:World):
  Calls X 47 #[O s,M N p] w fun e j=>∃t n x q,e= Y (W #[Ax #[M N (uG s p),M N p,M N t,M N 0,M N n,O x],M N q])/\aj1 (fj s p) (uG s p) t n x q/\Below w.heap.size w j:=by
 cases hok0:(fj s p).ok with
 |true=>
  refine(If s r p l w).mono ?_;rintro e j ⟨ad,t,n,x,q,rfl,a,f⟩;obtain⟨_,rfl,_⟩:=a.yes hok0;have e:uG s p=(fj s p).k:=by unfold uG;rw[ab hok0]
  rw[e];exact⟨_,_,_,_,rfl,a,f⟩
 |false=>
  have C:uG s p=Af s p:=by unfold uG;rw[aa (by rw[hok0];simp)]
  rw[C];have b:=hok0;unfold fj at b;have h:¬cK (aK s p)=Q:=fun a=>by rw[ab a]at b;cases b
  rw[aa h]at b;by_cases c:dl (aK s p)=Q
  ·rw[ab c]at b;have u:(fC s p).2=U:=by
    cases i:(fC s p).2 with
    |true=>rw[ab i]at b;cases b
    |false=>rfl
   refine cd (sJ s (by omega) p l c w) fun j f=>?_;obtain⟨t,n,x,y⟩:=adx s p u;have g:Af s p=(if aK s p=48/\aK s (p+1)=120 then 2 else 3):=by unfold Af;rw[ab c]
   rw[y,g,Fk s p u];refine⟨_,_,_,_,rfl,⟨fun a=>(by rw[hok0]at a;cases a),fun a=>?_⟩,f⟩;unfold fj;rw[aa h,ab c,aa (by rw[u];simp)]
  ·rw[aa c]at b;by_cases d:aK s p=34
   ·have g:Af s p=4:=by unfold Af;rw[aa c,ab d]
    rw[g];refine cd (Ad s r p l d w) fun j f=>?_;have m:(fj s p).ok=(iu s (s.size+1) (p+1) []).1/\(fj s p).a=(iu s (s.size+1) (p+1) []).2.1:=by
     unfold fj;rw[aa h,aa c,ab d];cases i:(iu s (s.size+1) (p+1) []).1 with
     |true=>rw[ab rfl];exact⟨rfl,rfl⟩
     |false=>rw[aa (by simp)];exact⟨rfl,rfl⟩
    rw[hok0]at m;generalize K:iu s (s.size+1) (p+1) []=A at m;obtain⟨af,I,J⟩:=A;simp only at m;obtain⟨F,G⟩:=m;subst F;refine⟨_,_,_,_,rfl,⟨fun a=>(by rw[hok0]at a;cases a),fun a=>?_⟩,f⟩;rw[G];rfl
   ·rw[aa d]at b;have g:Af s p=0:=by unfold Af;rw[aa c,aa d]
    rw[g];have o:vL (s.extract p s.size)=0:=by
     by_cases i:vL (s.extract p s.size)=0
     ·exact i
     ·rw[aa i]at b;cases b
    have z:aK (s.extract p s.size) 0=aK s p:=Jy s p s.size 0 (ah _) (by omega);have k:¬aK s p=10:=fun k=>by
     have H:vL (s.extract p s.size)=7:=by unfold vL;rw[z,k];rfl
     rw[H]at o;exact absurd o (by decide)
    have v:=Jz (s.extract p s.size) (by rw[z];exact k);unfold Do at v;refine cd (Ae s r p l k (by simpa using h) (by simpa using c) d w) fun j f=>?_;generalize uC (fun x=>S (s.extract p s.size).data.toList x.data.toList) 30 0=B at v;cases B with
    |none=>
     refine⟨_,_,_,_,rfl,⟨fun a=>(by rw[hok0]at a;cases a),fun a=>?_⟩,f⟩;unfold fj;rw[aa h,aa c,aa d,ab o]
    |some L=>
     obtain⟨y,_,E,_⟩:=(show _/\_/\_/\_ from v);exact absurd o E
def Ih(st:List Int)(k:Int):List Int×Bool:=if 0<k then ed st k else(st,U)
def uH(s:ByteArray):Nat->List Int->Nat->Int->List Tk->List Tk×List Int×Int
 |0,st,_,_,_=>([],st,0)
 |f+1,st,p,b,c=>
  if s.size<=p then(c++[⟨6,(s.size:Nat),(s.size:Nat),b,0,⟨#[]⟩⟩],st, -1)
  else if uG s p=7 then
   (if(ed st 5).2=Q then uH s f (ed st 5).1 (blk s (s.size+1) (fj s p).a) (b+1) (c++[⟨5,(p:Nat),((fj s p).a:Nat),b,(fj s p).n,(fj s p).x⟩]) else uH s f st (blk s (s.size+1) (fj s p).a) (b+1) c)
  else if(Ih st (uG s p)).2=Q then
   (if(fj s p).ok=Q then uH s f (ed st (uG s p)).1 (blk s (s.size+1) (fj s p).a) b (c++[⟨uG s p,(p:Nat),((fj s p).a:Nat),b,(fj s p).n,(fj s p).x⟩]) else([],st,((fj s p).a:Nat)))
  else([],st,(wrongF s p (Fe st):Nat))
def jq(s:ByteArray):List Tk×List Int×Int:=uH s (s.size+1) [100,6] (blk s (s.size+1) 0) 1 []
theorem Ii(s:ByteArray)(p:Nat):0<=uG s p/\uG s p<=78:=by
 unfold uG;split
 ·rename_i a;have:=ahh s p a;omega
 ·have:=JF s p;omega
theorem adz(s:ByteArray)(p:Nat)(h:uG s p=7):(fj s p).ok=Q/\(fj s p).k=7:=by
 unfold uG at h;split at h
 ·rename_i a;exact⟨a,h⟩
 ·have:=JF s p;omega
inductive Fd:List Int->List Tk->List Int->Prop where
 |nil {st:List Int}:Fd st [] st
 |cons {st:List Int}{T:Tk}{ts:List Tk}{st':List Int}:1<=T.k->T.k<=78->T.k≠6->(ed st T.k).2=true->Fd (ed st T.k).1 ts st'->Fd st (T::ts) st'
theorem Ij(V:Array Value)(base:Int)(r:ByteArray)(b:40<=base):∀(f i:Nat)(a:Int×Nat),a.1≠6->(LA V base r f i a).1≠6
 |0,i,a,h=>h
 |f+1,i,a,h=>by
  unfold LA;refine Ij V base r b f (i+1) _ ?_;split
  ·show base+(i:Int)≠6;omega
  ·exact h
theorem agv(s:ByteArray)(p:Nat)(h:(fj s p).ok=Q):uG s p≠6:=by
 unfold uG;rw[ab h];unfold fj at h⊢;split
 ·simp only;unfold wdP;cases hf:ue eE (s.extract p (qk s (s.size+1) p)) 22 0 with
  |none=>simp
  |some e=>simp only;omega
 split
 ·split
  ·simp only;unfold Hm;split
   ·simp
   ·split<;>simp
  ·rename_i a b c;rw[aa a,ab b,aa c]at h;cases h
 split
 ·split
  ·simp
  ·rename_i a b c d;rw[aa a,aa b,ab c,aa d]at h;cases h
 split
 ·rename_i a b c d;rw[aa a,aa b,aa c,ab d]at h;cases h
 ·simp only;unfold vL;split
  ·omega
  split
  ·omega
  ·exact Ij _ _ _ (by omega) _ _ _ (Ij _ _ _ (by omega) _ _ _ (by simp))
theorem Ag(s:ByteArray):∀(f:Nat)(st:List Int)(p:Nat)(d:Int)(l:List Tk)(b:List Tk)(c:List Int),uH s f st p d l=(b,c, -1)->∃g i,b=l++g++[⟨6,(s.size:Nat),(s.size:Nat),i,0,⟨#[]⟩⟩]/\Fd st g c
 |0,st,p,d,l,b,c,h=>by simp[uH]at h
 |f+1,st,p,d,l,b,c,h=>by
  rw[uH]at h;split at h
  ·simp only[oc]at h;exact⟨[],d,by rw[dA];exact h.1.symm,by rw[<-h.2.1];exact .nil⟩
  split at h
  ·split at h
   ·rename_i j;obtain⟨g,i,e,m⟩:=Ag s f _ _ _ _ b c h;exact⟨⟨5,(p:Nat),((fj s p).a:Nat),d,(fj s p).n,(fj s p).x⟩::g,i,by rw[e];simp,.cons (by show(1:Int)<=5;omega) (by show(5:Int)<=78;omega) (by show(5:Int)≠6;omega) j m⟩
   ·exact Ag s f _ _ _ _ b c h
  split at h
  ·rename_i q j;split at h
   ·rename_i o;obtain⟨t,u⟩:=ahh s p o;have r:uG s p=(fj s p).k:=by unfold uG;rw[ab o]
    rw[show Ih st (uG s p)=ed st (uG s p) by unfold Ih;rw[ab (by omega)]]at j;obtain⟨g,i,e,m⟩:=Ag s f _ _ _ _ b c h;exact⟨⟨uG s p,(p:Nat),((fj s p).a:Nat),d,(fj s p).n,(fj s p).x⟩::g,i,by rw[e];simp,.cons (by show 1<=uG s p;omega) (by show uG s p<=78;omega) (agv s p o) j m⟩
   ·simp only[oc]at h;omega
  ·simp only[oc]at h;omega
section
variable {tk : Nat → Tk} {n : Nat}
theorem adA{t:Int}{i j:Nat}(a:(tk i).k=t)(l:i<n):∀(f:Nat)(st:List Int)(c:Nat)(b r:List Int)(m d:Nat),iH f st t c=some (b,some Q,d)->D tk n m (b++r) (i+1) j->∃m',D tk n m' (st++r) i j
 |0,_,_,_,_,_,_,h,_=>by simp[iH]at h
 |f+1,[],_,_,_,_,_,h,_=>by simp[iH]at h
 |f+1,s::q,c,b,r,m,d,h,p=>by
  by_cases o:s<100
  ·obtain⟨rfl,e,_⟩:=qz h o;have e:decide (s=t)=Q:=by simpa using e.symm
   exact⟨m+1,.tok o (by rw[a];exact(bc e).symm) l p⟩
  ·rcases jo h (by omega) with⟨v,g⟩|⟨_,_,g,_⟩
   ·obtain⟨m',u⟩:=adA a l f _ _ b r m d g p;exact⟨m'+1,.exp (r:=q++r) (by omega) l (by rw[a];exact v) (by rw[a,<-cI];exact u)⟩
   ·simp at g
theorem Ik{t:Int}{i j m:Nat}(b:(tk i).k=t)(c:i<n):∀(st:List Int),(ed st t).2=Q->D tk n m (ed st t).1 (i+1) j->∃m',D tk n m' st i j
 |[],h,_=>by simp[ed]at h
 |s::r,h,a=>by
  by_cases f:s<100
  ·rw[pf f]at h a;exact⟨m+1,.tok f (by rw[b];exact(bc h).symm) c a⟩
  ·by_cases e:(xE s t).1=[]/\(xE s t).2=Q
   ·rw[rA (by omega) e]at h a;obtain⟨m',d⟩:=Ik b c r h a;exact⟨m'+1,.exp (by omega) c (by rw[b];exact e.2) (by rw[b,e.1];exact d)⟩
   ·rw[ed,aa f,aa e]at h a;split at h
    ·rename_i q l o g;have p:l=Q:=h;subst p;rw[g]at a;exact adA b c 8 [s] 0 q r m o g a
    ·simp at h
theorem aj4:∀(f:List Tk)(st g:List Int)(i m j:Nat),Fd st f g->(∀q T,f[q]?=some T->tk (i+q)=T)->i+f.length<=n->D tk n m g (i+f.length) j->∃m',D tk n m' st i j
 |[],st,g,i,m,j,h,_,_,k=>by cases h;exact⟨m,k⟩
 |T::f,st,g,i,m,j,h,l,s,k=>by
  cases h with
  |cons a b c d e=>
   rw[di]at s k;obtain⟨m',p⟩:=aj4 f _ g (i+1) m j e (fun q o r=>by rw[show i+1+q=i+(q+1) by omega];exact l (q+1) o (by simpa using r)) (by omega) (by rw[show i+1+f.length=i+(f.length+1) by omega];exact k);exact Ik (by rw[show tk i=T from l 0 T rfl]) (by omega) st d p
end
def No6(st:List Int):Prop:=∀a∈st,a≠6/\a<=133
theorem agw:((List.range 34).all fun s=>(List.range 78).all fun t=>(xE ((s:Int)+100) ((t:Int)+1)).1.all fun x=>decide (x≠6)||!(xE ((s:Int)+100) ((t:Int)+1)).2)=Q:=by decide+kernel
theorem aiD{s t:Int}(i:100<=s)(j:s<=133)(k:1<=t)(l:t<=78)(h:(xE s t).2=Q):No6 (xE s t).1:=by
 have e:=List.all_eq_true.1 agw (s-100).toNat (by rw[xH];omega);have a:=List.all_eq_true.1 e (t-1).toNat (by rw[xH];omega);have f:(((s-100).toNat:Nat):Int)+100=s:=by omega
 have g:(((t-1).toNat:Nat):Int)+1=t:=by omega
 rw[f,g]at a;refine fun d c=>⟨?_,(Jb i j k l).1 d c⟩;have b:=List.all_eq_true.1 a d c;rw[h]at b;simpa using b
theorem FD{t:Int}(k:1<=t)(l:t<=78):∀(f:Nat)(st:List Int)(c:Nat)(a:List Int)(d:Nat),No6 st->iH f st t c=some (a,some Q,d)->No6 a/\t≠6
 |0,_,_,_,_,_,h=>by simp[iH]at h
 |f+1,[],_,_,_,_,h=>by simp[iH]at h
 |f+1,s::q,c,a,d,i,h=>by
  have j:No6 q:=fun b hx=>i b (dJ _ hx);have p:=i s (cH ..);by_cases m:s<100
  ·obtain⟨rfl,e,_⟩:=qz h m;have e:decide (s=t)=Q:=by simpa using e.symm
   have:=bc e;exact⟨j,by omega⟩
  ·rcases jo h (by omega) with⟨o,g⟩|⟨_,_,g,_⟩
   ·refine FD k l f _ _ a d (fun b hx=>?_) g;rcases List.mem_append.1 hx with hx|hx
    ·exact aiD (by omega) p.2 k l o b hx
    ·exact j b hx
   ·simp at g
theorem adB{t:Int}(e:1<=t)(f:t<=78):∀(a:List Int),No6 a->(ed (a++[6]) t).2=Q->(t=6/\(ed (a++[6]) t).1=[])\/(t≠6/\∃b,(ed (a++[6]) t).1=b++[6]/\No6 b)
 |[],_,h=>by
  rw[fd,pf (by omega)]at h⊢;exact .inl ⟨(bc h).symm,rfl⟩
 |s::a,i,h=>by
  have d:No6 a:=fun c hx=>i c (dJ _ hx);have j:=i s (cH ..);rw[fF]at h⊢;by_cases p:s<100
  ·rw[pf p]at h⊢;have:=bc h;exact .inr ⟨by omega,a,rfl,d⟩
  ·by_cases hx:(xE s t).1=[]/\(xE s t).2=Q
   ·rw[rA (by omega) hx]at h⊢;exact adB e f a d h
   ·obtain⟨k,b,l,g,_⟩:=C7 (by omega) j.2 e f hx;rw[rB (by omega) hx g]at h⊢;have q:b=Q:=h;subst q;obtain⟨m,o⟩:=FD e f 8 [s] 0 k l (fun c hx=>by rw[List.mem_singleton.1 hx];exact j) g;refine .inr ⟨o,k++a,by rw[cI],fun c hx=>?_⟩;rcases List.mem_append.1 hx with hx|hx
    ·exact m c hx
    ·exact d c hx
theorem adC:∀(f:List Tk)(a:List Int)(c:List Int),No6 a->Fd (a++[6]) f c->∃b,c=b++[6]/\No6 b
 |[],a,c,d,h=>by cases h;exact⟨a,rfl,d⟩
 |T::f,a,c,d,h=>by
  cases h with
  |cons i j k l g=>
   rcases adB i j a d l with⟨e,_⟩|⟨_,b,e,m⟩
   ·exact absurd e k
   ·rw[e]at g;exact adC f b c m g
theorem ahi{a:List Tk}{st f:List Int}(h:Fd st a f):∀{T:Tk},T∈a->1<=T.k/\T.k<=78/\T.k≠6:=by
 induction h with
 |nil=>intro T hT;cases hT
 |cons b c d g i e=>
  intro T hT;rcases List.mem_cons.1 hT with rfl|hT
  ·exact⟨b,c,d⟩
  ·exact e hT
def zTk:Tk:=⟨0,0,0,0,0,⟨#[]⟩⟩
def tj(a:List Tk)(q:Nat):Tk:=a.getD q zTk
theorem wg{a:List Tk}{q:Nat}{T:Tk}(h:a[q]?=some T):tj a q=T:=by unfold tj;rw[bm,h];rfl
theorem aiE{s:ByteArray}{toks:List Tk}{st:List Int}(h:jq s=(toks,st, -1))(l:(ed st 6).2=Q):∃(m:Nat) (R:Fo) (e:Int),toks.length=m+1/\tj toks m=⟨6,(s.size:Nat),(s.size:Nat),e,0,⟨#[]⟩⟩/\P (tj toks) (m+1) .stats 0 R m/\∀q,q<m->(tj toks q).k≠6:=by
 obtain⟨a,e,c,f⟩:=Ag s _ _ _ _ _ toks st h;rw[fd]at c;have L:No6 [100]:=fun ao I=>by rw[List.mem_singleton.1 I];omega
 obtain⟨u,B,F⟩:=adC a [100] st L f;have G:toks.length=a.length+1:=by rw[c];simp
 have o:tj toks a.length=⟨6,(s.size:Nat),(s.size:Nat),e,0,⟨#[]⟩⟩:=wg (by rw[c,gc (ah _),gj];rfl);have C:(ed st 6).1=[]:=by
  rw[B]at l⊢;rcases adB (by omega) (by omega) u F l with⟨_,g⟩|⟨g,_⟩
  ·exact g
  ·exact absurd rfl g
 have r:∀q b,a[q]?=some b->tj toks q=b:=fun q b d=>wg (by rw[c,ie (List.getElem?_eq_some_iff.1 d).1];exact d);have p:∀i,(tj toks i).k<100/\(i<a.length->(tj toks i).k≠6):=fun i=>by
  rcases Nat.lt_trichotomy i a.length with g|g|g
  ·rw[r i _ (aI g)];have:=ahi f (yv g);exact⟨by omega,fun _=>this.2.2⟩
  ·rw[g,o];exact⟨by simp,fun g=>by omega⟩
  ·unfold tj;rw[bm,fG (by omega)];exact⟨by simp[zTk],fun g=>by omega⟩
 obtain⟨J,v⟩:=Ik (tk:=tj toks) (n:=a.length+1) (t:=6) (i:=a.length) (j:=a.length+1) (m:=0) (by rw[o]) (by omega) st l (by rw[C];exact .nil);obtain⟨ak,w⟩:=aj4 (tk:=tj toks) (n:=a.length+1) a _ st 0 J _ f (fun q b d=>by rw[od];exact r q b d) (by omega) (by rw[od];exact v);obtain⟨K,am,k,x,y,_⟩:=D.split w [100] [6] rfl;obtain⟨A,ad,an,z,_⟩:=y.toks (by omega);have af:=z.nils;obtain rfl:k=a.length:=by omega
 obtain⟨R,E⟩:=(afE (n:=a.length+1) (fun i=>(p i).1) K).stats x (Nat.lt_succ_self _) (.inr A);exact⟨a.length,R,e,G,o,E,fun q H=>(p q).2 H⟩
