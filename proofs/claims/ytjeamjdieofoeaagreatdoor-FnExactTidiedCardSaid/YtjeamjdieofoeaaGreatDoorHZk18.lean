import Derived.Test.YtjeamjdieofoeaaGreatDoorHZk11
import Derived.Test.YtjeamjdieofoeaaGreatDoorHZk17
set_option linter.all false
set_option maxRecDepth 100000
set_option maxHeartbeats 12800000
open Bool renaming true->M,false->U
open Go.Value renaming int->O,string->Z,tuple->B1,agg->B4,pointer->C2,ownBlock->E1,slice->E2,bool->F0
open Go.IntKind renaming i64->Q
open Go.Proofs.Tryz renaming prog->T
open Go.Lib renaming hasPrefix->X
open ByteArray renaming empty->Y
open Option renaming none->Ax,some->A0
open Go renaming World->A2,Value->A9,Calls->B3,ownsRow_succ->Er,maxLen->Fs,TypeId->F1
open Go.Ending renaming returned->A5
open Go.RowKit renaming intOf->Br,Below->Bs,Hid->E0
open Go.Calls renaming quiet_of_same->B0
open Go.World renaming news_of_block->B6,setCell->Cb
open Go.Instr renaming index->B7
namespace Go.Proofs.YtjeamjdieofoeaaGreatDoor
open Go.RowKit
variable{C:List (Int×Int)}{W w:World}{b base e i j m mb n:Nat}{fr l s t:Int}{k:Bool}{r:List Int}{v:Value}{xs:List Value}
def bgC(c k:Int):Bool:=decide ((k=1/\bJ c=M)\/((k=2\/k=3)/\cp c=M)\/(k=4/\c=34))
def bgT(x:ByteArray)(k:Int):Bool:=decide (x.size<=(pG k).size)&&(((pG k).extract 0 x.size).toList==x.toList)
def bgL(x:ByteArray):List Int->Bool
 |[]=>U
 |k::r=>if bgC (ax x 0) k=M then M else if bgT x k=M then M else bgL x r
def uo(ks:List Int)(x:ByteArray):Bool:=if x.size=1/\ax x 0=45 then M else bgL x ks
structure alo (x:ByteArray) (ks:List Int) (R:Bool):Prop where
 out:bgL x ks=R
theorem JC(w:A2)(v:A9)(ks:List Int)(x:ByteArray)(h:dw w v ks)(a3:ks.length<=1000)(a0:0<x.size)(bf:x.size<=70000):
  B3 T 151 #[v,Z x] w fun e w'=>e= A5 (F0 (uo ks x))/\Bs w.heap.size w w':=by
 have G:=fun w=>cL a0 w;rw[show(((0:Nat):Int))=0 from rfl]at G;obtain⟨a7,a9,rfl⟩:=h.form;unfold uo;by_cases l:x.size=1/\ax x 0=45
 ·rw[ab l];rw[l.2]at G;have bh:=l.1;clear h l;go_in;go_wp2_with fail;go_ret;exact⟨rfl,ah _ _⟩
 ·rw[aa l];obtain⟨y,z⟩:=az (bgL x ks);rw[z];obtain⟨r,F⟩:=az ks.length;rw[F]at h a3⊢;have t:=gI h F;have af:alo x (ks.drop 0) y:=⟨z⟩;obtain⟨d,B⟩:=az (ax x 0);have an:=aq B;rw[B]at G l;have a1:((x.size:Int)=1/\(d==45)=U)\/((x.size:Int)==1)=U:=by
   rcases Classical.em (x.size=1) with g|g
   ·exact .inl ⟨by omega,by rw[cG];exact fun e=>l ⟨g,e⟩⟩
   ·exact .inr (by rw[cG];omega)
  clear h F z B l;rcases a1 with⟨p1,p2⟩|p1;all_goals
   go_in;go_wp2_with fail;clear p1;try clear p2
   go_loopw [18] (fun ad wr=>∃f:Nat,f<=r/\ad= O Q f/\alo x (ks.drop f) y/\Bs w.heap.size w wr) (fun ad _=>r-(Br ad).toNat)
   case atStart=>exact⟨0,aL _,rfl,af,ah _ _⟩
   case round=>
    obtain⟨f,bb,rfl,u,s⟩:=hrel;clear af;have c:=u.out;by_cases a2:f<r
    ·have bd:(f:Int)<(r:Int):=by omega
     have bc:(0:Int)<=(f:Int):=by omega
     obtain⟨a,E⟩:=cy t.2 a2;obtain⟨a8,rfl,ba⟩:=(t.1.below s).get E;have C:=List.getElem?_eq_some_iff.1 E;rw[jo C.1,C.2,bgL,an.out]at c;have j:=aq s;clear E C u s;by_cases q:bgC d a=M
     ·rw[ab q]at c;have k:=aq c;have o:=aH q;clear c q;rcases o with⟨rfl,b⟩|⟨rfl|rfl,b⟩|⟨rfl,rfl⟩
      ·go_wp2_with (go_at_call 144;refine(jv b _).mono ?_;rintro e w' ⟨rfl,p⟩;subst w');go_ret;exact⟨by rw[<-k.out];rfl,j⟩
      ·go_wp2_with (go_at_call 146;refine(dE b _).mono ?_;rintro e w' ⟨rfl,p⟩;subst w');go_ret;exact⟨by rw[<-k.out];rfl,j⟩
      ·go_wp2_with (go_at_call 146;refine(dE b _).mono ?_;rintro e w' ⟨rfl,p⟩;subst w');go_ret;exact⟨by rw[<-k.out];rfl,j⟩
      ·go_wp2_with fail;go_ret;exact⟨by rw[<-k.out];rfl,j⟩
     ·rw[aa q]at c;have o:¬((a=1/\bJ d=M)\/((a=2\/a=3)/\cp d=M)\/(a=4/\d=34)):=fun i=>q (bH i);have ak:(a=1/\bJ d=U)\/(a=2/\cp d=U)\/(a=3/\cp d=U)\/(a=4/\(d==34)=U)\/((a==1)=U/\(a==2)=U/\(a==3)=U/\(a==4)=U):=by
       by_cases H:a=1
       ·refine .inl ⟨H,?_⟩;cases i:bJ d with
        |false=>rfl
        |true=>exact absurd (.inl ⟨H,i⟩) o
       by_cases I:a=2
       ·refine .inr (.inl ⟨I,?_⟩);cases i:cp d with
        |false=>rfl
        |true=>exact absurd (.inr (.inl ⟨.inl I,i⟩)) o
       by_cases J:a=3
       ·refine .inr (.inr (.inl ⟨J,?_⟩));cases i:cp d with
        |false=>rfl
        |true=>exact absurd (.inr (.inl ⟨.inr J,i⟩)) o
       by_cases K:a=4
       ·exact .inr (.inr (.inr (.inl ⟨K,beq_eq_false_iff_ne.2 fun i=>o (.inr (.inr ⟨K,i⟩))⟩)))
       ·exact .inr (.inr (.inr (.inr ⟨beq_eq_false_iff_ne.2 H,beq_eq_false_iff_ne.2 I,beq_eq_false_iff_ne.2 J,beq_eq_false_iff_ne.2 K⟩)))
      have L:=fun w=>BB a w;unfold bgT at c;generalize pG a=m at L c;clear o q;by_cases n:(decide (x.size<=m.size)&&((m.extract 0 x.size).toList==x.toList))=M
      ·rw[ab n]at c;have k:=aq c;rw[ci]at n;obtain⟨al,a5⟩:=n;have t3:(x.size:Int)<=(m.size:Int):=by have:=aH al;omega
       clear c al;rcases ak with⟨rfl,b⟩|⟨rfl,b⟩|⟨rfl,b⟩|⟨rfl,b⟩|⟨ao,ap,ar,av⟩;all_goals
        go_wp2_with (first|(go_at_call 144;refine(jv b _).mono ?_;rintro e w' ⟨rfl,p⟩;subst w')|(go_at_call 146;refine(dE b _).mono ?_;rintro e w' ⟨rfl,p⟩;subst w')|(go_at_call 101;refine(L _).mono ?_;rintro e a6 ⟨rfl,A⟩));go_ret;exact⟨by rw[<-k.out];rfl,j.out.trans (A.mono j.size)⟩
      ·rw[aa n]at c;have am:alo x (ks.drop (f+1)) y:=⟨c⟩;clear c;have a4:(x.size:Int)<=(m.size:Int)/\((m.extract 0 x.size).toList==x.toList)=U\/¬(x.size:Int)<=(m.size:Int):=by
        rcases bj m.size x.size with g|g
        ·exact .inr (by omega)
        ·refine .inl ⟨by omega,?_⟩;rw[bH g,eI]at n;simpa using n
       clear n;rcases a4 with⟨t3,a5⟩|t3;all_goals
        rcases ak with⟨rfl,b⟩|⟨rfl,b⟩|⟨rfl,b⟩|⟨rfl,b⟩|⟨ao,ap,ar,av⟩;all_goals
         go_wp2_with (first|(go_at_call 144;refine(jv b _).mono ?_;rintro e w' ⟨rfl,p⟩;subst w')|(go_at_call 146;refine(dE b _).mono ?_;rintro e w' ⟨rfl,p⟩;subst w')|(go_at_call 101;refine(L _).mono ?_;rintro e a6 ⟨rfl,A⟩));exact⟨⟨f+1,by omega,by go_num,am,j.out.trans (A.mono j.size)⟩,by simp[Br];omega⟩
    ·obtain rfl:f=r:=by omega
     rw[jE (by rw[t.out.2];exact ag _),bgL]at c;have k:=aq c;clear c u;go_wp2_with fail;go_ret;exact⟨by rw[<-k.out];rfl,s⟩
def wE(s:ByteArray)(p n:Nat):Bool:=bJ (ax s p)&&(!(bJ (lk s (p+n)))&&!(cp (lk s (p+n))))
def wrL(s:ByteArray)(p:Nat)(ks:List Int):Nat->Nat->Nat
 |0,n=>n
 |f+1,n=>if p+n<s.size/\uo ks (s.extract p (p+n+1))=M then(if wE s p (n+1)=M then n+1 else wrL s p ks f (n+1)) else n
def wrongF(s:ByteArray)(p:Nat)(ks:List Int):Nat:=p+wrL s p ks (s.size+1) 0
structure afC (s:ByteArray) (p:Nat) (ks:List Int) (f n R:Nat):Prop where
 out:wrL s p ks f n=R
theorem Af(w:A2)(s:ByteArray)(p:Nat)(v:A9)(ks:List Int)(h:dw w v ks)(K:ks.length<=1000)(bc:s.size<=70000)(a5:p<s.size):
  B3 T 88 #[Z s,O Q p,v] w fun e w'=>e= A5 (O Q (wrongF s p ks))/\Bs w.heap.size w w':=by
 have a6:=fun w=>cL a5 w;obtain⟨H,I,rfl⟩:=h.form;unfold wrongF;obtain⟨j,u⟩:=az (wrL s p ks (s.size+1) 0);rw[u];obtain⟨af,B⟩:=az ks.length;have E:E0 (dw w (E2 H af I) ks/\ks.length<=1000):=⟨by rw[<-B];exact h,K⟩;have F:afC s p ks (s.size+1) 0 j:=⟨u⟩;rw[B];obtain⟨ap,A⟩:=az (ax s p);have al:=aq A;rw[A]at a6;have bd:(p:Int)<(s.size:Int):=by omega
 clear h K u A B;go_in;go_wp2_with fail;go_loopw [7] (fun C wr=>∃(a d:Nat),p+a<=s.size/\s.size<p+a+d/\C= O Q a/\afC s p ks d a j/\Bs w.heap.size w wr) (fun C _=>s.size+1-(Br C).toNat)
 case atStart=>exact⟨0,s.size+1,by omega,by omega,rfl,F,ah _ _⟩
 case round=>
  obtain⟨a,d,ba,a9,rfl,n,k⟩:=hrel;clear F;obtain⟨d,rfl⟩:∃a1,d=a1+1:=⟨d-1,by omega⟩;have b:=n.out;rw[wrL]at b;by_cases L:p+a<s.size
  ·have a4:(p:Int)+(a:Int)<(s.size:Int):=by omega
   have bb:(0:Int)<=(p:Int)+(a:Int):=by omega
   have ad:(s.extract p (p+a+1)).size=a+1:=by rw[iJ];omega
   have l:=fun (G:A2) (a2:Bs w.heap.size w G)=>JC G (E2 H af I) ks (s.extract p (p+a+1)) (E.1.below a2) E.2 (by omega) (by omega);have ar:(p:Int)+(a:Int)+1<=(s.size:Int):=by omega
   have av:IntKind.i64.wrap ((p:Int)+(a:Int)+1)=(p:Int)+(a:Int)+1:=by rw[ed];omega
   have a0:((p:Int)+(a:Int)+1).toNat=p+a+1:=by omega
   have c:=aq k;obtain⟨ak,t⟩:=az (uo ks (s.extract p (p+a+1)));rw[t]at l b;have a3:=c.out;cases ak with
   |false=>
    rw[aa (fun h=>by cases h.2)]at b;have f:=aq b;clear b n k t ad;go_wp2_with fail;refine bv (l _ c) fun a7 g=>?_;clear l;go_wp2_with fail;go_ret;exact⟨by first|(rw[<-f.out,xw];rfl)|(rw[<-f.out];rfl),c.out.trans (g.mono c.size)⟩
   |true=>
    rw[ab ⟨L,rfl⟩]at b;unfold wE at b;rw[al.out]at b;have m:=fun w=>gh s (by omega) ((p:Int)+((a:Int)+1)) (p+(a+1)) (by omega) w;generalize lk s (p+(a+1))=J at m b;obtain⟨am,x⟩:=az (bJ ap);obtain⟨an,y⟩:=az (bJ J);obtain⟨ao,z⟩:=az (cp J);rw[x,y,z]at b;have q:=fun w=>jv x w;have r:=fun w=>jv y w;have o:=fun w=>dE z w;have a8:=aq k;clear x y z n k t ad a3;go_wp2_with fail;refine bv (l _ c) fun a7 g=>?_;clear l ar av a0;cases am with
    |false=>
     have i:afC s p ks d (a+1) j:=⟨b⟩;clear b r o m;go_wp2_with (first|(go_at_call 144;with_reducible refine dB (q _) ?_));exact⟨⟨a+1,d,by omega,by omega,by go_num,i,c.out.trans (g.mono c.size)⟩,by simp[Br];omega⟩
    |true=>
     cases an with
     |true=>
      have i:afC s p ks d (a+1) j:=⟨b⟩;clear b o;go_wp2_with (first|(go_at_call 144;with_reducible refine dB (q _) ?_)|(go_at_call 144;with_reducible refine dB (r _) ?_)|(go_at_call 143;refine dB (m _) ?_));exact⟨⟨a+1,d,by omega,by omega,by go_num,i,c.out.trans (g.mono c.size)⟩,by simp[Br];omega⟩
     |false=>
      cases ao with
      |true=>
       have i:afC s p ks d (a+1) j:=⟨b⟩;clear b;go_wp2_with (first|(go_at_call 144;with_reducible refine dB (q _) ?_)|(go_at_call 144;with_reducible refine dB (r _) ?_)|(go_at_call 146;refine dB (o _) ?_)|(go_at_call 143;refine dB (m _) ?_));exact⟨⟨a+1,d,by omega,by omega,by go_num,i,c.out.trans (g.mono c.size)⟩,by simp[Br];omega⟩
      |false=>
       have f:=aq b;clear b;go_wp2_with (first|(go_at_call 144;with_reducible refine dB (q _) ?_)|(go_at_call 144;with_reducible refine dB (r _) ?_)|(go_at_call 146;refine dB (o _) ?_)|(go_at_call 143;refine dB (m _) ?_));go_ret;exact⟨by first|(rw[<-f.out,xw,xw];rfl)|(rw[<-f.out,xw];rfl)|(rw[<-f.out];rfl),c.out.trans (g.mono c.size)⟩
  ·rw[aa (fun h=>L h.1)]at b;have f:=aq b;have a4:¬(p:Int)+(a:Int)<(s.size:Int):=by omega
   clear b n;go_wp2_with fail;go_ret;exact⟨by first|(rw[<-f.out,xw];rfl)|(rw[<-f.out];rfl),k⟩
open Go.Maps Go.WideMaps
def Ic(s:ByteArray)(p:Nat):Int×ByteArray:=match vH ez (s.extract p (mi s (s.size+1) p)) 22 0 with|some k=>(10+(k:Int),⟨#[]⟩)|none=>(1,s.extract p (mi s (s.size+1) p))
theorem anh(s:ByteArray)(p:Nat):wdT s p= B4 #[O Q (Ic s p).1,O Q p,O Q (mi s (s.size+1) p),O Q 0,O Q 0,Z (Ic s p).2]:=by
 unfold wdT Ic;cases vH ez (s.extract p (mi s (s.size+1) p)) 22 0<;>rfl
theorem abB{t:Nat}{w':A2}{D:DataW Unit}(h:w.ownsMap T 9 (plainElem (H:=Unit) T 3) mb n D)(g:qJ b t w w')(e:mb≠b)(f:mb≠t):w'.ownsMap T 9 (plainElem (H:=Unit) T 3) mb n D:=by
 obtain⟨d,c,a,i⟩:=h;exact⟨d,c,(g.block mb (ai a) e f).trans a,i⟩
theorem GF(s:ByteArray)(bt:s.size<=70000)(b t mb:Nat)(w:A2)(p:Nat)(l an:Int)(a3:p<s.size)(x:b≠t)(bc:mb≠b)(bf:mb≠t)(hS:gc b w s (.map (A0 mb)) fr p l U)(ad:dD t w 0 p 0 an 0 Y)(a0:w.ownsMap T 9 (plainElem (H:=Unit) T 3) mb 22 (xF 22)):
  B3 T 199 #[.pointer (A0 ⟨b,0,Ax⟩),.pointer (A0 ⟨t,0,Ax⟩)] w fun e w'=>e= .returned (.tuple #[])/\qJ b t w w'/\gc b w' s (.map (A0 mb)) fr (mi s (s.size+1) p:Int) l U/\dD t w' (Ic s p).1 p 0 an 0 (Ic s p).2:=by
 have bs:b<w.heap.size:=ai hS;have bw:t<w.heap.size:=ai ad;have a9:=tH s (s.size+1) p (gq a3);have a6:=fun w=>zD s (by omega) p (gq a3) w;obtain⟨i,j,k,m,n,o,q,r⟩:=eK hS;obtain⟨A,B,C,E,F,G,I⟩:=bg ad;unfold Ic;generalize mi s (s.size+1) p=a at a6 a9;obtain⟨a8,K⟩:=az (vH ez (s.extract p a) 22 0);rw[K];have ap:=aq K;clear K;go_in;go_upto_region 0 with fail
 go_cut [16] from 7 (fun br ao=>br= .int .i64 (a:Int)/\qJ b t w ao/\gc b ao s (.map (A0 mb)) fr a l U/\dD t ao 0 p 0 an 0 Y)
 case first=>
  go_region_with (first|(go_at_call 242;refine(a6 _).mono ?_;rintro e w' ⟨rfl,bh⟩;obtain rfl:=bh.symm))
  all_goals
   go_wp2_with fail;go_meet
   case rel=>exact⟨rfl,((qJ.refl b t w).setB 3 _).drew,hS.setP _,ad.other (dv x) _⟩
 case rest=>
  obtain⟨rfl,ak,L,af⟩:=hcut;clear i j k m n o q r A B C E F G I;have a1:=abB a0 ak bc bf;obtain⟨i,j,k,m,n,o,q,r⟩:=eK L;obtain⟨A,B,C,E,F,G,I⟩:=bg af;go_upto_region 1 with fail
  go_quiet (fail)
  have d:=L.drewN nq;have f:=af.drewN nq;have y:=ak.drewN nq;have J:(wc.drewN nq).ownsMap T 9 (plainElem (H:=Unit) T 3) mb 22 (xF 22):=a1;generalize wc.drewN nq=ar at d f y J⊢;clear i j k m n o q r A B C E F G I L af ak a1 a0;obtain⟨i,j,k,m,n,o,q,r⟩:=eK d;obtain⟨A,B,C,E,F,G,I⟩:=bg f;have bl:b<ar.heap.size:=ai d;have bn:t<ar.heap.size:=ai f;have a4:(s.extract p a).size<=70000:=by rw[iJ];omega
  have z:keyOf T 9 (.string (s.extract p a))=A0 (.string (s.extract p a).data.toList):=keyOf_string_mk Tryz.underlying9 (by unfold Fs;omega);have c:=Ir (H:=Unit) (s.extract p a);have am:=fun w=>EG (s.extract p a) (by omega) w;unfold ti at c;rw[ap.out]at c;cases a8 with
  |some a5=>
   have a2:=ah1 (H:=Unit) (s.extract p a) a5 ap;have h:Maps.has (xF (H:=Unit) 22) (.string (s.extract p a).data.toList)=M:=c;clear c;generalize s.extract p a=bo at z a2 h am a4⊢;go_wp2_with (at_lookup;refine wpList_lookup_own_ok_int _ rfl _ _ 91 rfl 9 3 .i64 ahI Tryz.underlying91 Tryz.underlying3 (by kernel_rfl) mb 22 _ rfl J _ _ rfl z ?_;intro av g bk;rw[h];rw[a2]at g;obtain rfl:10+(a5:Int)=av:=by injection g with g;injection g);refine aI (dJ rfl _ _ _) rfl ?_;exact⟨rfl,y.setT 0 _,d.other x _,f.setKind _⟩
  |none=>
   have h:Maps.has (xF (H:=Unit) 22) (.string (s.extract p a).data.toList)=U:=c;clear c;obtain⟨bo,al⟩:=az (s.extract p a);rw[al]at z h am a4⊢;have a7:=aq al;clear al;go_wp2_with (first|(at_lookup;refine wpList_lookup_own_ok_int _ rfl _ _ 91 rfl 9 3 .i64 ahI Tryz.underlying91 Tryz.underlying3 (by kernel_rfl) mb 22 _ rfl J _ _ rfl z ?_;intro av g bk;rw[h])|(go_at_call 243;refine(am _).mono ?_;rintro e bx ⟨rfl,v⟩;have ba:=d.below v bl;have u:=f.below v bn;have bb:=y.below (v.mono y.size);have tf3:=(bg u).2.2.2.2.2.2;have bA:=(bg u).1;have bD:=(bg u).2.2.2.2.2.1;clear v));go_end0
   exact⟨rfl,(bb.setT 0 _).setT 5 _,(ba.other x _).other x _,by rw[a7.out];exact(u.setKind _).setText _⟩
theorem ga(s:ByteArray)(a b i:Nat)(d:b<=s.size)(e:a+i<b:=by omega):ax (s.extract a b) i=ax s (a+i):=by
 rw[F9,F9];have c:(s.extract a b).data.toList=(s.data.toList.drop a).take (b-a):=by rw[<-fE,Lib.extract_toList]
 rw[c,jH,ab (by omega),pI]
theorem nD(s:ByteArray)(a b:Nat)(c:b<=s.size):(s.extract a b).size=b-a:=by rw[iJ];omega
theorem abC(s:ByteArray)(a b p:Nat)(c:b<=s.size):∀n,a+p+n<=b->tB (s.extract a b) p n=tB s (a+p) n
 |0,_=>rfl
 |n+1,h=>by
  rw[tB,tB,abC s a b p c n (by omega),ga s a b (p+n) c,eE]
theorem abD(s:ByteArray)(a b p:Nat)(c:b<=s.size):∀n,a+p+n<=b->tC (s.extract a b) p n=tC s (a+p) n
 |0,_=>rfl
 |n+1,h=>by
  rw[tC,tC,abD s a b p c n (by omega),ga s a b (p+n) c,eE]
def vC(s:ByteArray)(p:Nat):Int×Int×ByteArray:=
 if ax s p=48/\ax s (p+1)=120 then(2,wrap64 (tB s (p+2) ((di s p).1-(p+2)):Int),⟨#[]⟩)
 else match (if EA s p=M then Ax else tC s p ((di s p).1-p)) with
  |some a=>(2,(a:Int),⟨#[]⟩)
  |none=>(3,0,s.extract p (di s p).1)
theorem alp(s:ByteArray)(p:Nat)(a:(di s p).2=M):Au s p= B4 #[O Q (vC s p).1,O Q p,O Q ((di s p).1:Int),O Q 0,O Q (vC s p).2.1,Z (vC s p).2.2]/\yg s p= -1:=by
 unfold Au yg vC;by_cases b:ax s p=48/\ax s (p+1)=120
 ·have c:di s p=mu s (p+2):=by unfold di;rw[ab b]
  rw[c]at a⊢;simp only[ab b];unfold hxA hxF;rw[ab a,ab a];exact⟨rfl,rfl⟩
 ·have c:di s p=nJ s (nA1 s (nA0 s p)):=by unfold di;rw[aa b]
  rw[c]at a⊢;simp only[aa b];unfold nmA nmF;rw[ab a,ab a];cases EA s p with
  |true=>exact⟨rfl,rfl⟩
  |false=>
   simp only[aa (show ¬U=M by simp)];cases tC s p ((nJ s (nA1 s (nA0 s p))).1-p)<;>exact⟨rfl,by trivial⟩
theorem JD(s:ByteArray)(p:Nat)(a:(di s p).2=U):yg s p=((di s p).1:Int):=by
 unfold yg;by_cases b:ax s p=48/\ax s (p+1)=120
 ·have c:di s p=mu s (p+2):=by unfold di;rw[ab b]
  rw[c]at a⊢;rw[ab b];unfold hxF;rw[aa (by rw[a];simp)]
 ·have c:di s p=nJ s (nA1 s (nA0 s p)):=by unfold di;rw[aa b]
  rw[c]at a⊢;rw[aa b];unfold nmF;rw[aa (by rw[a];simp)]
theorem adt(s:ByteArray)(p:Nat)(j:p<s.size)(g:cp (ax s p)=M)(o:¬(ax s p=48/\ax s (p+1)=120)):yF (s.extract p (di s p).1)=Option.map (fun u:Nat=>(u:Int)) (if EA s p=M then Ax else tC s p ((di s p).1-p)):=by
 have c:=ss s p j;have q:=nD s p (di s p).1 c.2;have b:∀a,p+a<(di s p).1->ax (s.extract p (di s p).1) a=ax s (p+a):=fun a i=>ga s p _ a c.2 i;have f:cp (ax (s.extract p (di s p).1) 0)=M:=by rw[b 0 (by omega)];exact g
 have d:di s p=nJ s (nA1 s (nA0 s p)):=by unfold di;rw[aa o]
 have k:=B9 s p j;have l:=Ca s _ k.2;have r:=Li s _ l.2;cases hk:EA s p with
 |false=>
  obtain⟨m,e⟩:=Gg s p g hk;have t:(di s p).1=nA0 s p:=by rw[d,m]
  rw[IH _ (by omega) (fun a i=>by rw[b a (by omega)];exact e _ (by omega) (by omega))];rw[q,abD s p _ 0 c.2 _ (by omega),lH];simp
 |true=>
  simp only[jq,Option.map_none];unfold EA at hk;rcases aH hk with h|h
  ·have n:nA0 s p<(di s p).1:=by
    have:nA0 s p<nA1 s (nA0 s p):=by
     unfold nA1;rw[ab h];have:=so s (nA0 s p+1) (by have:=qx h.2;omega);omega
    rw[d];omega
   exact yc _ f (nA0 s p-p) (by omega) (by rw[b _ (by omega),show p+(nA0 s p-p)=nA0 s p by omega,h.1];decide)
  ·have n:nA1 s (nA0 s p)<(di s p).1:=by
    have e:=ae9 s _ h;have v:=so s _ e.2;rw[d];unfold nJ;rw[ab h];simp only;omega
   exact yc _ f (nA1 s (nA0 s p)-p) (by omega) (by rw[b _ (by omega),show p+(nA1 s (nA0 s p)-p)=nA1 s (nA0 s p) by omega,h];decide)
theorem JE(s:ByteArray)(E:s.size<=1100000)(p:Nat)(l:p<s.size)(q:cp (ax s p)=M)(u:(di s p).2=M)(w:A2)(o:nA w):
  B3 T 245 #[Z (s.extract p (di s p).1)] w fun e w'=>(((vC s p).1=2/\e= A5 (B1 #[O Q (vC s p).2.1,F0 M])/\(vC s p).2.2=⟨#[]⟩)\/((vC s p).1=3/\(∃x,e= A5 (B1 #[O Q x,F0 U]))/\(vC s p).2.1=0/\(vC s p).2.2=s.extract p (di s p).1))/\Bs w.heap.size w w':=by
 have f:=ss s p l;have y:=nD s p (di s p).1 f.2;have c:∀b,p+b<(di s p).1->ax (s.extract p (di s p).1) b=ax s (p+b):=fun b t=>ga s p _ b f.2 t;by_cases a:ax s p=48/\ax s (p+1)=120
 ·have e:di s p=mu s (p+2):=by unfold di;rw[ab a]
  have r:mu s (p+2)=((di s p).1,M):=by rw[<-e];exact Prod.ext rfl u
  obtain⟨z,A,B,n⟩:=II r;refine(En _ (by rw[c 0 (by omega)];exact a.1) (by rw[c 1 (by omega)];exact a.2) (by omega) (by omega) (fun b g d=>by rw[c b (by omega)];exact n _ (by omega) (by omega)) w).mono ?_;rintro m w' ⟨rfl,i⟩;rw[y,abC s p _ 2 f.2 _ (by omega)];have h:vC s p=(2,wrap64 (tB s (p+2) ((di s p).1-(p+2)):Int),⟨#[]⟩):=by unfold vC;rw[ab a]
  rw[h];exact⟨.inl ⟨rfl,by rw[show(di s p).1-p-2=(di s p).1-(p+2) by omega],rfl⟩,i⟩
 ·have v:¬(ax (s.extract p (di s p).1) 0=48/\ax (s.extract p (di s p).1) 1=120):=by
   rintro ⟨g,d⟩;have C:=db d;rw[c 0 (by omega)]at g;rw[c 1 (by omega)]at d;exact a ⟨g,d⟩
  refine(Eo _ (by omega) v w o).mono ?_;rintro m w' ⟨⟨x,rfl,j⟩,i⟩;rw[adt s p l q a]at j⊢;refine⟨?_,i⟩;have h:vC s p=match (if EA s p=M then Ax else tC s p ((di s p).1-p)) with|some k=>(2,(k:Int),⟨#[]⟩)|none=>(3,0,s.extract p (di s p).1):=by unfold vC;rw[aa a]
  rw[h];cases hc:(if EA s p=M then Ax else tC s p ((di s p).1-p)) with
  |some k=>
   rw[hc]at j;have:=j k rfl;subst this;exact .inl ⟨rfl,rfl,rfl⟩
  |none=>exact .inr ⟨rfl,⟨x,rfl⟩,rfl,rfl⟩
theorem CJ(s:ByteArray)(bA:s.size<=70000)(b t:Nat)(w:A2)(m:A9)(p:Nat)(l a0:Int)(ar:p<s.size)(bf:cp (ax s p)=M)(f:b≠t)(hS:gc b w s m fr p l U)(z:dD t w 0 p 0 a0 0 Y)(u:nA w)(bt:12<=b)(bw:12<=t):
  B3 T 201 #[C2 (A0 ⟨b,0,Ax⟩),C2 (A0 ⟨t,0,Ax⟩)] w fun e w'=>e= A5 (B1 #[])/\qJ b t w w'/\
   (if(di s p).2=M then gc b w' s m fr ((di s p).1:Int) l U/\dD t w' (vC s p).1 p 0 a0 (vC s p).2.1 (vC s p).2.2 else gc b w' s m fr ((di s p).1:Int) l M/\dD t w' 0 p 0 a0 0 Y):=by
 have bx:b<w.heap.size:=ai hS;have bD:t<w.heap.size:=ai z;have a2:=ss s p ar;have r:=fun w=>vK s (by omega) p ar w;have q:=fun bk w u=>JE s (by omega) p ar bf bk w u;obtain⟨ad,af,ak,al,am,an,ao,ap⟩:=eK hS;obtain⟨G,i,j,H,I,J,K⟩:=bg z;generalize vC s p=bb at q;obtain⟨bE,bF,b0⟩:=bb;generalize di s p=ba at r a2 q;obtain⟨c,br⟩:=ba;simp only at r a2 q⊢;cases br with
 |false=>
  simp only[AJ,if_false];go_in;go_upto_region 0 with fail
  go_quiet ((go_at_call 244;exact B0 (r _)))
  have g:=(hS.drewN nq).setP (c:Int);have h:=(z.drewN nq).other (a:=⟨b,3,Ax⟩) (dv f) (O Q (c:Int));have n:=((qJ.refl b t w).drewN nq).setB 3 (O Q (c:Int));go_wp2;refine aI (dJ rfl _ _ _) rfl ?_;exact⟨rfl,n.setB 5 _,g.setK _,h.other (dv f) _⟩
 |true=>
  simp only[jq];have a8:=q rfl;clear q;go_in;go_upto_region 0 with fail
  go_quiet ((go_at_call 244;exact B0 (r _)))
  have g:=(hS.drewN nq).setP (c:Int);have h:=(z.drewN nq).other (a:=⟨b,3,Ax⟩) (dv f) (O Q (c:Int));have n:=((qJ.refl b t w).drewN nq).setB 3 (O Q (c:Int));have v:nA ((w.drewN nq).setCell ⟨b,3,Ax⟩ (O Q (c:Int))):=by
   obtain⟨⟨i,bs,a3⟩,⟨j,p2,a4⟩⟩:=u;refine⟨⟨i,bs,?_⟩,⟨j,p2,?_⟩⟩
   ·unfold World.cell? at a3⊢;rw[aB _ _ _ _ (by simp;omega)];exact a3
   ·unfold World.cell? at a4⊢;rw[aB _ _ _ _ (by simp;omega)];exact a4
  go_upto_region 4 with fail
  generalize (w.drewN nq).setCell ⟨b,3,Ax⟩ (O Q (c:Int))=a1 at g h n v⊢;clear ad af ak al am an ao ap G i j H I J K r;obtain⟨ad,af,ak,al,am,an,ao,ap⟩:=eK g;obtain⟨G,i,j,H,I,J,K⟩:=bg h;go_quiet (fail)
  have x:=g.drewN nq;have A:=h.drewN nq;have o:=n.drewN nq;have a5:nA (a1.drewN nq):=⟨v.syn,v.rng⟩;generalize a1.drewN nq=L at x A o a5⊢;clear ad af ak al am an ao ap G i j H I J K g h n v u;have a6:b<L.heap.size:=ai x;have a7:t<L.heap.size:=ai A;have bo:(s.extract p c).size<=70000:=by rw[iJ];omega
  have av:=fun w=>EG (s.extract p c) (by omega) w;have F:=a8 L a5;clear a8;generalize s.extract p c=b1 at av F bo⊢;go_wp2_with fail;refine F.mono ?_;rintro e a9 ⟨(⟨rfl,rfl,rfl⟩|⟨rfl,⟨b3,rfl⟩,rfl,rfl⟩),d⟩
  ·have y:=x.below d a6;have k:=A.below d a7;have E:=o.below (d.mono o.size);clear d F av;obtain⟨G,i,j,H,I,J,K⟩:=bg k;go_wp2;refine aI (dJ rfl _ _ _) rfl ?_;exact⟨rfl,(E.setT 0 _).setT 4 _,(y.other f _).other f _,(k.setKind _).setNum _⟩
  ·have y:=x.below d a6;have k:=A.below d a7;have E:=o.below (d.mono o.size);have bl:b<a9.heap.size:=ai y;have bn:t<a9.heap.size:=ai k;clear d F;go_wp2_with (go_at_call 243;refine(av _).mono ?_;rintro e b2 ⟨rfl,C⟩;have bc:=y.below C bl;have B:=k.below C bn;have bh:=E.below (C.mono E.size);have tf4:=(bg B).2.2.2.2.2.2;have b4:=(bg B).1;have b5:=(bg B).2.2.2.2.2.1;clear C);go_end0
   exact⟨rfl,(bh.setT 0 _).setT 5 _,(bc.other f _).other f _,(B.setKind _).setText _⟩
theorem aoC(k:Nat)(a:k<11)(w:A2):(B7 230 (B4 jh) (O Q (k:Int))).run T w= .ok (Z (bK jh k)) w:=by
 rcases(show k=0\/k=1\/k=2\/k=3\/k=4\/k=5\/k=6\/k=7\/k=8\/k=9\/k=10 by omega) with rfl|rfl|rfl|rfl|rfl|rfl|rfl|rfl|rfl|rfl|rfl;all_goals kernel_rfl
theorem aoD(k:Nat)(a:k<18)(w:A2):(B7 231 (B4 lL) (O Q (k:Int))).run T w= .ok (Z (bK lL k)) w:=by
 rcases(show k=0\/k=1\/k=2\/k=3\/k=4\/k=5\/k=6\/k=7\/k=8\/k=9\/k=10\/k=11\/k=12\/k=13\/k=14\/k=15\/k=16\/k=17 by omega) with rfl|rfl|rfl|rfl|rfl|rfl|rfl|rfl|rfl|rfl|rfl|rfl|rfl|rfl|rfl|rfl|rfl|rfl;all_goals kernel_rfl
theorem osz:∀k:Fin 11,(bK jh k.val).size<=3:=by decide
theorem bsz:∀k:Fin 18,(bK lL k.val).size<=3:=by decide
def Bm(V:Array A9)(base:Int)(r:ByteArray):Nat->Nat->Int×Nat->Int×Nat
 |0,_,a=>a
 |f+1,i,a=>Bm V base r f (i+1) (if a.2<(bK V i).size/\X r.data.toList (bK V i).data.toList=M then(base+(i:Int),(bK V i).size) else a)
structure D3 (V:Array A9) (base:Int) (r:ByteArray) (f i:Nat) (a R:Int×Nat):Prop where
 out:Bm V base r f i a=R
def rz(r:ByteArray):Int:=if ax r 0=59 then 5 else if ax r 0=10 then 7 else(Bm lL 61 r 18 0 (Bm jh 40 r 11 0 (0,0))).1
theorem GG(r:ByteArray)(a7:r.size<=70000)(a0:0<r.size)(w:A2)(a1:qv w):B3 T 247 #[.string r] w fun e w'=>e= .returned (.int .i64 (rz r))/\w'=w:=by
 unfold rz;have H:∀w,(B7 9 (.string r) (.int .i64 0)).run T w= .ok (.int .u8 (ax r 0)) w:=fun w=>cL a0 w;by_cases t:ax r 0=59
 ·rw[ab t];rw[t]at H;go_in;go_wp2;go_ret;exact⟨rfl,rfl⟩
 rw[aa t];by_cases q:ax r 0=10
 ·rw[ab q];rw[q]at H;go_in;go_wp2;go_ret;exact⟨rfl,rfl⟩
 rw[aa q];have av:(ax r 0==59)=U:=by rw[cG];exact t
 have ar:(ax r 0==10)=U:=by rw[cG];exact q
 generalize ax r 0=a6 at H av ar;clear t q;obtain⟨-,⟨a2,ao,ak⟩,⟨a3,ap,af⟩⟩:=a1;have al:=fun a u w=>aoC a u w;have ad:=fun a u w=>aoD a u w;obtain⟨z,B⟩:∃z:Array A9,jh=z:=⟨_,rfl⟩;obtain⟨y,A⟩:∃y:Array A9,lL=y:=⟨_,rfl⟩;have an:E0 (∀a:Nat,a<11->∀w,(B7 230 (.agg z) (.int .i64 (a:Int))).run T w= .ok (.string (bK jh a)) w):=by rw[<-B];exact al
 have am:E0 (∀a:Nat,a<18->∀w,(B7 231 (.agg y) (.int .i64 (a:Int))).run T w= .ok (.string (bK lL a)) w):=by rw[<-A];exact ad
 rw[B]at ak;rw[A]at af;have a4:z.size=11:=by rw[<-B];rfl
 have a5:y.size=18:=by rw[<-A];rfl
 clear al ad B A;obtain⟨k,E⟩:=az (Bm jh 40 r 11 0 (0,0));rw[E];obtain⟨o,F⟩:=az (Bm lL 61 r 18 0 k);rw[F];have K:D3 jh 40 r 11 0 (0,0) k:=⟨E⟩;have L:D3 lL 61 r 18 0 k o:=⟨F⟩;clear E F;go_in;go_wp2_with (refine uB rfl 230 _ rfl 1 rfl a2 _ ao _ ak Tryz.underlying230 rfl (by rw[a4];kernel_rfl) ?_);go_loop [3,4,16] (fun I J m=>∃(a c:Nat) (d:Int),a<=11/\c<=3/\I= .int .i64 d/\J= .int .i64 c/\m= .int .i64 a/\D3 jh 40 r (11-a) a (d,c) k) (fun _ _ m=>11-(Br m).toNat)
 case atStart=>exact⟨0,0,0,by omega,by omega,rfl,rfl,rfl,K⟩
 case round=>
  obtain⟨a,c,d,u,n,rfl,rfl,rfl,j⟩:=hrel;by_cases v:a<11
  ·have G:=an.out a v;have x:(bK jh a).size<=3:=osz ⟨a,v⟩;have b:=j.out;rw[show 11-a=(11-(a+1))+1 by omega,Bm]at b;have i:=fun w=>Tryz.strings_HasPrefix r (bK jh a) w;generalize bK jh a=f at G x b i;by_cases p:c<f.size
   ·have C:(c:Int)<(f.size:Int):=by omega
    by_cases g:X r.data.toList f.data.toList=M
    ·rw[ab ⟨p,g⟩]at b;have h:D3 jh 40 r (11-(a+1)) (a+1) (40+(a:Int),f.size) k:=⟨b⟩;rw[g]at i;clear b g;go_wp2_with (go_at_call 130;refine dB (i _) ?_);go_round
     case rel=>exact⟨a+1,f.size,40+(a:Int),by omega,x,by go_num,rfl,by go_num,h⟩
     case measure=>simp[Br];omega
    ·have s:X r.data.toList f.data.toList=U:=by simpa using g
     rw[aa (fun l=>g l.2)]at b;have h:D3 jh 40 r (11-(a+1)) (a+1) (d,c) k:=⟨b⟩;rw[s]at i;clear b g s;go_wp2_with (go_at_call 130;refine dB (i _) ?_);go_round
     case rel=>exact⟨a+1,c,d,by omega,n,rfl,rfl,by go_num,h⟩
     case measure=>simp[Br];omega
   ·have C:¬(c:Int)<(f.size:Int):=by omega
    rw[aa (fun l=>p l.1)]at b;have h:D3 jh 40 r (11-(a+1)) (a+1) (d,c) k:=⟨b⟩;clear b;go_wp2;go_round
    case rel=>exact⟨a+1,c,d,by omega,n,rfl,rfl,by go_num,h⟩
    case measure=>simp[Br];omega
  ·obtain rfl:a=11:=by omega
   have b:=j.out;rw[eC,Bm]at b;subst b;clear j K;go_wp2_with (refine uB rfl 231 _ rfl 2 rfl a3 _ ap _ af Tryz.underlying231 rfl (by rw[a5];kernel_rfl) ?_);go_loop [3,4,35] (fun I J m=>∃(a c:Nat) (d:Int),a<=18/\c<=3/\I= .int .i64 d/\J= .int .i64 c/\m= .int .i64 a/\D3 lL 61 r (18-a) a (d,c) o) (fun _ _ m=>18-(Br m).toNat)
   case atStart=>exact⟨0,c,d,by omega,n,rfl,rfl,rfl,L⟩
   case round=>
    obtain⟨a,c,d,u,n,rfl,rfl,rfl,j⟩:=hrel;by_cases v:a<18
    ·have G:=am.out a v;have x:(bK lL a).size<=3:=bsz ⟨a,v⟩;have b:=j.out;rw[show 18-a=(18-(a+1))+1 by omega,Bm]at b;have i:=fun w=>Tryz.strings_HasPrefix r (bK lL a) w;generalize bK lL a=f at G x b i;by_cases p:c<f.size
     ·have C:(c:Int)<(f.size:Int):=by omega
      by_cases g:X r.data.toList f.data.toList=M
      ·rw[ab ⟨p,g⟩]at b;have h:D3 lL 61 r (18-(a+1)) (a+1) (61+(a:Int),f.size) o:=⟨b⟩;rw[g]at i;clear b g;go_wp2_with (go_at_call 130;refine dB (i _) ?_);go_round
       case rel=>exact⟨a+1,f.size,61+(a:Int),by omega,x,by go_num,rfl,by go_num,h⟩
       case measure=>simp[Br];omega
      ·have s:X r.data.toList f.data.toList=U:=by simpa using g
       rw[aa (fun l=>g l.2)]at b;have h:D3 lL 61 r (18-(a+1)) (a+1) (d,c) o:=⟨b⟩;rw[s]at i;clear b g s;go_wp2_with (go_at_call 130;refine dB (i _) ?_);go_round
       case rel=>exact⟨a+1,c,d,by omega,n,rfl,rfl,by go_num,h⟩
       case measure=>simp[Br];omega
     ·have C:¬(c:Int)<(f.size:Int):=by omega
      rw[aa (fun l=>p l.1)]at b;have h:D3 lL 61 r (18-(a+1)) (a+1) (d,c) o:=⟨b⟩;clear b;go_wp2;go_round
      case rel=>exact⟨a+1,c,d,by omega,n,rfl,rfl,by go_num,h⟩
      case measure=>simp[Br];omega
    ·obtain rfl:a=18:=by omega
     have b:=j.out;rw[eC,Bm]at b;subst b;clear j L;go_wp2;go_ret;exact⟨rfl,rfl⟩
theorem qv.setCell(h:qv w){a:Addr}(l:12<=a.block)(v:A9):qv (w.setCell a v):=by
 obtain⟨⟨i,b,e⟩,⟨j,c,f⟩,⟨k,d,g⟩⟩:=h;exact⟨⟨i,b,(aB w a _ v (by omega)).trans e⟩,⟨j,c,(aB w a _ v (by omega)).trans f⟩,⟨k,d,(aB w a _ v (by omega)).trans g⟩⟩
theorem qv.drewN(h:qv w)(n:Nat):qv (w.drewN n):=⟨h.word,h.mark,h.bin⟩
theorem GH:∀k:Fin 79,(fy (k.val:Int)).size<=6:=by decide+kernel
theorem afD(k:Int):(fy k).size<=6:=by
 by_cases a:0<=k/\k<=78
 ·have:=GH ⟨k.toNat,by omega⟩;simp only[show((k.toNat:Nat):Int)=k by omega]at this;exact this
 ·unfold fy;rw[aa (by omega),aa (by omega),aa (by omega),aa (by omega),aa (by omega)];decide
theorem LJ(V:Array A9)(base:Int)(r:ByteArray)(d:0<=base)(N:Int):∀(f i:Nat)(a:Int×Nat),0<=a.1->a.1<=N->base+((i+f:Nat):Int)<=N+1->0<=(Bm V base r f i a).1/\(Bm V base r f i a).1<=N
 |0,i,a,b,c,_=>⟨b,c⟩
 |f+1,i,a,b,c,e=>by
  unfold Bm;refine LJ V base r d N f (i+1) _ ?_ ?_ (by omega)
  ·split
   ·simp only;omega
   ·exact b
  ·split
   ·simp only;omega
   ·exact c
theorem afE(r:ByteArray):0<=rz r/\rz r<=78:=by
 unfold rz;split
 ·omega
 split
 ·omega
 have a:=LJ jh 40 r (by omega) 50 11 0 (0,0) (by simp) (by simp) (by simp);exact LJ lL 61 r (by omega) 78 18 0 _ a.1 (by omega) (by simp)
def LK(b t:Nat)(w':A2)(s:ByteArray)(m:A9)(fr:Int)(p:Nat)(l a k:Int):Prop:=
 if k=0 then gc b w' s m fr p l M/\dD t w' 0 p 0 a 0 Y else gc b w' s m fr ((p:Int)+((fy k).size:Int)) (if k=7 then l+1 else l) U/\dD t w' k p 0 a 0 Y
theorem GI(s:ByteArray)(a5:s.size<=70000)(b t:Nat)(w:A2)(m:A9)(p:Nat)(l J:Int)(a6:p<s.size)(a4:0<=l)(a3:l<=100000)(h:b≠t)(hS:gc b w s m fr p l U)(n:dD t w 0 p 0 J 0 Y)(d:qv w)(a0:12<=b)(a1:12<=t):
  B3 T 203 #[C2 (A0 ⟨b,0,Ax⟩),C2 (A0 ⟨t,0,Ax⟩)] w fun e w'=>e= A5 (B1 #[])/\qJ b t w w'/\LK b t w' s m fr p l J (rz (s.extract p s.size)):=by
 have a2:b<w.heap.size:=ai hS;have a8:t<w.heap.size:=ai n;have a7:(s.extract p s.size).size=s.size-p:=nD s p s.size (ag _);have i:=fun w d=>GG (s.extract p s.size) (by omega) (by omega) w d;have ap:=afE (s.extract p s.size);generalize rz (s.extract p s.size)=c at i ap;obtain⟨u,v,x,y,z,A,B,C⟩:=eK hS;obtain⟨K,L,ad,af,ak,al,am⟩:=bg n;unfold LK;by_cases F:c=0
 ·subst F;simp only[jq];go_in;go_upto_region 0 with fail
  go_quiet ((go_at_call 247;exact B0 (i _ (d.drewN _))))
  go_wp2;refine aI (dJ rfl _ _ _) rfl ?_;exact⟨rfl,((qJ.refl b t w).drewN _).setB 5 _,(hS.drewN _).setK _,(n.drewN _).other (dv h) _⟩
 have ar:(c==0)=U:=by rw[cG];exact F
 have r:=fun w d=>qw c (by omega) (by omega) w d;have an:=afD c;generalize fy c=E at r an;simp only[aa F];by_cases G:c=7
 ·subst G;simp only[jq];go_in;go_upto_region 0 with fail
  go_quiet ((go_at_call 247;exact B0 (i _ (d.drewN _))))
  have g:=((hS.drewN nq).setL (l+1)).other (a:=⟨t,0,Ax⟩) h (O Q 7);have o:=((n.drewN nq).other (a:=⟨b,4,Ax⟩) (dv h) (O Q (l+1))).setKind 7;have q:=(((qJ.refl b t w).drewN nq).setB 4 (O Q (l+1))).setT 0 (O Q 7);have f:=((d.drewN nq).setCell (a:=⟨b,4,Ax⟩) (by simp;omega) (O Q (l+1))).setCell (a:=⟨t,0,Ax⟩) (by simp;omega) (O Q 7);go_upto_region 6 with fail
  generalize ((w.drewN nq).setCell ⟨b,4,Ax⟩ (O Q (l+1))).setCell ⟨t,0,Ax⟩ (O Q 7)=j at g o q f⊢;clear u v x y z A B C K L ad af ak al am i;obtain⟨u,v,x,y,z,A,B,C⟩:=eK g;have k:qv j.drew:=⟨f.word,f.mark,f.bin⟩;have I:=r j.drew k;have ao:IntKind.i64.wrap ((p:Int)+(E.size:Int))=(p:Int)+(E.size:Int):=by rw[ed];omega
  clear k f d r;go_region_with (first|(go_at_call 121;refine I.mono ?_;rintro e w' ⟨rfl,H⟩;obtain rfl:=H.symm))
  all_goals
   go_end0
   exact⟨rfl,(q.setB 3 _).drew,g.setP _,o.other (dv h) _⟩
 ·have av:(c==7)=U:=by rw[cG];exact G
  simp only[aa G];go_in;go_upto_region 0 with fail
  go_quiet ((go_at_call 247;exact B0 (i _ (d.drewN _))))
  have g:=(hS.drewN nq).other (a:=⟨t,0,Ax⟩) h (O Q c);have o:=(n.drewN nq).setKind c;have q:=((qJ.refl b t w).drewN nq).setT 0 (O Q c);have f:=(d.drewN nq).setCell (a:=⟨t,0,Ax⟩) (by simp;omega) (O Q c);go_upto_region 6 with fail
  generalize (w.drewN nq).setCell ⟨t,0,Ax⟩ (O Q c)=j at g o q f⊢;clear u v x y z A B C K L ad af ak al am i;obtain⟨u,v,x,y,z,A,B,C⟩:=eK g;have k:qv j.drew:=⟨f.word,f.mark,f.bin⟩;have I:=r j.drew k;have ao:IntKind.i64.wrap ((p:Int)+(E.size:Int))=(p:Int)+(E.size:Int):=by rw[ed];omega
  clear k f d r;go_region_with (first|(go_at_call 121;refine I.mono ?_;rintro e w' ⟨rfl,H⟩;obtain rfl:=H.symm))
  all_goals
   go_end0
   exact⟨rfl,(q.setB 3 _).drew,g.setP _,o.other (dv h) _⟩
structure Rd where
 ok:Bool
 a:Nat
 d:Int
 k:Int
 n:Int
 x:ByteArray
def rdI(s:ByteArray)(p:Nat):Rd:=
 if bJ (ax s p)=M then⟨M,mi s (s.size+1) p,0,(Ic s p).1,0,(Ic s p).2⟩
 else if cp (ax s p)=M then(if(di s p).2=M then⟨M,(di s p).1,0,(vC s p).1,(vC s p).2.1,(vC s p).2.2⟩ else⟨U,(di s p).1,0,0,0,Y⟩)
 else if ax s p=34 then(if(fp s (s.size+1) (p+1) []).1=M then⟨M,(fp s (s.size+1) (p+1) []).2.1,0,4,0,fG (fp s (s.size+1) (p+1) []).2.2⟩ else⟨U,(fp s (s.size+1) (p+1) []).2.1,0,0,0,Y⟩)
 else if rz (s.extract p s.size)=0 then⟨U,p,0,0,0,Y⟩ else⟨M,p+(fy (rz (s.extract p s.size))).size,if rz (s.extract p s.size)=7 then 1 else 0,rz (s.extract p s.size),0,Y⟩
def ani(b t:Nat)(w w':A2)(s:ByteArray)(m:A9)(fr:Int)(p:Nat)(l:Int)(R:Rd):Prop:=qJ b t w w'/\gc b w' s m fr (R.a:Int) (l+R.d) (!R.ok)/\dD t w' R.k p 0 l R.n R.x
theorem Cw.blocks{w':A2}(h:Cw w)(a:∀k,k<12->w'.heap[k]?=w.heap[k]?):Cw w':=by
 obtain⟨⟨⟨p,f,m⟩,⟨q,g,n⟩,⟨r,i,o⟩⟩,⟨⟨s,j,c⟩,⟨t,l,d⟩⟩,b,e⟩:=h;refine⟨⟨⟨p,f,(a _ (by decide)).trans m⟩,⟨q,g,(a _ (by decide)).trans n⟩,⟨r,i,(a _ (by decide)).trans o⟩⟩,⟨⟨s,j,?_⟩,⟨t,l,?_⟩⟩,?_,?_⟩
 ·unfold World.cell? at c⊢;rw[a _ (by decide)];exact c
 ·unfold World.cell? at d⊢;rw[a _ (by decide)];exact d
 ·unfold Lib.TabIs World.var? at b⊢;rw[show Tryz.prog.globalNamed "internal/strconv.uint64pow10" =A0 6 by kernel_rfl]at b⊢;simp only[A7]at b⊢;rw[a _ (by decide)];exact b
 ·unfold World.cell? at e⊢;rw[a _ (by decide)];exact e
theorem mC{x e z:A2}{b:Option Nat}(h:x.grownBy e b)(k:e.grownBy z b):x.grownBy z b:=
 ⟨k.os.trans h.os,k.tape.trans h.tape,k.output.trans h.output,bL h.size k.size,fun d a c=>(k.block d (fD a h.size) c).trans (h.block d a c)⟩
theorem adu(s:ByteArray)(J:s.size<=70000)(b mb:Nat)(w:A2)(p:Nat)(l:Int)(A:p<s.size)(cg:0<=l)(cf:l<=100000)(a3:mb≠b)(ca:12<=b)(hS:gc b w s (.map (A0 mb)) fr p l U)(ar:w.ownsMap T 9 (plainElem (H:=Unit) T 3) mb 22 (xF 22))(a9:Cw w):
  B3 T 131 #[C2 (A0 ⟨b,0,Ax⟩)] w fun e w'=>e= A5 (B4 #[O Q (rdI s p).k,O Q p,O Q ((rdI s p).a:Int),O Q l,O Q (rdI s p).n,Z (rdI s p).x])/\w.grownBy w' (A0 b)/\gc b w' s (.map (A0 mb)) (p:Int) ((rdI s p).a:Int) (l+(rdI s p).d) (!(rdI s p).ok):=by
 have a1:b<w.heap.size:=ai hS;have bo:mb<w.heap.size:=ar.lt;have cz:=fun w=>cL A w;obtain⟨L,ad,af,ak,al,am,an,ao⟩:=eK hS;obtain⟨b1,b7⟩:=F3 hS;obtain⟨a5,bd⟩:=az (rdI s p);rw[bd];have bw:=aq bd;go_in;go_wp2_with fail;have F:=hS.setF (p:Int);have bb:=abB (t:=b) ar ((qJ.refl b b w).setB 2 (O Q (p:Int))) a3 a3;have ba:Cw (w.setCell ⟨b,2,Ax⟩ (O Q (p:Int))):=a9.blocks (fun k I=>aB _ _ _ _ (by simp only;omega));have a2:w.grownBy (w.setCell ⟨b,2,Ax⟩ (O Q (p:Int))) (A0 b):=⟨rfl,rfl,rfl,by simp[Cb],fun k I q=>aB _ _ _ _ (fun e=>q (by rw[e]))⟩;have K:(w.setCell ⟨b,2,Ax⟩ (O Q (p:Int))).heap.size=w.heap.size:=by simp[Cb]
 obtain⟨bA,bD,bE,bF,b0,b4,b5,b6⟩:=eK F;obtain⟨b2,b8⟩:=F3 F;rw[<-K];rw[<-K]at a1 bo;generalize w.setCell ⟨b,2,Ax⟩ (O Q (p:Int))=d at F bb ba a2 K a1 bo bA bD bE bF b0 b4 b5 b6 b2 b8⊢;have bt:=aq a2;clear hS ar a9 a2 K L ad af ak al am an ao b1 b7;go_region
 generalize bk:(d.alloc _).alloc _=f;obtain⟨G,a0,ap, -⟩:=DB bk;replace G:dD d.heap.size f 0 0 0 0 0 Y:=G;replace a0:dD (d.heap.size+1) f 0 p 0 l 0 Y:=a0;have bf:=F.below ap a1;have u:=ba.below ap (ag _);have cb:f.ownsMap T 9 (plainElem (H:=Unit) T 3) mb 22 (xF 22):=by rw[<-bk];exact(bb.alloc _).alloc _
 obtain⟨L,ad,af,ak,al,am,an,ao⟩:=eK bf;have q:b≠d.heap.size+1:=by omega
 go_wp2_with fail;go_quiet (fail)
 go_upto_block 0 with fail
 have y:gc b (f.drew.drewN nq) s (.map (A0 mb)) p p l U:=bf;have z:dD (d.heap.size+1) (f.drew.drewN nq) 0 p 0 l 0 Y:=a0;have o:qJ b (d.heap.size+1) f (f.drew.drewN nq):=((qJ.refl _ _ _).drew).drewN nq;have bc:(f.drew.drewN nq).ownsMap T 9 (plainElem (H:=Unit) T 3) mb 22 (xF 22):=cb;have a7:qv (f.drew.drewN nq):=⟨u.tabs.word,u.tabs.mark,u.tabs.bin⟩;have a8:nA (f.drew.drewN nq):=⟨u.errs.syn,u.errs.rng⟩;generalize f.drew.drewN nq=B at y z o bc a7 a8⊢;go_cut [] from 4 (fun cn=>ani b (d.heap.size+1) f cn s (.map (A0 mb)) p p l a5)
 case first=>
  have ck:=GF s J b (d.heap.size+1) mb B p l l A q a3 (by omega) y z bc;have cl:=fun cc=>CJ s J b (d.heap.size+1) B (.map (A0 mb)) p l l A cc q y z a8 (by omega) (by omega);have br:=Bz s J b (d.heap.size+1) B (.map (A0 mb)) p l p l A q y z;have bs:=GI s J b (d.heap.size+1) B (.map (A0 mb)) p l l A cg cf q y z a7 ca (by omega);have g:=bw.out;unfold rdI at g;cases hlt:bJ (ax s p) with
  |true=>
   rw[hlt,ab rfl]at g;have m:=aq g;have h:=fun w=>lK (ax s p) w;rw[hlt]at h;generalize ax s p=a6 at h⊢;go_wp2_with (first|(go_at_call 198;refine(h _).mono ?_;rintro e w' ⟨rfl,rfl⟩)|(go_at_call 199;refine ck.mono ?_;rintro e a4 ⟨rfl,i,c,C⟩));go_meet
   case rel=>rw[<-m.out];exact⟨o.trans i,by simpa using c,C⟩
  |false=>
   rw[hlt,aa (by simp)]at g;have h:=fun w=>lK (ax s p) w;rw[hlt]at h;cases hdg:cp (ax s p) with
   |true=>
    rw[hdg,ab rfl]at g;have j:=fun w=>iH (ax s p) w;rw[hdg]at j;have m:=aq g;have ch:=cl hdg;generalize ax s p=a6 at h j⊢;go_wp2_with (first|(go_at_call 198;refine(h _).mono ?_;rintro e w' ⟨rfl,rfl⟩)|(go_at_call 200;refine(j _).mono ?_;rintro e w' ⟨rfl,rfl⟩)|(go_at_call 201;refine ch.mono ?_;rintro e a4 ⟨rfl,i,c⟩;have r:E0 _:=c));go_meet
    case rel=>
     rw[<-m.out];have c:=r.out;cases hok:(di s p).2 with
     |true=>rw[hok]at c;simp only[jq]at c⊢;exact⟨o.trans i,by simpa using c.1,c.2⟩
     |false=>rw[hok]at c;simp only[AJ,if_false]at c⊢;exact⟨o.trans i,by simpa using c.1,c.2⟩
   |false=>
    rw[hdg,aa (by simp)]at g;have j:=fun w=>iH (ax s p) w;rw[hdg]at j;by_cases E:ax s p=34
    ·rw[ab E]at g;have m:=aq g;rw[E]at h j⊢;generalize fp s (s.size+1) (p+1) []=bx at br m;go_wp2_with (first|(go_at_call 198;refine(h _).mono ?_;rintro e w' ⟨rfl,rfl⟩)|(go_at_call 200;refine(j _).mono ?_;rintro e w' ⟨rfl,rfl⟩)|(go_at_call 202;refine br.mono ?_;rintro e a4 ⟨rfl,i,c⟩;have r:E0 _:=c));go_meet
     case rel=>
      rw[<-m.out];have c:=r.out;unfold mq at c;obtain⟨cm,cI,c5⟩:=bx;cases cm with
      |true=>simp only[jq]at c⊢;exact⟨o.trans i,by simpa using c.1,c.2⟩
      |false=>simp only[AJ,if_false]at c⊢;exact⟨o.trans i,by simpa using c.1,c.2⟩
    ·rw[aa E]at g;have b9:(ax s p==34)=U:=by rw[cG];exact E
     generalize rz (s.extract p s.size)=k at bs g;have m:=aq g;generalize ax s p=a6 at h j b9⊢;go_wp2_with (first|(go_at_call 198;refine(h _).mono ?_;rintro e w' ⟨rfl,rfl⟩)|(go_at_call 200;refine(j _).mono ?_;rintro e w' ⟨rfl,rfl⟩)|(go_at_call 203;refine bs.mono ?_;rintro e a4 ⟨rfl,i,c⟩;have r:E0 _:=c));go_meet
     case rel=>
      rw[<-m.out];have c:=r.out;unfold LK at c;by_cases I:k=0
      ·rw[ab I]at c⊢;exact⟨o.trans i,by simpa using c.1,c.2⟩
      ·rw[aa I]at c⊢;refine⟨o.trans i,?_,c.2⟩;have C:=c.1;have b3:(if k=7 then l+1 else l)=l+(if k=7 then 1 else 0):=by split<;>omega
       rw[b3]at C;simpa using C
 case rest=>
  obtain⟨bn,av,bh⟩:=hcut;have bl:dD d.heap.size wc 0 0 0 0 0 Y:=(bn.block d.heap.size (ai G) (by omega) (by omega)).trans G;obtain⟨cB,a,cw,k,n,x⟩:=a5;simp only at av bh⊢;obtain⟨L,ad,af,ak,al,am,an,ao⟩:=eK av;obtain⟨c6,c7,c8,c9,df,dk,dn⟩:=bg bh;obtain⟨z0,cq,cr,cs,ct,cv,dq⟩:=bg bl;have cx:d.heap.size<wc.heap.size:=ai bl;go_wp2;refine aI (v:= B4 #[O Q k,O Q p,O Q (a:Int),O Q l,O Q n,Z x]) (by simp[results,Tryz.results131,go_sem,z0,cq,cr,cs,ct,cv]) rfl ⟨rfl,?_,?_⟩
  ·refine mC bt ?_;exact wo (wo (wo (wo (wo (wo (wo (akC ap bn (by omega)) _ (by simp)) _ (by simp)) _ (by simp)) _ (by simp)) _ (by simp)) _ (by simp)) _ (by simp)
  ·exact((((((av.other (by simp;omega) _).other (by simp;omega) _).other (by simp;omega) _).other (by simp;omega) _).other (by simp;omega) _).other (by simp;omega) _).other (by simp;omega) _
def wF(b:Nat)(w:A2)(s:ByteArray)(m:A9)(p l:Int)(k:Bool):Prop:=∃fr,gc b w s m fr p l k
theorem wF.cells{s:ByteArray}{m:A9}{p:Int}(h:wF b w s m p l k):w.cell? ⟨b,0,Ax⟩=A0 (Z s)/\w.cell? ⟨b,1,Ax⟩=A0 m/\w.cell? ⟨b,3,Ax⟩=A0 (O Q p)/\w.cell? ⟨b,4,Ax⟩=A0 (O Q l)/\w.cell? ⟨b,5,Ax⟩=A0 (F0 k)/\
  w.frozen? ⟨b,3,Ax⟩=U/\w.frozen? ⟨b,4,Ax⟩=U/\w.frozen? ⟨b,5,Ax⟩=U:=by obtain⟨a,h⟩:=h;exact eK h
theorem wF.pos{s:ByteArray}{m:A9}{p:Nat}(h:wF b w s m p l k):Ei b w=p:=by obtain⟨a,h⟩:=h;exact tF h
theorem wF.setP{s:ByteArray}{m:A9}{p:Int}(h:wF b w s m p l k)(x:Int):wF b (w.setCell ⟨b,3,Ax⟩ (O Q x)) s m x l k:=by obtain⟨a,h⟩:=h;exact⟨a,h.setP x⟩
theorem ai4(i:Nat)(h:i<11):fy (40+(i:Int))=bK jh i:=by
 unfold fy;rw[aa (by omega),aa (by omega),aa (by omega),ab (by omega)];rw[show(40+(i:Int)-40).toNat=i by omega]
theorem ai5(i:Nat)(h:i<18):fy (61+(i:Int))=bK lL i:=by
 unfold fy;rw[aa (by omega),aa (by omega),aa (by omega),aa (by omega),ab (by omega)];rw[show(61+(i:Int)-61).toNat=i by omega]
def Sgn(r:ByteArray)(k:Int)(n:Nat):Prop:=(k=0/\n=0)\/(n=(fy k).size/\1<=n/\X r.data.toList (fy k).data.toList=M/\k≠0)
theorem GJ(V:Array A9)(base:Int)(r:ByteArray)(N:Nat)(c:0<base)(b:∀i,i<N->fy (base+(i:Int))=bK V i):∀(f i:Nat)(a:Int×Nat),i+f<=N->Sgn r a.1 a.2->Sgn r (Bm V base r f i a).1 (Bm V base r f i a).2
 |0,i,a,_,h=>h
 |f+1,i,a,e,h=>by
  unfold Bm;refine GJ V base r N c b f (i+1) _ (by omega) ?_;split
  ·rename_i d;refine .inr ⟨?_,?_,?_,?_⟩
   ·show(bK V i).size=_;rw[b i (by omega)]
   ·show 1<=(bK V i).size;omega
   ·show X _ (fy (base+(i:Int))).data.toList=M;rw[b i (by omega)];exact d.2
   ·show base+(i:Int)≠0;omega
  ·exact h
theorem ai6(r x:ByteArray)(h:X r.data.toList x.data.toList=M):x.size<=r.size:=by
 unfold X at h;rw[xm]at h;have:=h.length_le
 rwa [ib,ib]at this
theorem abE(r:ByteArray)(h:0<r.size)(a:rz r≠0):1<=(fy (rz r)).size/\(fy (rz r)).size<=r.size:=by
 unfold rz at a⊢;split
 ·exact⟨by decide,by show 1<=r.size;omega⟩
 split
 ·exact⟨by decide,by show 1<=r.size;omega⟩
 rename_i c d;rw[aa c,aa d]at a;have f:=GJ jh 40 r 11 (by omega) ai4 11 0 (0,0) (by omega) (.inl ⟨rfl,rfl⟩);have g:=GJ lL 61 r 18 (by omega) ai5 18 0 _ (by omega) f;rcases g with⟨b,_⟩|⟨b,i,e,_⟩
 ·exact absurd b a
 ·exact⟨by omega,ai6 r _ e⟩
theorem GK(s:ByteArray)(p:Nat)(h:bJ (ax s p)=M):p<mi s (s.size+1) p:=by
 have a:p<s.size:=by
  rcases bj p s.size with h1|h1
  ·exact h1
  ·exact absurd (.inl h) (BD (by omega))
 rw[mi,ab (.inl h)];have:=tH s s.size (p+1) (by omega);omega
theorem mL(s:ByteArray)(p:Nat)(i:p<s.size)(b:(rdI s p).ok=M):p<(rdI s p).a/\(rdI s p).a<=s.size/\0<=(rdI s p).d/\(rdI s p).d<=1:=by
 unfold rdI at b⊢;split
 ·rename_i h;exact⟨GK s p h,(tH s _ p (by omega)).2,by simp,by simp⟩
 split
 ·rename_i c e;rw[aa c,ab e]at b;have:=ss s p i;split
  ·exact⟨this.1,this.2,by simp,by simp⟩
  ·rename_i f;rw[aa f]at b;cases b
 split
 ·rename_i c e f;rw[aa c,aa e,ab f]at b;have:=tE s (s.size+1) (p+1) [] (by omega);split
  ·exact⟨by simp only;omega,this.2.1,by simp,by simp⟩
  ·rename_i g;rw[aa g]at b;cases b
 ·rename_i c e f;rw[aa c,aa e,aa f]at b;split
  ·rename_i g;rw[ab g]at b;cases b
  ·rename_i g;have j:=nD s p s.size (ag _);have:=abE (s.extract p s.size) (by omega) g;refine⟨by simp only;omega,by simp only;omega,?_,?_⟩
   ·simp only;split<;>omega
   ·simp only;split<;>omega
def nnB(c:Int):Bool:=decide (c≠10/\c≠ -1)
theorem afF:nnB (-1)=U:=by decide
def nlE(s:ByteArray)(p:Nat):Nat:=gF nnB s (s.size+1) p
def blk(s:ByteArray):Nat->Nat->Nat
 |0,p=>p
 |f+1,p=>if s.size<=p then p else if lJ (ax s p)=M then blk s f (p+1) else if ax s p=45/\ax s (p+1)=45 then blk s f (nlE s p) else p
theorem GL(s:ByteArray)(p:Nat)(h:p<=s.size):p<=nlE s p/\nlE s p<=s.size:=oq nnB afF s _ p h
theorem Bn(s:ByteArray)(p:Nat)(h:ax s p=45):p<nlE s p:=by
 have a:=db h;unfold nlE;rw[gF,ab (by rw[h];decide)];have:=oq nnB afF s s.size (p+1) (by omega);omega
theorem ym(s:ByteArray):∀(f g p:Nat),p<=s.size->s.size<p+f->s.size<p+g->blk s f p=blk s g p
 |0,g,p,h,a,b=>by omega
 |f+1,0,p,h,a,b=>by omega
 |f+1,g+1,p,h,a,b=>by
  unfold blk;split
  ·rfl
  split
  ·exact ym s f g (p+1) (by omega) (by omega) (by omega)
  split
  ·rename_i d;have e:=Bn s p d.1;have c:=GL s p h;exact ym s f g _ c.2 (by omega) (by omega)
  ·rfl
theorem qD(s:ByteArray):∀(f p:Nat),p<=s.size->p<=blk s f p/\blk s f p<=s.size
 |0,p,h=>⟨ag _,h⟩
 |f+1,p,h=>by
  unfold blk;split
  ·exact⟨ag _,h⟩
  split
  ·have:=qD s f (p+1) (by omega);omega
  split
  ·have a:=GL s p h;have:=qD s f (nlE s p) a.2;omega
  ·exact⟨ag _,h⟩
theorem adv(s:ByteArray)(p:Nat)(a:p<s.size)(h:lJ (ax s p)=M):blk s (s.size+1) p=blk s (s.size+1) (p+1):=by
 rw[blk,aa (by omega),ab h];exact ym s _ _ _ (by omega) (by omega) (by omega)
theorem afG(c:Int)(h:c=45):¬lJ c=M:=by subst h;decide
theorem afH(s:ByteArray)(p:Nat)(h:ax s p=45)(a:ax s (p+1)=45):blk s (s.size+1) p=blk s (s.size+1) (nlE s p):=by
 have d:=db h;have c:=Bn s p h;have b:=GL s p (by omega);rw[blk,aa (by omega),aa (afG _ h),ab ⟨h,a⟩];exact ym s _ _ _ b.2 (by omega) (by omega)
theorem G1(s:ByteArray)(p:Nat)(a:¬lJ (ax s p)=M)(b:¬(ax s p=45/\ax s (p+1)=45)):blk s (s.size+1) p=p:=by
 rw[blk,aa a,aa b];split<;>rfl
theorem ai7(s:ByteArray)(p:Nat)(h:s.size<=p):blk s (s.size+1) p=p:=by rw[blk,ab h]
def pB(a b c:Int)(x:ByteArray):Bool:=decide ((x.size=0\/a=ax x 0)/\(x.size<=1\/b=ax x 1)/\(x.size<=2\/c=ax x 2))
theorem afI(r x:ByteArray)(i:Nat)(b:i<x.size):r.data.toList[i]?=x.data.toList[i]?↔ax r i=ax x i:=by
 have d:x.data.toList[i]?=A0 x[i]:=by rw[ux];exact uA b
 rw[d,iC];have c:ax x i=(x[i].toNat:Int):=by unfold ax;rw[mJ b]
 rw[c];constructor
 ·exact fun a=>a.2
 ·intro a;refine⟨?_,a⟩;rcases bj i r.size with h1|h1
  ·exact h1
  ·rw[dj]at a;omega
theorem LL(r x:ByteArray)(h:x.size<=3):X r.data.toList x.data.toList=pB (ax r 0) (ax r 1) (ax r 2) x:=by
 unfold X pB;rw[xy,xm,jF,List.prefix_iff_getElem?];have i:x.data.toList.length=x.size:=ib;have f:(∀a (b:a<x.data.toList.length),r.data.toList[a]?=A0 x.data.toList[a])↔∀a,a<x.size->ax r a=ax x a:=by
  constructor
  ·intro g a b;rw[<-afI r x a b,g a (by omega)];exact(aJ (by omega)).symm
  ·intro g a b;rw[(afI r x a (by omega)).2 (g a (by omega))];exact aJ b
 rw[f];constructor
 ·intro g;refine⟨?_,?_,?_⟩
  ·rcases qd x.size with h0|h0
   ·exact .inl h0
   ·exact .inr (g 0 h0)
  ·rcases bj 1 x.size with h0|h0
   ·exact .inr (g 1 h0)
   ·exact .inl h0
  ·rcases bj 2 x.size with h0|h0
   ·exact .inr (g 2 h0)
   ·exact .inl h0
 ·rintro ⟨c,d,e⟩ a b;rcases(show a=0\/a=1\/a=2 by omega) with rfl|rfl|rfl
  ·rcases c with g|g
   ·omega
   ·exact g
  ·rcases d with g|g
   ·omega
   ·exact g
  ·rcases e with g|g
   ·omega
   ·exact g
def G4(q:ByteArray->Bool)(V:Array A9)(base:Int):Nat->Nat->Int×Nat->Int×Nat
 |0,_,a=>a
 |f+1,i,a=>G4 q V base f (i+1) (if a.2<(bK V i).size/\q (bK V i)=M then(base+(i:Int),(bK V i).size) else a)
def skq(a:Int)(q:ByteArray->Bool):Int:=if a=59 then 5 else if a=10 then 7 else(G4 q lL 61 18 0 (G4 q jh 40 11 0 (0,0))).1
def vD(q:ByteArray->Bool):Nat->Nat->Option Nat
 |0,_=>Ax
 |f+1,k=>if q (bK jd k)=M then A0 k else vD q f (k+1)
theorem afJ(V:Array A9)(base:Int)(r:ByteArray):∀(f i:Nat)(a:Int×Nat),Bm V base r f i a=G4 (fun x=>X r.data.toList x.data.toList) V base f i a
 |0,i,a=>rfl
 |f+1,i,a=>by rw[Bm,G4];exact afJ V base r f (i+1) _
theorem wG(q b:ByteArray->Bool)(V:Array A9)(base:Int)(N:Nat)(h:∀i,i<N->q (bK V i)=b (bK V i)):∀(f i:Nat)(a:Int×Nat),i+f<=N->G4 q V base f i a=G4 b V base f i a
 |0,i,a,_=>rfl
 |f+1,i,a,c=>by rw[G4,G4,h i (by omega)];exact wG q b V base N h f (i+1) _ (by omega)
theorem C0(q a:ByteArray->Bool)(h:∀i,i<30->q (bK jd i)=a (bK jd i)):∀(f i:Nat),i+f<=30->vD q f i=vD a f i
 |0,i,_=>rfl
 |f+1,i,b=>by rw[vD,vD,h i (by omega),C0 q a h f (i+1) (by omega)]
def DD(S:List Int)(b:Int):Int:=if b∈S then b else 0
theorem G5(S:List Int)(d:(0:Int) ∉ S)(b a:Int)(c:a∈S):DD S b=a↔b=a:=by
 unfold DD;split
 ·exact Iff.rfl
 ·rename_i e;constructor
  ·rintro rfl;exact absurd c d
  ·rintro rfl;exact absurd c e
def fb0:List Int:=[46,60,62,61,126,47,40,41,123,125,91,93,44,59,35,43,45,42,37,38,124]
def fb1:List Int:=[46,60,61,62,47]
def fb2:List Int:=[46]
def inB(x:ByteArray):Bool:=decide (x.size<=3/\(x.size=0\/ax x 0∈fb0)/\(x.size<=1\/ax x 1∈fb1)/\(x.size<=2\/ax x 2∈fb2))
theorem alq:∀i:Fin 11,inB (bK jh i.val)=M:=by decide+kernel
theorem alr:∀i:Fin 18,inB (bK lL i.val)=M:=by decide+kernel
theorem afK:∀i:Fin 30,inB (bK jd i.val)=M:=by decide+kernel
theorem als(a b c:Int)(x:ByteArray)(h:inB x=M):pB a b c x=pB (DD fb0 a) (DD fb1 b) (DD fb2 c) x:=by
 unfold inB at h;rw[jF]at h;obtain⟨_,g,i,j⟩:=h;have d:(x.size=0\/a=ax x 0)↔(x.size=0\/DD fb0 a=ax x 0):=by
  rcases g with h|h
  ·simp[h]
  ·rw[G5 fb0 (by decide) a _ h]
 have e:(x.size<=1\/b=ax x 1)↔(x.size<=1\/DD fb1 b=ax x 1):=by
  rcases i with h|h
  ·simp[h]
  ·rw[G5 fb1 (by decide) b _ h]
 have f:(x.size<=2\/c=ax x 2)↔(x.size<=2\/DD fb2 c=ax x 2):=by
  rcases j with h|h
  ·simp[h]
  ·rw[G5 fb2 (by decide) c _ h]
 unfold pB;rw[FB,d,e,f]
def akl(a b c:Int):Bool:=match vD (pB a b c) 30 0 with
 |some j=>decide (skq a (pB a b c)=xG (bK jd j)/\(fy (skq a (pB a b c))).size=(bK jd j).size/\skq a (pB a b c)≠0/\skq a (pB a b c)≠7)
 |none=>decide (skq a (pB a b c)=0)
theorem afL:∀a∈0::fb0,∀b∈0::fb1,∀c∈0::fb2,akl a b c=M:=by decide+kernel
theorem L0(S:List Int)(b:Int):DD S b∈0::S:=by
 unfold DD;split
 ·exact dI _ (by assumption)
 ·exact cE
def C1(r:ByteArray):Prop:=match vD (fun a=>X r.data.toList a.data.toList) 30 0 with
 |some j=>rz r=xG (bK jd j)/\(fy (rz r)).size=(bK jd j).size/\rz r≠0/\rz r≠7
 |none=>rz r=0
theorem G6(r:ByteArray)(h:ax r 0≠10):C1 r:=by
 have g:∀a,inB a=M->X r.data.toList a.data.toList=pB (DD fb0 (ax r 0)) (DD fb1 (ax r 1)) (DD fb2 (ax r 2)) a:=fun a f=>by
  rw[<-als _ _ _ a f];unfold inB at f;rw[jF]at f;exact LL r a f.1
 have l:rz r=skq (DD fb0 (ax r 0)) (pB (DD fb0 (ax r 0)) (DD fb1 (ax r 1)) (DD fb2 (ax r 2))):=by
  unfold rz skq;rw[afJ,afJ,wG _ _ jh 40 11 (fun d c=>g _ (alq ⟨d,c⟩)) 11 0 _ (by omega),wG _ _ lL 61 18 (fun d c=>g _ (alr ⟨d,c⟩)) 18 0 _ (by omega)];have i:=G5 fb0 (by decide) (ax r 0) 59 (by decide);have k:DD fb0 (ax r 0)≠10:=by
   unfold DD;split
   ·exact h
   ·decide
  rw[aa h,aa k];by_cases e:ax r 0=59
  ·rw[ab e,ab (i.2 e)]
  ·rw[aa e,aa (fun j=>e (i.1 j))]
 have b:=afL _ (L0 fb0 (ax r 0)) _ (L0 fb1 (ax r 1)) _ (L0 fb2 (ax r 2));unfold C1;rw[C0 _ _ (fun d c=>g _ (afK ⟨d,c⟩)) 30 0 (by omega),l];unfold akl at b;cases hf:vD (pB (DD fb0 (ax r 0)) (DD fb1 (ax r 1)) (DD fb2 (ax r 2))) 30 0 with
 |some m=>rw[hf]at b;exact aH b
 |none=>rw[hf]at b;exact aH b
theorem ai8(s x:ByteArray)(p:Nat)(f:p<=s.size):X (s.extract p s.size).data.toList x.data.toList=decide (p+x.size<=s.size/\((s.extract p (p+x.size)).toList==x.toList)=M):=by
 have e:s.data.toList.length=s.size:=ib;have b:x.data.toList.length=x.size:=ib;have c:(s.extract p s.size).data.toList=s.data.toList.drop p:=by
  rw[<-fE,Lib.extract_toList,cA];rw[ep,ib];exact ag _
 have d:(s.extract p (p+x.size)).toList=(s.data.toList.drop p).take x.size:=by
  rw[Lib.extract_toList];congr 1;omega
 rw[c,d,fE x];unfold X;rw[xy,xm,jF,List.prefix_iff_eq_take,b,ja];constructor
 ·intro a;refine⟨?_,a.symm⟩;have:=congrArg List.length a;rw[eD,ep,e,b]at this;omega
 ·exact fun a=>a.2.symm
theorem adw(s:ByteArray)(d:s.size<=70000)(p:Nat)(b:p<s.size)(a:ax s p=10)(w:A2):B3 T 87 #[Z s,O Q p] w fun e w'=>e= A5 (B1 #[B4 #[O Q 7,O Q p,O Q ((p:Int)+1),O Q 0,O Q 0,Z ⟨#[]⟩],O Q (-1)])/\Bs w.heap.size w w':=by
 have c:=fun w=>cL b w;rw[a]at c;have f:(p:Int)<(s.size:Int):=by omega
 go_in;go_wp2;refine aI (v:= B1 #[B4 #[O Q 7,O Q p,O Q ((p:Int)+1),O Q 0,O Q 0,Z ⟨#[]⟩],O Q (-1)]) (by simp[results,Tryz.results87,go_sem]) rfl ⟨rfl,?_⟩;exact((ah _ w).alloc (ag _) _).alloc (by simp) _
theorem af0(p:Nat)(R:Bool×Nat×List Int):∃(t:Int) (x:ByteArray),EH p R= B4 #[O Q 4,O Q p,O Q t,O Q 0,O Q 0,Z x]:=by
 unfold EH;split<;>exact⟨_,_,rfl⟩
theorem C3(s:ByteArray)(y:s.size<=70000)(p:Nat)(m:p<s.size)(x:ax s p=34)(w:A2):B3 T 87 #[Z s,O Q p] w fun e w'=>e= A5 (B1 #[EH p (fp s (s.size+1) (p+1) []),O Q (JA (fp s (s.size+1) (p+1) []))])/\Bs w.heap.size w w':=by
 have n:=fun w=>cL m w;have q:=fun w=>jv (c:=34) (b:=U) (by decide) w;have o:=fun w=>dE (c:=34) (b:=U) (by decide) w;have a:=fun w=>Gz s y p m w;generalize fp s (s.size+1) (p+1) []=f at a;obtain⟨A,C,i⟩:=af0 p f;rw[i]at a⊢;generalize JA f=r at a;rw[x]at n;clear i;go_in;go_wp2_with (first|(go_at_call 144;refine dB (q _) ?_)|(go_at_call 146;refine dB (o _) ?_));generalize j:(w.alloc _).alloc _=t;obtain⟨g, -,h,z⟩:=DB j;have k:dD w.heap.size t 0 0 0 0 0 ⟨#[]⟩:=g;clear j g;refine bv (a _) fun B d=>?_;have l:=k.below d (by omega);have u:=h.trans (d.mono (by omega));clear d k h z a q o n;obtain⟨z0,E,F,G,H,I,K⟩:=bg l;have J:w.heap.size<B.heap.size:=ai l;go_wp2;refine aI (v:= B1 #[B4 #[O Q 4,O Q p,O Q A,O Q 0,O Q 0,Z C],O Q r]) (by simp[results,Tryz.results87,go_sem,z0,E,F,G,H,I]) rfl ⟨rfl,?_⟩
 iterate 6 refine eJ ?_ (by simp) _
 exact u
structure abF (q:ByteArray->Bool) (f k:Nat) (R:Option Nat):Prop where
 out:vD q f k=R
def anj(p:Nat)(R:Option Nat):A9:=match R with
 |some j=> B1 #[B4 #[O Q (xG (bK jd j)),O Q p,O Q ((p:Int)+((bK jd j).size:Int)),O Q 0,O Q 0,Z ⟨#[]⟩],O Q (-1)]
 |none=> B1 #[B4 #[O Q 0,O Q p,O Q 0,O Q 0,O Q 0,Z ⟨#[]⟩],O Q p]
theorem alt:∀k:Fin 30,(bK jd k.val).size<=3:=by decide
theorem C4(s:ByteArray)(bA:s.size<=70000)(p:Nat)(a3:p<s.size)(I:¬ax s p=10)(af:bJ (ax s p)=U)(L:cp (ax s p)=U)(J:¬ax s p=34)(w:A2):
  B3 T 87 #[Z s,O Q p] w fun e w'=>e= A5 (anj p (vD (fun x=>X (s.extract p s.size).data.toList x.data.toList) 30 0))/\Bs w.heap.size w w':=by
 have ap:=fun w=>cL a3 w;have G:(ax s p==10)=U:=by rw[cG];exact I
 have H:(ax s p==34)=U:=by rw[cG];exact J
 have F:=fun w=>jv af w;have E:=fun w=>dE L w;have bD:(p:Int)<(s.size:Int):=by omega
 generalize ax s p=bh at ap G H F E;obtain⟨c,A⟩:∃c:ByteArray->Bool,(fun x=>X (s.extract p s.size).data.toList x.data.toList)=c:=⟨_,rfl⟩;have al:∀x,c x=decide (p+x.size<=s.size/\((s.extract p (p+x.size)).toList==x.toList)=M):=fun x=>by rw[<-A];exact ai8 s x p (by omega)
 rw[A];obtain⟨n,y⟩:=az (vD c 30 0);rw[y];have q:abF c 30 0 n:=⟨y⟩;have ar:=aq al;clear y A al I af L J;go_in;go_wp2_with (first|(go_at_call 144;refine dB (F _) ?_)|(go_at_call 146;refine dB (E _) ?_));generalize K:(w.alloc _).alloc _=g;obtain⟨j,i,t, -⟩:=DB K;replace j:dD w.heap.size g 0 0 0 0 0 ⟨#[]⟩:=j;replace i:dD (w.heap.size+1) g 0 p 0 0 0 ⟨#[]⟩:=i;clear K;refine bv (zB g) fun f l=>?_;have r:dD (w.heap.size+1) f 0 p 0 0 0 ⟨#[]⟩:=by rw[l];exact(dg _ _ _ (ai i)).trans i
 have z:dD w.heap.size f 0 0 0 0 0 ⟨#[]⟩:=by rw[l];exact(dg _ _ _ (ai j)).trans j
 have u:Bs w.heap.size w f:=by rw[l];exact t.alloc t.size _
 have a0:f.heap[g.heap.size]?=A0 (.cells jd 9 (0,0)):=by rw[l];exact aA g _
 clear l i j t F E ap G H;go_wp2_with fail;obtain⟨b1,b2,b3,b4,b5,b6,b7⟩:=bg r;obtain⟨z0,ba,bb,bc,bd,bf,ca⟩:=bg z;have an:w.heap.size<f.heap.size:=ai z;have ao:w.heap.size+1<f.heap.size:=ai r;go_loop [45,9] (fun C _=>∃a:Nat,a<=30/\C= O Q a/\abF c (30-a) a n) (fun C _=>30-(Br C).toNat)
 case atStart=>exact⟨0,by omega,rfl,q⟩
 case round=>
  obtain⟨a,bx,rfl,m⟩:=hrel;by_cases ak:a<30
  ·have a1:f.cell? ⟨g.heap.size,a,Ax⟩=A0 (Z (bK jd a)):=by rw[au _ _ _ _ _ _ a0];exact ael ⟨a,ak⟩
   have b:=m.out;rw[show 30-a=(30-(a+1))+1 by omega,vD,ar.out]at b;have am:=alt ⟨a,ak⟩;simp only at am;obtain⟨x,B⟩:=az (bK jd a);rw[B]at a1 b am;have av:=aq B;clear B m q;by_cases ad:p+x.size<=s.size
   ·have a2:(x.size:Int)<=(s.size:Int)-(p:Int):=by omega
    have bw:(p:Int)+(x.size:Int)<=(s.size:Int):=by omega
    by_cases o:((s.extract p (p+x.size)).toList==x.toList)=M
    ·rw[ab (bH ⟨ad,o⟩)]at b;have d:=aq b;clear b;go_wp2_with (go_at_call 150;refine(wt x _).mono ?_;rintro e b8 ⟨rfl,k⟩;obtain⟨bk,bl,bn,bo,br,bs,bt⟩:=bg (r.below k ao);obtain⟨a4,a5,a6,a7,a8,a9,b9⟩:=bg (z.below k an);have bF:=fD an k.size;have b0:=fD ao k.size);refine aI (v:= B1 #[B4 #[O Q (xG x),O Q p,O Q ((p:Int)+(x.size:Int)),O Q 0,O Q 0,Z ⟨#[]⟩],O Q (-1)]) (by simp[results,Tryz.results87,go_sem,a4,a5,a6,a7,a8,a9]) rfl ⟨by rw[<-d.out];have h:=av.out;subst h;rfl,?_⟩
     iterate 8 refine eJ ?_ (by simp) _
     exact u.trans (k.mono u.size)
    ·have bE:((s.extract p (p+x.size)).toList==x.toList)=U:=by simpa using o
     rw[aa (fun h=>o (aH h).2)]at b;have d:abF c (30-(a+1)) (a+1) n:=⟨b⟩;clear b o;go_wp2_with fail;go_round
     case rel=>exact⟨a+1,by omega,by go_num,d⟩
     case measure=>simp[Br];omega
   ·have a2:¬(x.size:Int)<=(s.size:Int)-(p:Int):=by omega
    rw[aa (fun h=>ad (aH h).1)]at b;have d:abF c (30-(a+1)) (a+1) n:=⟨b⟩;clear b;go_wp2_with fail;go_round
    case rel=>exact⟨a+1,by omega,by go_num,d⟩
    case measure=>simp[Br];omega
  ·obtain rfl:a=30:=by omega
   have d:=aq m.out;clear m q;go_wp2_with fail;refine aI (v:= B1 #[B4 #[O Q 0,O Q p,O Q 0,O Q 0,O Q 0,Z ⟨#[]⟩],O Q (p:Int)]) (by simp[results,Tryz.results87,go_sem,z0,ba,bb,bc,bd,bf]) rfl ⟨by rw[<-d.out];rfl,?_⟩
   iterate 6 refine eJ ?_ (by simp) _
   exact u
structure ank (R:Rd) (k t n:Int) (x:ByteArray) (bad:Int):Prop where
 yes:R.ok=M->bad= -1/\k=R.k/\t=(R.a:Int)/\n=R.n/\x=R.x/\R.d=(if R.k=7 then 1 else 0)
 no:R.ok=U->bad=(R.a:Int)
theorem anl(s:ByteArray)(p:Nat):(Ic s p).1≠7:=by
 unfold Ic;split
 ·simp only;omega
 ·simp
theorem anm(s:ByteArray)(p:Nat):(vC s p).1≠7:=by
 unfold vC;split
 ·simp
 ·split<;>simp
theorem L6(s:ByteArray)(o:s.size<=70000)(p:Nat)(d:p<s.size)(w:A2):
  B3 T 87 #[Z s,O Q p] w fun e w'=>∃k t n x q,e= A5 (B1 #[B4 #[O Q k,O Q p,O Q t,O Q 0,O Q n,Z x],O Q q])/\ank (rdI s p) k t n x q/\Bs w.heap.size w w':=by
 unfold rdI;by_cases i:bJ (ax s p)=M
 ·rw[ab i];refine bv (zE s (by omega) p d i w) fun w' b=>?_;rw[anh];exact⟨_,_,_,_,_,rfl,⟨fun _=>⟨rfl,rfl,rfl,rfl,rfl,by simp only;rw[aa (anl s p)]⟩,fun a=>by cases a⟩,b⟩
 rw[aa i];by_cases h:cp (ax s p)=M
 ·rw[ab h];refine bv (wy s (by omega) p d h w) fun w' b=>?_;cases hok:(di s p).2 with
  |true=>
   obtain⟨c,m⟩:=alp s p hok;rw[c,m,ab rfl];exact⟨_,_,_,_,_,rfl,⟨fun _=>⟨rfl,rfl,rfl,rfl,rfl,by simp only;rw[aa (anm s p)]⟩,fun a=>by cases a⟩,b⟩
  |false=>
   obtain⟨k,t,n,x,c⟩:=abi s p;rw[c,JD s p hok,aa (by simp)];exact⟨_,_,_,_,_,rfl,⟨fun a=>by(try simp at a),fun a=>rfl⟩,b⟩
 rw[aa h];by_cases g:ax s p=34
 ·rw[ab g];refine bv (C3 s o p d g w) fun w' b=>?_;generalize fp s (s.size+1) (p+1) []=l;obtain⟨z,A,B⟩:=l;cases z with
  |true=>exact⟨_,_,_,_,_,rfl,⟨fun _=>⟨rfl,rfl,rfl,rfl,rfl,rfl⟩,fun a=>by cases a⟩,b⟩
  |false=>exact⟨_,_,_,_,_,rfl,⟨fun a=>(by cases a),fun a=>rfl⟩,b⟩
 rw[aa g];have r:ax (s.extract p s.size) 0=ax s p:=ga s p s.size 0 (ag _);by_cases f:ax s p=10
 ·have v:rz (s.extract p s.size)=7:=by unfold rz;rw[r,f];rfl
  rw[v,aa (by decide)];refine bv (adw s o p d f w) fun w' b=>?_;exact⟨_,_,_,_,_,rfl,⟨fun _=>⟨rfl,rfl,rfl,rfl,rfl,rfl⟩,fun a=>by cases a⟩,b⟩
 ·have j:=G6 (s.extract p s.size) (by rw[r];exact f);unfold C1 at j;refine bv (C4 s o p d f (by simpa using i) (by simpa using h) g w) fun w' b=>?_;generalize vD (fun x=>X (s.extract p s.size).data.toList x.data.toList) 30 0=l at j;cases l with
  |none=>
   rw[show rz (s.extract p s.size)=0 from j,ab rfl];exact⟨_,_,_,_,_,rfl,⟨fun a=>(by cases a),fun a=>rfl⟩,b⟩
  |some y=>
   obtain⟨c,m,u,C⟩:=(show _/\_/\_/\_ from j);rw[aa u];refine⟨_,_,_,_,_,rfl,⟨fun _=>⟨rfl,c.symm,?_,rfl,rfl,rfl⟩,fun a=>by cases a⟩,b⟩;show(p:Int)+((bK jd y).size:Int)=((p+(fy (rz (s.extract p s.size))).size:Nat):Int);rw[m];omega
structure alu (s:ByteArray) (f k e:Nat):Prop where
 out:gF nnB s f k=e
structure abG (s:ByteArray) (f k e:Nat):Prop where
 out:blk s f k=e
theorem sE(s:ByteArray)(ar:s.size<=1100000)(p:Nat)(av:p<=s.size)(w:A2):B3 T 86 #[Z s,O Q p] w fun e w'=>e= A5 (O Q (blk s (s.size+1) p))/\w'=w:=by
 obtain⟨u,B⟩:=az (blk s (s.size+1) p);rw[B];have ak:abG s (s.size+1) p u:=⟨B⟩;clear B;go_in;go_wp2_with fail;go_loop [1,5] (fun k a1=>∃(a d:Nat),a<=s.size/\s.size<a+d/\k= O Q a/\abG s d a u) (fun k _=>s.size-(Br k).toNat)
 case atStart=>exact⟨p,s.size+1,av,by omega,rfl,ak⟩
 case round=>
  obtain⟨a,d,I,a2,rfl,q⟩:=hrel;obtain⟨d,rfl⟩:∃g,d=g+1:=⟨d-1,by omega⟩;have b:=q.out;rw[blk]at b;by_cases K:a<s.size
  ·have a6:(a:Int)<(s.size:Int):=by omega
   rw[aa (by omega)]at b;have r:=fun w=>cL K w;have v:=jt K;by_cases i:lJ (ax s a)=M
   ·rw[ab i]at b;have f:abG s d (a+1) u:=⟨b⟩;have n:ax s a=32\/ax s a=9\/ax s a=13:=aH i;generalize ax s a=G at r n v;clear b q i;rcases n with rfl|rfl|rfl;all_goals
     go_wp2_with fail;go_round
     case rel=>exact⟨a+1,d,by omega,by omega,by go_num,f⟩
     case measure=>simp[Br];omega
   ·rw[aa i]at b;have n:¬(ax s a=32\/ax s a=9\/ax s a=13):=fun A=>i (bH A);have x:(ax s a==32)=U:=by rw[cG];omega
    have y:(ax s a==9)=U:=by rw[cG];omega
    have z:(ax s a==13)=U:=by rw[cG];omega
    have t:=fun w=>gh s ar ((a:Int)+1) (a+1) (by omega) w;have o:=uh s (a+1) 45;by_cases h:ax s a=45/\ax s (a+1)=45
    ·rw[ab h]at b;have f:abG s d (nlE s a) u:=⟨b⟩;rw[h.2]at o;have J:lk s (a+1)=45:=by simpa using o
     have ao:=Bn s a h.1;have ap:=GL s a I;rw[h.1]at r;rw[J]at t;have E:alu s (s.size+1) a (nlE s a):=⟨rfl⟩;generalize nlE s a=F at f ao ap E;clear b q i n x y z o J h v;go_wp2_with (go_at_call 143;refine dB (t _) ?_);go_loop [1] (fun k=>∃(c g:Nat),c<=s.size/\s.size<c+g/\k= O Q c/\alu s g c F) (fun k=>s.size-(Br k).toNat)
     case atStart=>exact⟨a,s.size+1,I,by omega,rfl,E⟩
     case round=>
      obtain⟨c,g,a4,a3,rfl,C⟩:=hrel;obtain⟨g,rfl⟩:∃a0,g=a0+1:=⟨g-1,by omega⟩;have b:=C.out;rw[gF]at b;clear r C;by_cases H:c<s.size
      ·have a5:(c:Int)<(s.size:Int):=by omega
       have ad:=fun w=>cL H w;have af:=jt H;by_cases l:ax s c=10
       ·rw[aa (by rw[l];decide)]at b;rw[l]at ad;have j:=aq b;clear b l af;go_wp2_with fail;go_round
        case rel=>exact⟨c,d,by omega,by have:=j.out;omega,by go_num,by rw[j.out];exact f⟩
        case measure=>have:=j.out;simp[Br];omega
       ·rw[ab (by unfold nnB;rw[jF];exact⟨l,by omega⟩)]at b;have j:alu s g (c+1) F:=⟨b⟩;have al:(ax s c==10)=U:=by rw[cG];exact l
        generalize ax s c=G at ad al;clear b l af;go_wp2_with fail;go_round
        case rel=>exact⟨c+1,g,by omega,by omega,by go_num,j⟩
        case measure=>simp[Br];omega
      ·obtain rfl:c=s.size:=by omega
       rw[aa (by rw[dj (Fz _)];decide)]at b;have j:=aq b;clear b;go_wp2_with fail;go_round
       case rel=>exact⟨s.size,d,by omega,by omega,by go_num,by rw[j.out];exact f⟩
       case measure=>simp[Br];omega
    ·rw[aa h]at b;have f:=aq b;clear b q;by_cases m:ax s a=45
     ·have L:ax s (a+1)≠45:=fun A=>h ⟨m,A⟩;rw[aC L]at o;rw[m]at r;generalize lk s (a+1)=a7 at t o;clear i n x y z h v L m;go_wp2_with (go_at_call 143;refine dB (t _) ?_);go_ret;exact⟨by rw[<-f.out];rfl,rfl⟩
     ·have am:(ax s a==45)=U:=by rw[cG];exact m
      have an:(ax s a !=45)=M:=by rw[xB];exact m
      generalize ax s a=G at r x y z am an;clear i n h v m t o;go_wp2_with fail;go_ret;exact⟨by rw[<-f.out];rfl,rfl⟩
  ·obtain rfl:a=s.size:=by omega
   rw[ab (ag _)]at b;have f:=aq b;clear b q;go_wp2_with fail;go_ret;exact⟨by rw[<-f.out];rfl,rfl⟩
def tu(s:ByteArray)(p:Nat):Int:=if cp (ax s p)=M then(if ax s p=48/\ax s (p+1)=120 then 2 else 3) else if ax s p=34 then 4 else 0
theorem af1(s:ByteArray)(p:Nat)(h:(di s p).2=U):∃(t n:Int) (x:ByteArray),Au s p= B4 #[O Q (if ax s p=48/\ax s (p+1)=120 then 2 else 3),O Q p,O Q t,O Q 0,O Q n,Z x]:=by
 unfold Au;unfold di at h;by_cases a:ax s p=48/\ax s (p+1)=120
 ·rw[ab a]at h;rw[ab a,ab a];unfold hxA;rw[aa (by rw[h];simp)];exact⟨_,_,_,rfl⟩
 ·rw[aa a]at h;rw[aa a,aa a];unfold nmA;rw[aa (by rw[h];simp)];exact⟨_,_,_,rfl⟩
def tw(s:ByteArray)(p:Nat):Int:=if(rdI s p).ok=M then(rdI s p).k else tu s p
theorem af2(V:Array A9)(s:ByteArray):∀(f k j:Nat),vH V s f k=A0 j->j<k+f
 |0,k,j,h=>by simp[vH]at h
 |f+1,k,j,h=>by
  rw[vH]at h;split at h
  ·obtain rfl:=bp h;omega
  ·have:=af2 V s f (k+1) j h;omega
theorem JF(s:ByteArray)(p:Nat)(h:(rdI s p).ok=M):1<=(rdI s p).k/\(rdI s p).k<=78:=by
 unfold rdI at h⊢;split
 ·simp only;unfold Ic;cases hf:vH ez (s.extract p (mi s (s.size+1) p)) 22 0 with
  |none=>simp
  |some k=>have:=af2 _ _ _ _ _ hf;simp only;omega
 split
 ·split
  ·simp only;unfold vC;split
   ·simp
   ·split<;>simp
  ·rename_i a b c;rw[aa a,ab b,aa c]at h;cases h
 split
 ·split
  ·simp
  ·rename_i a b c d;rw[aa a,aa b,ab c,aa d]at h;cases h
 split
 ·rename_i a b c d;rw[aa a,aa b,aa c,ab d]at h;cases h
 ·rename_i a b c d;have:=afE (s.extract p s.size);simp only;omega
theorem G7(s:ByteArray)(p:Nat):0<=tu s p/\tu s p<=4:=by
 unfold tu;split
 ·split<;>omega
 ·split<;>omega
theorem L7(s:ByteArray)(q:s.size<=70000)(p:Nat)(k:p<s.size)(w:A2):
  B3 T 87 #[Z s,O Q p] w fun e w'=>∃t n x o,e= A5 (B1 #[B4 #[O Q (tw s p),O Q p,O Q t,O Q 0,O Q n,Z x],O Q o])/\ank (rdI s p) (tw s p) t n x o/\Bs w.heap.size w w':=by
 cases hok0:(rdI s p).ok with
 |true=>
  refine(L6 s q p k w).mono ?_;rintro e w' ⟨L,t,n,x,o,rfl,a,f⟩;obtain⟨_,rfl,_⟩:=a.yes hok0;have e:tw s p=(rdI s p).k:=by unfold tw;rw[ab hok0]
  rw[e];exact⟨_,_,_,_,rfl,a,f⟩
 |false=>
  have B:tw s p=tu s p:=by unfold tw;rw[aa (by rw[hok0];simp)]
  rw[B];have b:=hok0;unfold rdI at b;have h:¬bJ (ax s p)=M:=fun a=>by rw[ab a]at b;cases b
  rw[aa h]at b;by_cases c:cp (ax s p)=M
  ·rw[ab c]at b;have r:(di s p).2=U:=by
    cases i:(di s p).2 with
    |true=>rw[ab i]at b;cases b
    |false=>rfl
   refine bv (wy s (by omega) p k c w) fun w' f=>?_;obtain⟨t,n,x,v⟩:=af1 s p r;have g:tu s p=(if ax s p=48/\ax s (p+1)=120 then 2 else 3):=by unfold tu;rw[ab c]
   rw[v,g,JD s p r];refine⟨_,_,_,_,rfl,⟨fun a=>(by rw[hok0]at a;cases a),fun a=>?_⟩,f⟩;unfold rdI;rw[aa h,ab c,aa (by rw[r];simp)]
  ·rw[aa c]at b;by_cases d:ax s p=34
   ·have g:tu s p=4:=by unfold tu;rw[aa c,ab d]
    rw[g];refine bv (C3 s q p k d w) fun w' f=>?_;have l:(rdI s p).ok=(fp s (s.size+1) (p+1) []).1/\(rdI s p).a=(fp s (s.size+1) (p+1) []).2.1:=by
     unfold rdI;rw[aa h,aa c,ab d];cases i:(fp s (s.size+1) (p+1) []).1 with
     |true=>rw[ab rfl];exact⟨rfl,rfl⟩
     |false=>rw[aa (by simp)];exact⟨rfl,rfl⟩
    rw[hok0]at l;generalize J:fp s (s.size+1) (p+1) []=z at l;obtain⟨ad,H,I⟩:=z;simp only at l;obtain⟨E,F⟩:=l;subst E;refine⟨_,_,_,_,rfl,⟨fun a=>(by rw[hok0]at a;cases a),fun a=>?_⟩,f⟩;rw[F];rfl
   ·rw[aa d]at b;have g:tu s p=0:=by unfold tu;rw[aa c,aa d]
    rw[g];have m:rz (s.extract p s.size)=0:=by
     by_cases i:rz (s.extract p s.size)=0
     ·exact i
     ·rw[aa i]at b;cases b
    have y:ax (s.extract p s.size) 0=ax s p:=ga s p s.size 0 (ag _);have j:¬ax s p=10:=fun j=>by
     have G:rz (s.extract p s.size)=7:=by unfold rz;rw[y,j];rfl
     rw[G]at m;exact absurd m (by decide)
    have u:=G6 (s.extract p s.size) (by rw[y];exact j);unfold C1 at u;refine bv (C4 s q p k j (by simpa using h) (by simpa using c) d w) fun w' f=>?_;generalize vD (fun x=>X (s.extract p s.size).data.toList x.data.toList) 30 0=A at u;cases A with
    |none=>
     refine⟨_,_,_,_,rfl,⟨fun a=>(by rw[hok0]at a;cases a),fun a=>?_⟩,f⟩;unfold rdI;rw[aa h,aa c,aa d,ab m]
    |some K=>
     obtain⟨v,_,C,_⟩:=(show _/\_/\_/\_ from u);exact absurd m C
def AC(st:List Int)(k:Int):List Int×Bool:=if 0<k then feedL st k else(st,U)
def wH(s:ByteArray):Nat->List Int->Nat->Int->List Tk->List Tk×List Int×Int
 |0,st,_,_,_=>([],st,0)
 |f+1,st,p,l,b=>
  if s.size<=p then(b++[⟨6,(s.size:Nat),(s.size:Nat),l,0,⟨#[]⟩⟩],st, -1)
  else if tw s p=7 then
   (if(feedL st 5).2=M then wH s f (feedL st 5).1 (blk s (s.size+1) (rdI s p).a) (l+1) (b++[⟨5,(p:Nat),((rdI s p).a:Nat),l,(rdI s p).n,(rdI s p).x⟩]) else wH s f st (blk s (s.size+1) (rdI s p).a) (l+1) b)
  else if(AC st (tw s p)).2=M then
   (if(rdI s p).ok=M then wH s f (feedL st (tw s p)).1 (blk s (s.size+1) (rdI s p).a) l (b++[⟨tw s p,(p:Nat),((rdI s p).a:Nat),l,(rdI s p).n,(rdI s p).x⟩]) else([],st,((rdI s p).a:Nat)))
  else([],st,(wrongF s p (zh st):Nat))
def jz(s:ByteArray):List Tk×List Int×Int:=wH s (s.size+1) [100,6] (blk s (s.size+1) 0) 1 []
structure aoE (s:ByteArray) (f:Nat) (st:List Int) (p:Nat) (l:Int) (out:List Tk) (R:List Tk×List Int×Int):Prop where
 out:wH s f st p l out=R
theorem L8(s:ByteArray)(p:Nat):0<=tw s p/\tw s p<=78:=by
 unfold tw;split
 ·rename_i a;have:=JF s p a;omega
 ·have:=G7 s p;omega
theorem af3(s:ByteArray)(p:Nat)(h:tw s p=7):(rdI s p).ok=M/\(rdI s p).k=7:=by
 unfold tw at h;split at h
 ·rename_i a;exact⟨a,h⟩
 ·have:=G7 s p;omega
theorem ai9:(Tryz.prog.info? 67).map (fun i=>(i.zero,i.size,i.bytes))=A0 (A0 (B4 #[O Q 0,O Q 0,O Q 0,O Q 0,O Q 0,Z ⟨#[]⟩]),6,56):=by kernel_rfl
theorem JG{f:A2}{o:Obj}{size:Nat}(j:W.ownsRow base e size v n xs)(i:(W.alloc o).grownBy f v.ownBlock){k:Nat}{cs:Array A9}{t:F1}{fr:Nat×Nat}(b:W.heap[k]?=A0 (.cells cs t fr))(l:t≠e):f.heap[k]?=A0 (.cells cs t fr):=by
 refine(i.block k (by simp;have:=ai b;omega) (fun g=>?_)).trans ((dg _ _ _ (ai b)).trans b);have a:v.ownBlock=A0 k:=g.symm;rcases j.2 with⟨c,_⟩|⟨h,m,p,c,_,d,_⟩
 ·rw[c]at a;simp[E1]at a
 ·rw[c]at a;obtain rfl:h=k:=by simpa [E1] using a
  rw[b]at d;simp only[ee,kI]at d;exact l d.2.1
theorem vh.app{d:A2}{o:Obj}(h:vh W base mb C){f size:Nat}(c:W.ownsRow f e size v n xs)(b:(W.alloc o).grownBy d v.ownBlock)(k:76≠e)(l:134≠e):vh d base mb C:=by
 obtain⟨u,r,s,a⟩:=h.ex;refine⟨⟨u,JG c b r k,s,?_⟩,h.lo⟩;rcases a with a|⟨j,g,i,q,p,m,t⟩
 ·exact .inl a
 ·exact .inr ⟨j,g,i,q,p,JG c b m l,t⟩
theorem vh.other(h:vh W base mb C){cs:Array A9}{t:F1}{fr:Nat×Nat}(s:W.heap[b]?=A0 (.cells cs t fr))(q:t≠76)(r:t≠134)(j:Nat)(v:A9):vh (W.setCell ⟨b,j,Ax⟩ v) base mb C:=by
 obtain⟨A,e,y,c⟩:=h.ex;have g:∀{f:Nat}{l:Array A9}{i:F1}{o:Nat×Nat},W.heap[f]?=A0 (.cells l i o)->t≠i->f≠b:=fun a w n=>by
  subst n;rw[s]at a;simp only[ee,kI]at a;exact w a.2.1
 refine⟨⟨A,(aB _ _ _ _ (g e q)).trans e,y,?_⟩,h.lo⟩;rcases c with c|⟨p,k,m,x,u,d,z⟩
 ·exact .inl c
 ·exact .inr ⟨p,k,m,x,u,(aB _ _ _ _ (g d r)).trans d,z⟩
theorem C5{size:Nat}(h:W.ownsRow base e size v n xs)(a:∀g,v.ownBlock=A0 g->g<b)(j:Nat)(u:A9):(W.setCell ⟨b,j,Ax⟩ u).ownsRow base e size v n xs:=by
 refine h.kept (row:=A0 b) ⟨rfl,rfl,rfl,by simp[Cb],fun f d c=>aB _ _ _ _ (fun e=>c (by rw[e]))⟩ ?_;cases hv:v.ownBlock with
 |none=>exact .inl rfl
 |some g=>exact .inr (fun e=>by have:=a g hv;obtain rfl:=bp e;omega)
structure L9 (w:A2) (base mb:Nat) (s:ByteArray) (R:List Tk×List Int×Int) (p:Nat) (st:List Int) (top:Int) (C:List (Int×Int)) (l:Int) (out:List Tk) (f:Nat) (vo:A9) (W:A2):Prop where
 m:vh W base mb C
 sk:mm C top st
 o:Bg st
 bl:Bs base w W
 row:W.ownsRow base 67 6 vo out.length (As out)
 eq:wH s f st p l out=R
 cl:2<=C.length/\C.length<=2+20*p
 ol:out.length<=p
 l0:1<=l/\l<=(p:Int)+1
theorem L9.below{s:ByteArray}{R:List Tk×List Int×Int}{p:Nat}{st:List Int}{d:Int}{c:List Tk}{f:Nat}{e:A9}{b:A2}(h:L9 w base mb s R p st d C l c f e W)(a:Bs W.heap.size W b)(g:base<=W.heap.size):L9 w base mb s R p st d C l c f e b:=
 ⟨h.m.below a,h.sk,h.o,h.bl.trans (a.mono g),cJ h.row a,h.eq,h.cl,h.ol,h.l0⟩
def JH(w:A2)(base mb:Nat)(s:ByteArray)(R:List Tk×List Int×Int)(e:Ending)(w':A2):Prop:=
 ∃(a:Option Addr) (b:Nat) (c:Int) (C:List (Int×Int)),e= A5 (B1 #[E2 a R.1.length b,O Q c,O Q R.2.2])/\w'.ownsRow base 67 6 (E2 a R.1.length b) R.1.length (As R.1)/\vh w' base mb C/\mm C c R.2.1/\Bg R.2.1/\Bs base w w'/\2<=C.length/\C.length<=2000000
theorem aaa(w:A2)(base mb:Nat)(s:ByteArray)(h:vh w base mb [])(d1:s.size<=70000):
  B3 T 25 #[.pointer (A0 ⟨mb,0,Ax⟩),.string s] w (JH w base mb s (jz s)):=by
 unfold jz;obtain⟨L,cx⟩:=az (wH s (s.size+1) [100,6] (blk s (s.size+1) 0) 1 []);rw[cx];have f2:base<=w.heap.size:=by obtain⟨v,fv,_⟩:=h.ex;have:=ai fv;have:=h.lo;omega
 have fa:=adh w base mb h;have cF:=fun w=>sE s (by omega) 0 (aL _) w;have e0:=qD s (s.size+1) 0 (aL _);obtain⟨es,ev⟩:=az (blk s (s.size+1) 0);rw[ev]at cx cF e0;rw[show(((0:Nat):Int))=0 from rfl]at cF;have el:=aq cx;clear cx h ev;go_in;go_wp2_with fail;refine fa.mono ?_;rintro z ak ⟨rfl,fb,f5,g⟩;clear fa;have fc:L9 w base mb s L es [100,6] 1 [(6, -1),(100,0)] 1 [] (s.size+1) (.slice Ax 0 0) ak:=by
  refine⟨fb,⟨1,0,rfl,rfl,0, -1,rfl,rfl,rfl⟩,?_,g,dr _ _ _ _,el,⟨by simp,by simp⟩,by simp,⟨by omega,by omega⟩⟩;intro i a7;simp at a7;omega
 have em:=aq fc;clear fc fb f5 g;go_wp2_with (go_at_call 86;refine dB (cF _) ?_);clear cF;obtain⟨d4,d5,d6,d7,d8⟩:=du ai9;go_loopw [7,8,9,10] (fun gv ff gu eh wr=>∃(a:Nat) (f:List Int) (x:Int) (p:List (Int×Int)) (d:Int) (A:List Tk) (t:Nat),eh= .int .i64 a/\gu= .int .i64 d/\gv= .int .i64 x/\(∃fk fn,∃f4:Nat,ff= .slice fk f4 fn)/\a<=s.size/\s.size<a+t/\E0 (L9 w base mb s L a f x p d A t ff wr)) (fun _ _ _ eh _=>s.size+1-(Br eh).toNat)
 case atStart=>exact⟨es,_,1,_,1,[],s.size+1,rfl,rfl,rfl,⟨_,_,_,rfl⟩,e0.2,by omega,em⟩
 case round=>
  obtain⟨a,f,x,p,d,A,t,rfl,rfl,rfl,⟨c2,c5,mv,rfl⟩,hj,hh,y⟩:=hrel;clear em el;obtain⟨t,rfl⟩:∃bc,t=bc+1:=⟨t-1,by omega⟩;obtain⟨g8,g9,fq⟩:=bI y.row;cases fq;have c:=y.eq;rw[wH]at c;have e1:=bL f2 y.bl.size;have e5:=y.ol;by_cases b2:a<s.size
  ·rw[aa (by omega)]at c;have f0:(a:Int)<(s.size:Int):=by omega
   have ea:=fun w=>L7 s d1 a b2 w;have dk:=L8 s a;obtain⟨e,df⟩:=az (tw s a);rw[df]at ea c dk;have ct:=aq df;obtain⟨mv,a5⟩:=az A.length;have C:=aq a5;rw[a5]at e5⊢;have bo:E0 ((if e=7 then(if(feedL f 5).2=M then wH s t (feedL f 5).1 (blk s (s.size+1) (rdI s a).a) (d+1) (A++[⟨5,(a:Nat),((rdI s a).a:Nat),d,(rdI s a).n,(rdI s a).x⟩]) else wH s t f (blk s (s.size+1) (rdI s a).a) (d+1) A)
    else if(AC f e).2=M then(if(rdI s a).ok=M then wH s t (feedL f e).1 (blk s (s.size+1) (rdI s a).a) d (A++[⟨e,(a:Nat),((rdI s a).a:Nat),d,(rdI s a).n,(rdI s a).x⟩]) else([],f,((rdI s a).a:Nat)))
    else([],f,(wrongF s a (zh f):Nat)))=L):=c
   clear c df a5;go_wp2_with fail;refine(ea _).mono ?_;rintro z ak ⟨l,k,i,et,rfl,e8,dn⟩;have cw:=y.below dn e1;have f3:=dn.size;have an:=aq e8;clear ea dn y e8;obtain⟨g,dq⟩:=az ak.heap.size;go_upto_region 8 with fail
   have a2:dD g (ak.alloc (.cells #[.int .i64 e,.int .i64 a,.int .i64 l,.int .i64 d,.int .i64 k,.string i] 67)) e a l d k i:=by rw[<-dq];exact aA ak _
   have b:E0 (L9 w base mb s L a f x p d A (t+1) (.slice c2 A.length c5) (ak.alloc (.cells #[.int .i64 e,.int .i64 a,.int .i64 l,.int .i64 d,.int .i64 k,.string i] 67))):=cw.below (cK ak _) (by omega);have cB:∀bc,(Value.slice c2 mv c5).ownBlock=A0 bc->bc<g:=fun bc fB=>by
    have e7:=cw.row;rw[C.out]at e7;have:=(e7.lt bc fB).2;omega
   have cz:g≠mb:=by
    obtain⟨ei,J,_⟩:=cw.m.ex;have:=ai J;omega
   have f1:(ak.alloc (.cells #[.int .i64 e,.int .i64 a,.int .i64 l,.int .i64 d,.int .i64 k,.string i] 67)).heap.size=g+1:=by rw[cD,dq]
   generalize ak.alloc (.cells #[.int .i64 e,.int .i64 a,.int .i64 l,.int .i64 d,.int .i64 k,.string i] 67)=c1 at a2 b f1⊢;have hd:=b.cl.2;have he:=b.cl.1;have hc:base<=g:=by omega
   have hi:=b.l0;obtain⟨gf,gm,gn,gp,gr,gs,gt⟩:=bg a2;clear cw dq f3 e1;by_cases c8:e=7
   ·subst c8;obtain⟨d2,fF⟩:=af3 s a ct.out;obtain⟨bf,d0,a6,b4,a7,dz⟩:=an.yes d2;clear d0 dz;have af:=mL s a b2 d2;have c:=bo.out;rw[ab rfl,<-b4,<-a7]at c;obtain⟨B,bA⟩:=az ((rdI s a).a);rw[bA]at c a6 af;subst bf;have ar:=fun w=>sE s (by omega) B (by omega) w;have bd:=qD s (s.size+1) B (by omega);obtain⟨br,bD⟩:=az (blk s (s.size+1) B);rw[bD]at c ar bd;rw[<-a6]at ar c;have b8:=ye b.o (show(1:Int)<=5 by omega) (by omega);have m:=yh c1 base mb p f x 5 b.m b.sk b.o (by omega) (by omega) (by omega);obtain⟨bs,bE⟩:=az (feedL f 5);rw[bE]at m c b8;unfold uj at m;obtain⟨ef,b5⟩:=az bs.2;rw[b5]at m c;have fx:a<B/\B<=s.size:=⟨af.1,af.2.1⟩;clear b4 a7 bE b5 d2 fF af bA bD ct an bo a6;go_wp2_with fail;refine m.mono ?_;rintro z n ⟨cc,D,rfl,H,a0,a4,q,G⟩;cases ef with
    |false=>
     rw[aa (by simp)]at c;have bk:=aq c;have r:=q.blk a2 (by decide) cz;obtain⟨ei,J,_⟩:=b.m.ex;have row3:=q.row J b.row (by decide) (by decide);have fg:E0 (L9 w base mb s L br f x (p++D) (d+1) A t (.slice c2 mv c5) n):=
      ⟨H,b.sk.app D,b.o,b.bl.trans G,by rw[<-C.out]at *;exact row3,bk,⟨by rw[aK];omega,by rw[aK];omega⟩,by rw[C.out];omega,⟨by omega,by omega⟩⟩
     obtain⟨cf,cg,ch,ck,cn,cq,cr⟩:=bg r;clear m c a2 r row3 J H a0 q G b gf gm gn gp gr gs gt;go_wp2_with (go_at_call 86;refine dB (ar _) ?_);exact⟨⟨br,f,x,p++D,d+1,A,t,rfl,by go_num,rfl,⟨_,_,_,rfl⟩,bd.2,by omega,fg⟩,by simp[Br];omega⟩
    |true=>
     rw[ab rfl]at c;have bk:=aq c;clear c;have r:dD g n 7 a l d k i:=q.blk a2 (by decide) cz;obtain⟨ei,J,_⟩:=b.m.ex;have row3:=q.row J b.row (by decide) (by decide);rw[C.out]at row3;have bw:=b.bl.trans G;have F:dD g (n.setCell ⟨g,0,Ax⟩ (.int .i64 5)) 5 a l d k i:=r.setKind 5;have ca:=H.other (j:=0) (v:= .int .i64 5) (show n.heap[g]?=A0 (.cells _ _ _) from r) (by decide) (by decide);have ba:=C5 (j:=0) (u:= .int .i64 5) row3 cB;have bx:Bs base w (n.setCell ⟨g,0,Ax⟩ (.int .i64 5)):=bw.setCell (by simp;omega) _;have bh:=gI a0 a4;obtain⟨cf,cg,ch,ck,cn,cq,cr⟩:=bg r;clear m r H row3 bw J a0 a4 q G;go_upto_region 24 with fail
     generalize n.setCell ⟨g,0,Ax⟩ (.int .i64 5)=a3 at F ca ba bx⊢;obtain⟨g0,g1,g2,g3,g4,g5,g7⟩:=bg F;have E:=aq ba;have cI:=aq F;have ds:g<a3.heap.size:=ai F;clear F ba cf cg ch ck cn cq cr;go_wp2_with (first|(at_builtin;refine oe _ rfl _ _ 31 rfl base 67 d4 _ 6 56 Tryz.underlying31 d5 d6 d7 d8 rfl (by decide) _ _ _ rfl (E.alloc _) ⟨a3.heap.size,0,Ax⟩ 1 1 [.int .i64 5,.int .i64 a,.int .i64 l,.int .i64 d,.int .i64 k,.string i] rfl rfl (B6 (cs:=#[.int .i64 5,.int .i64 a,.int .i64 l,.int .i64 d,.int .i64 k,.string i]) (fr:=(0,0)) (aA a3 _)) (by intro u ap;simp at ap;rcases ap with rfl|rfl|rfl|rfl|rfl|rfl<;>rfl) (by unfold Fs;omega) (by omega) (by simp;omega) ?_;intro fd bb ao I e4;obtain⟨c7,c4,rfl⟩:=Er ao;have c0:dD g bb 5 a l d k i:=(I.block g (by simp;omega) (fun z=>by have:=cB g z.symm;omega)).trans ((dg _ _ _ ds).trans cI);obtain⟨f6,f7,f8,f9,gb,gd,ge⟩:=bg c0)|(go_at_call 86;refine dB (ar _) ?_));have cb:=ca.app E I (by decide) (by decide);have bt:Bs base w bb:=(bx.alloc (by omega) _).grown I (by simp;omega) (fun b9 b0=>(E.out.lt b9 b0).1);refine⟨⟨br,bs.1,cc,p++D,d+1,A++[⟨5,(a:Nat),l,d,k,i⟩],t,rfl,by go_num,rfl,⟨_,_,_,rfl⟩,bd.2,by omega,⟨cb,bh.1,?_,bt,?_,?_,?_,?_,?_⟩⟩,by simp[Br];omega⟩
     ·exact b8
     ·rw[aK,C.out,tK];exact ao
     ·exact bk
     ·have:=b.cl;have:=bh.2;rw[aK];omega
     ·rw[aK,C.out];simp;omega
     ·have:=b.l0;omega
   ·have c:=bo.out;rw[aa c8]at c;have ha:(e==7)=U:=beq_eq_false_iff_ne.2 c8;by_cases fu:e=0
    ·subst fu;rw[show AC f 0=(f,U) from rfl,aa (by simp)]at c;have al:=aq c;clear c bo an ct;obtain⟨a1,ad⟩:=az (zh f);have fA:a1.length<=78:=by rw[<-ad];exact vq f 78
     have a8:=abq c1 base mb p f x b.m b.sk b.o (by omega) (by omega);rw[ad]at a8;have K:E0 ((([]:List Tk),f,((wrongF s a a1:Nat):Int))=L):=by rw[<-ad];exact al
     clear ad;go_wp2_with fail;refine a8.mono ?_;rintro z ek ⟨fm,fo,rfl,eg,ec,d9,c3⟩;have eb:=Af ek s a _ a1 (uI eg) (by omega) d1 b2;clear a8;go_wp2_with (go_at_call 88;refine eb.mono ?_;rintro z gz ⟨rfl,bF⟩);go_ret3
     refine⟨Ax,0,x,p,?_,?_,ec.below bF,?_,?_,?_,?_,?_⟩
     ·rw[<-K.out];rfl
     ·rw[<-K.out];exact dr _ _ _ _
     ·rw[<-K.out];exact b.sk
     ·rw[<-K.out];exact b.o
     ·exact(b.bl.trans c3).trans (bF.mono (by have:=d9.size;first|omega|(have:=q.size;omega)))
     ·have:=b.cl;omega
     ·have:=b.cl;omega
    ·have fz:0<e:=by omega
     have e2:AC f e=feedL f e:=by unfold AC;rw[ab fz]
     rw[e2]at c;have b8:=ye b.o (show(1:Int)<=e by omega) dk.2;have m:=yh c1 base mb p f x e b.m b.sk b.o (by omega) dk.2 (by omega);obtain⟨bs,bE⟩:=az (feedL f e);rw[bE]at m c b8;unfold uj at m;obtain⟨ef,b5⟩:=az bs.2;rw[b5]at m c;clear bE b5 e2 bo ct;cases ef with
     |false=>
      rw[aa (by simp)]at c;have al:=aq c;clear c an;go_wp2_with fail;refine m.mono ?_;rintro z n ⟨cc,D,rfl,H,a0,a4,q,G⟩;have r:dD g n e a l d k i:=q.blk a2 (by decide) cz;obtain⟨cf,cg,ch,ck,cn,cq,cr⟩:=bg r;clear m;obtain⟨a1,ad⟩:=az (zh f);have fA:a1.length<=78:=by rw[<-ad];exact vq f 78
      have a8:=abq n base mb (p++D) f x H (b.sk.app D) b.o (by rw[aK];omega) (by rw[aK];omega);rw[ad]at a8;have K:E0 ((([]:List Tk),f,((wrongF s a a1:Nat):Int))=L):=by rw[<-ad];exact al
      clear ad;go_wp2_with fail;refine a8.mono ?_;rintro z ek ⟨fm,fo,rfl,eg,ec,d9,c3⟩;have eb:=Af ek s a _ a1 (uI eg) (by omega) d1 b2;clear a8;go_wp2_with (go_at_call 88;refine eb.mono ?_;rintro z gz ⟨rfl,bF⟩);go_ret3
      refine⟨Ax,0,x,p++D,?_,?_,ec.below bF,?_,?_,?_,?_,?_⟩
      ·rw[<-K.out];rfl
      ·rw[<-K.out];exact dr _ _ _ _
      ·rw[<-K.out];exact(b.sk.app D)
      ·rw[<-K.out];exact b.o
      ·exact((b.bl.trans G).trans c3).trans (bF.mono (by have:=d9.size;first|omega|(have:=q.size;omega)))
      ·have:=b.cl;rw[aK];omega
      ·have:=b.cl;rw[aK];omega
     |true=>
      rw[ab rfl]at c;cases hokI:(rdI s a).ok with
      |false=>
       rw[hokI,aa (by simp)]at c;have bf:=an.no hokI;have hb:¬et<0:=by omega
       have al:E0 ((([]:List Tk),f,et)=L):=by rw[bf];exact c
       clear c an bf hokI;go_wp2_with fail;refine m.mono ?_;rintro z n ⟨cc,D,rfl,H,a0,a4,q,G⟩;clear m;go_wp2_with fail;go_ret3
       refine⟨Ax,0,x,p++D,?_,?_,H,?_,?_,b.bl.trans G,?_,?_⟩
       ·rw[<-al.out];rfl
       ·rw[<-al.out];exact dr _ _ _ _
       ·rw[<-al.out];exact b.sk.app D
       ·rw[<-al.out];exact b.o
       ·rw[aK];omega
       ·rw[aK];omega
      |true=>
       rw[hokI,ab rfl]at c;obtain⟨bf,d0,a6,b4,a7,dz⟩:=an.yes hokI;clear d0 dz;have af:=mL s a b2 hokI;rw[<-b4,<-a7]at c;obtain⟨B,bA⟩:=az ((rdI s a).a);rw[bA]at c a6 af;subst bf;have ar:=fun w=>sE s (by omega) B (by omega) w;have bd:=qD s (s.size+1) B (by omega);obtain⟨br,bD⟩:=az (blk s (s.size+1) B);rw[bD]at c ar bd;rw[<-a6]at ar c;have fx:a<B/\B<=s.size:=⟨af.1,af.2.1⟩;have bk:=aq c;clear c b4 a7 af bA bD an a6 hokI;go_wp2_with fail;refine m.mono ?_;rintro z n ⟨cc,D,rfl,H,a0,a4,q,G⟩;have r:dD g n e a l d k i:=q.blk a2 (by decide) cz;obtain⟨ei,J,_⟩:=b.m.ex;have row3:=q.row J b.row (by decide) (by decide);rw[C.out]at row3;have bw:=b.bl.trans G;have F:dD g (n.setCell ⟨g,0,Ax⟩ (.int .i64 e)) e a l d k i:=r.setKind e;have ca:=H.other (j:=0) (v:= .int .i64 e) (show n.heap[g]?=A0 (.cells _ _ _) from r) (by decide) (by decide);have ba:=C5 (j:=0) (u:= .int .i64 e) row3 cB;have bx:Bs base w (n.setCell ⟨g,0,Ax⟩ (.int .i64 e)):=bw.setCell (by simp;omega) _;have bh:=gI a0 a4;obtain⟨cf,cg,ch,ck,cn,cq,cr⟩:=bg r;clear m r H row3 bw J a0 a4 q G;go_upto_region 24 with fail
       generalize n.setCell ⟨g,0,Ax⟩ (.int .i64 e)=a3 at F ca ba bx⊢;obtain⟨g0,g1,g2,g3,g4,g5,g7⟩:=bg F;have E:=aq ba;have cI:=aq F;have ds:g<a3.heap.size:=ai F;clear F ba cf cg ch ck cn cq cr;go_wp2_with (first|(at_builtin;refine oe _ rfl _ _ 31 rfl base 67 d4 _ 6 56 Tryz.underlying31 d5 d6 d7 d8 rfl (by decide) _ _ _ rfl (E.alloc _) ⟨a3.heap.size,0,Ax⟩ 1 1 [.int .i64 e,.int .i64 a,.int .i64 l,.int .i64 d,.int .i64 k,.string i] rfl rfl (B6 (cs:=#[.int .i64 e,.int .i64 a,.int .i64 l,.int .i64 d,.int .i64 k,.string i]) (fr:=(0,0)) (aA a3 _)) (by intro u ap;simp at ap;rcases ap with rfl|rfl|rfl|rfl|rfl|rfl<;>rfl) (by unfold Fs;omega) (by omega) (by simp;omega) ?_;intro fd bb ao I e4;obtain⟨c7,c4,rfl⟩:=Er ao;have c0:dD g bb e a l d k i:=(I.block g (by simp;omega) (fun z=>by have:=cB g z.symm;omega)).trans ((dg _ _ _ ds).trans cI);obtain⟨f6,f7,f8,f9,gb,gd,ge⟩:=bg c0)|(go_at_call 86;refine dB (ar _) ?_));have cb:=ca.app E I (by decide) (by decide);have bt:Bs base w bb:=(bx.alloc (by omega) _).grown I (by simp;omega) (fun b9 b0=>(E.out.lt b9 b0).1);refine⟨⟨br,bs.1,cc,p++D,d,A++[⟨e,(a:Nat),l,d,k,i⟩],t,rfl,rfl,rfl,⟨_,_,_,rfl⟩,bd.2,by omega,⟨cb,bh.1,?_,bt,?_,?_,?_,?_,?_⟩⟩,by simp[Br];omega⟩
       ·exact b8
       ·rw[aK,C.out,tK];exact ao
       ·exact bk
       ·have:=b.cl;have:=bh.2;rw[aK];omega
       ·rw[aK,C.out];simp;omega
       ·have:=b.l0;omega
  ·rw[ab (by omega)]at c;have e6:a=s.size:=by omega
   obtain⟨mv,a5⟩:=az A.length;have C:=gI a5 e6;have d3:=y.row;rw[a5]at e5 d3⊢;have E:=aq d3;have bn:=aq c;have f0:¬(a:Int)<(s.size:Int):=by omega
   clear c a5 d3 e6;go_wp2_with (at_builtin;refine oe _ rfl _ _ 31 rfl base 67 d4 _ 6 56 Tryz.underlying31 d5 d6 d7 d8 rfl (by decide) _ _ _ rfl (E.alloc _) ⟨wr.heap.size,0,Ax⟩ 1 1 [.int .i64 6,.int .i64 s.size,.int .i64 s.size,.int .i64 d,.int .i64 0,.string ⟨#[]⟩] rfl rfl (B6 (cs:=#[.int .i64 6,.int .i64 s.size,.int .i64 s.size,.int .i64 d,.int .i64 0,.string ⟨#[]⟩]) (fr:=(0,0)) (aA wr _)) (by intro u ap;simp at ap;rcases ap with rfl|rfl|rfl|rfl|rfl<;>rfl) (by unfold Fs;omega) (by omega) (by simp;omega) ?_;intro fd bb ao I e4;obtain⟨c7,c4,rfl⟩:=Er ao);go_ret3
   have cb:=y.m.app E I (by decide) (by decide);have bt:Bs base w bb:=(y.bl.alloc (by omega) _).grown I (by simp;omega) (fun b9 b0=>(E.out.lt b9 b0).1);have e3:L.1.length=mv+1:=by rw[<-bn.out,aK,C.out.1];rfl
   refine⟨A0 ⟨c7,0,Ax⟩,c4,x,p,?_,?_,cb,?_,?_,bt,y.cl.1,?_⟩
   ·rw[e3,<-bn.out];rfl
   ·rw[e3,<-bn.out,tK];exact ao
   ·rw[<-bn.out];exact y.sk
   ·rw[<-bn.out];exact y.o
   ·have:=y.cl.2;omega
def Kx(a b:ByteArray):Nat->Nat->Nat
 |0,n=>n
 |f+1,n=>if n<a.size/\n<b.size/\ax a n=ax b n then Kx a b f (n+1) else n
def ew(a b:ByteArray):Nat:=Kx a b (a.size+1) 0
structure alv (a b:ByteArray) (f n R:Nat):Prop where
 out:Kx a b f n=R
theorem C6(w:A2)(a b:ByteArray)(B:a.size<=1100000)(C:b.size<=1100000):
  B3 T 135 #[Z a,Z b] w fun e w'=>e= A5 (O Q (ew a b))/\Bs w.heap.size w w':=by
 unfold ew;obtain⟨k,n⟩:=az (Kx a b (a.size+1) 0);rw[n];have r:alv a b (a.size+1) 0 k:=⟨n⟩;clear n;go_in;go_wp21
 go_loopw [5] (fun p wr=>∃(c f:Nat),c<=a.size/\a.size<c+f/\p= O Q c/\alv a b f c k/\Bs w.heap.size w wr) (fun p _=>a.size+1-(Br p).toNat)
 case atStart=>exact⟨0,a.size+1,by omega,by omega,rfl,r,ah _ _⟩
 case round=>
  obtain⟨c,f,F,E,rfl,q,s⟩:=hrel;clear r;obtain⟨f,rfl⟩:∃v,f=v+1:=⟨f-1,by omega⟩;have d:=q.out;rw[Kx]at d;have j:∀o,Bs w.heap.size w (wr.drewN o):=fun o=>s.trans (acz _ wr o);clear q s;by_cases l:c<a.size
  ·have x:(c:Int)<(a.size:Int):=by omega
   by_cases m:c<b.size
   ·have y:(c:Int)<(b.size:Int):=by omega
    have t:=fun w=>cL l w;have z:=fun w=>cL m w;by_cases g:ax a c=ax b c
    ·rw[ab ⟨l,m,g⟩]at d;rw[g]at t;have u:alv a b f (c+1) k:=⟨d⟩;clear d g;generalize ax b c=A at t z;go_wp21
     go_quiet (fail)
     go_wp21
     exact⟨⟨c+1,f,by omega,by omega,by go_num,u,j _⟩,by simp[Br];omega⟩
    ·rw[aa (fun i=>g i.2.2)]at d;have h:=aq d;have G:=beq_eq_false_iff_ne.2 g;clear d g;go_wp21
     go_quiet (fail)
     go_wp21
     go_ret;exact⟨by rw[<-h.out];rfl,j _⟩
   ·rw[aa (fun i=>m i.2.1)]at d;have h:=aq d;have y:¬(c:Int)<(b.size:Int):=by omega
    clear d;go_wp21
    go_quiet (fail)
    go_wp21
    go_ret;exact⟨by rw[<-h.out];rfl,j _⟩
  ·rw[aa (fun i=>l i.1)]at d;have h:=aq d;have x:¬(c:Int)<(a.size:Int):=by omega
   clear d;go_wp21
   go_quiet (fail)
   go_wp21
   go_ret;exact⟨by rw[<-h.out];rfl,j _⟩
def bnC(k c:Int):Bool:=if k=1 then bJ c else if k=2 then cp c else if k=3 then cp c else decide (c=34)
def nu(k:Int)(x:ByteArray):Nat:=if x.size=0 then 0 else if k=1\/k=2\/k=3\/k=4 then(if bnC k (ax x 0)=M then x.size else 0) else ew x (fy k)
theorem af4(k:Int):(fy k).size<=6:=by
 by_cases c:0<=k/\k<=78
 ·have a:∀b:Fin 79,(fy (b.val:Int)).size<=6:=by decide+kernel
  have:=a ⟨k.toNat,by omega⟩;rw[show(((⟨k.toNat,by omega⟩:Fin 79).val:Nat):Int)=k by simp;omega]at this;exact this
 ·unfold fy;rw[aa (by omega),aa (by omega),aa (by omega),aa (by omega),aa (by omega)];decide
theorem D4(w:A2)(k:Int)(x:ByteArray)(j:qv w)(r:x.size<=1100000)(z:1<=k)(A:k<=78):
  B3 T 137 #[O Q k,Z x] w fun e w'=>e= A5 (O Q (nu k x))/\Bs w.heap.size w w':=by
 unfold nu;by_cases f:x.size=0
 ·rw[ab f];have e:x=⟨#[]⟩:=by
   obtain⟨n⟩:=x;have:n.size=0:=f
   congr
   exact Array.eq_empty_of_size_eq_zero this
  subst e;go_in;go_wp21
  go_ret;exact⟨rfl,ah _ _⟩
 ·rw[aa f];have v:(x.toList==[])=U:=by
   have:x.toList.length=x.size:=by rw[fE];simp
   cases hs:x.toList with
   |nil=>rw[hs]at this;simp at this;omega
   |cons u G=>rfl
  have g:=fun w=>cL (s:=x) (i:=0) (by omega) w;rw[show(((0:Nat):Int))=0 from rfl]at g;have q:(k=1\/k=2\/k=3\/k=4)\/¬(k=1\/k=2\/k=3\/k=4):=Classical.em _;rcases q with h|h
  ·rw[ab h];generalize ax x 0=a at g⊢;have d:=fun w=>lK a w;have c:=fun w=>iH a w;rcases h with rfl|rfl|rfl|rfl
   ·rw[show bnC 1 a=bJ a from rfl];clear c;cases b:bJ a;all_goals
     rw[b]at d;go_in;go_wp2_with (go_at_call 198;refine(d _).mono ?_;rintro e w' ⟨rfl,rfl⟩);go_ret;exact⟨rfl,ah _ _⟩
   ·rw[show bnC 2 a=cp a from rfl];clear d;cases b:cp a;all_goals
     rw[b]at c;go_in;go_wp2_with (go_at_call 200;refine(c _).mono ?_;rintro e w' ⟨rfl,rfl⟩);go_ret;exact⟨rfl,ah _ _⟩
   ·rw[show bnC 3 a=cp a from rfl];clear d;cases b:cp a;all_goals
     rw[b]at c;go_in;go_wp2_with (go_at_call 200;refine(c _).mono ?_;rintro e w' ⟨rfl,rfl⟩);go_ret;exact⟨rfl,ah _ _⟩
   ·rw[show bnC 4 a=decide (a=34) from rfl];clear d c;by_cases b:a=34
    ·subst b;go_in;go_wp21
     go_ret;exact⟨rfl,ah _ _⟩
    ·rw[aC b];go_in;go_wp21
     go_ret;exact⟨rfl,ah _ _⟩
  ·rw[aa h];have B:¬k=1:=by omega
   have C:¬k=2:=by omega
   have E:¬k=3:=by omega
   have F:¬k=4:=by omega
   have m:=qw k (by omega) (by omega) w j;have p:=af4 k;have l:=fun w=>C6 w x (fy k) r (by omega);generalize fy k=t at m l p⊢;clear h g j;go_in;go_wp2_with (first|(go_at_call 121;refine m.mono ?_;rintro e w' ⟨rfl,y⟩;subst w')|(go_at_call 135;refine(l _).mono ?_;rintro e H ⟨rfl,o⟩));go_ret;exact⟨rfl,o⟩
attribute [local go_sem] lE
def N23(st:List Int):Prop:=∀a∈st,a≠2/\a≠3
def c23(s t:Int):Bool:=match eF 8 [s] t 0 with|some (b,_,_)=>b.all (fun a=>decide (a≠2/\a≠3))|none=>M
theorem aja:((List.range 34).all fun s=>(List.range 78).all fun t=>c23 ((s:Int)+100) ((t:Int)+1))=M:=by decide+kernel
def e23(s:Int):Bool:=decide (((xE s 2).1=[]/\(xE s 2).2=M)↔((xE s 3).1=[]/\(xE s 3).2=M))&&match eF 8 [s] 2 0,eF 8 [s] 3 0 with|some (_,some a,_),some (_,some b,_)=>a==b|_,_=>M
theorem ajb:((List.range 34).all fun s=>e23 ((s:Int)+100))=M:=by decide+kernel
theorem aab(f:1<=t)(g:t<=78):∀(st:List Int),Bg st->N23 st->N23 (feedL st t).1
 |[],_,h=>by rw[feedL];exact h
 |s::r,o,h=>by
  have d:N23 r:=fun a hx=>h a (dI _ hx);have j:=o s cE;by_cases i:s<100
  ·rw[iE i];exact d
  by_cases c:(xE s t).1=[]/\(xE s t).2=M
  ·rw[lp (by omega) c];exact aab f g r (fun a hx=>o a (dI _ hx)) d
  ·obtain⟨l,k,m,e,_⟩:=ud (by omega) j f g c;have b:=List.all_eq_true.1 (List.all_eq_true.1 aja (s-100).toNat (by rw[jp];omega)) (t-1).toNat (by rw[jp];omega);rw[show(((s-100).toNat:Nat):Int)+100=s by omega,show(((t-1).toNat:Nat):Int)+1=t by omega]at b;unfold c23 at b;rw[lr (by omega) c e];rw[e]at b;intro a hx;rcases List.mem_append.1 hx with hx|hx
   ·exact aH (List.all_eq_true.1 b a hx)
   ·exact d a hx
theorem akm:∀(st:List Int),Bg st->N23 st->(feedL st 2).2=(feedL st 3).2
 |[],_,h=>by rw[feedL,feedL]
 |s::r,o,h=>by
  have k:=o s cE;by_cases j:s<100
  ·have:=h s cE;rw[iE j,iE j,aC this.1,aC this.2]
  have b:=List.all_eq_true.1 ajb (s-100).toNat (by rw[jp];omega);rw[show(((s-100).toNat:Nat):Int)+100=s by omega]at b;unfold e23 at b;rw[ci]at b;have e:=aH b.1;by_cases a:(xE s 2).1=[]/\(xE s 2).2=M
  ·rw[lp (by omega) a,lp (by omega) (e.1 a)];exact akm r (fun f d=>o f (dI _ d)) (fun f d=>h f (dI _ d))
  ·obtain⟨p,m,u,g,_⟩:=ud (by omega) k (by omega) (by omega) a;obtain⟨q,n,v,i,_⟩:=ud (t:=3) (by omega) k (by omega) (by omega) (fun c=>a (e.2 c));rw[lr (by omega) a g,lr (by omega) (fun c=>a (e.2 c)) i];have l:=b.2;rw[g,i]at l;exact beq_iff_eq.1 l
inductive D (tk:Nat->Tk) (n:Nat):Nat->List Int->Nat->Nat->Prop where
 |nil {i:Nat}:D tk n 0 [] i i
 |tok {m:Nat}{s:Int}{r:List Int}{i j:Nat}:s<100->(tk i).k=s->i<n->D tk n m r (i+1) j->D tk n (m+1) (s::r) i j
 |exp {m:Nat}{s:Int}{r:List Int}{i j:Nat}:100<=s->i<n->(xE s (tk i).k).2=true->D tk n m ((xE s (tk i).k).1++r) i j->D tk n (m+1) (s::r) i j
section
variable {tk : Nat → Tk} {n : Nat}
theorem D.split{st:List Int}(h:D tk n m st i j):∀(a b:List Int),st=a++b->∃d e k,D tk n d a i k/\D tk n e b k j/\d+e=m:=by
 induction h with
 |nil=>
  intro a b c;obtain⟨rfl,rfl⟩:a=[]/\b=[]:=by simpa using c.symm
  exact⟨0,0,_,.nil,.nil,rfl⟩
 |@tok m o t i j f g l r s=>
  intro a b c;cases a with
  |nil=>
   rw[dt]at c;exact⟨0,m+1,i,.nil,by rw[<-c];exact .tok f g l r,by omega⟩
  |cons u a=>
   obtain⟨rfl,rfl⟩:o=u/\t=a++b:=by simpa using c
   obtain⟨d,e,k,p,q,v⟩:=s a b rfl;exact⟨d+1,e,k,.tok f g l p,q,by omega⟩
 |@exp m o t i j f g l r s=>
  intro a b c;cases a with
  |nil=>
   rw[dt]at c;exact⟨0,m+1,i,.nil,by rw[<-c];exact .exp f g l r,by omega⟩
  |cons u a=>
   obtain⟨rfl,rfl⟩:o=u/\t=a++b:=by simpa using c
   obtain⟨d,e,k,p,q,v⟩:=s ((xE o (tk i).k).1++a) b (by rw[dy]);exact⟨d+1,e,k,.exp f g l p,q,by omega⟩
theorem D.cut(h:D tk n m (s::r) i j):∃a b k,D tk n a [s] i k/\D tk n b r k j/\a+b=m:=h.split [s] r rfl
theorem D.nils(h:D tk n m [] i j):i=j:=by cases h;rfl
theorem D.toks(h:D tk n m (s::r) i j)(f:s<100:=by omega):(tk i).k=s/\i<n/\∃d,D tk n d r (i+1) j/\d<m:=by
 cases h with
 |tok e a b c=>exact⟨a,b,_,c,by omega⟩
 |exp e a b c=>omega
theorem D.exps(h:D tk n m (s::r) i j)(f:100<=s):i<n/\(xE s (tk i).k).2=M/\∃d,D tk n d ((xE s (tk i).k).1++r) i j/\d<m:=by
 cases h with
 |tok e a b c=>omega
 |exp e a b c=>exact⟨a,b,_,c,by omega⟩
theorem D.row(h:D tk n m [s] i j)(g:100<=s){x:List Int×Bool}(e:xE s (tk i).k=x):i<n/\x.2=M/\∃a,D tk n a x.1 i j/\a<m:=by
 obtain⟨d,c,a,b,f⟩:=h.exps g;rw[e]at c b;rw[dA]at b;exact⟨d,c,a,b,f⟩
structure Ex (tk:Nat->Tk) (n m:Nat):Prop where
 unit:∀{i j:Nat},D tk n m [120] i j->j<n->∃N ks,P tk n .unit i (one N ks) j
 expr:∀{i j:Nat},D tk n m [119] i j->j<n->∃N ks,P tk n (.expr 0) i (one N ks) j
 exprs:∀{i j:Nat},D tk n m [124] i j->j<n->∃R,P tk n .exprs i R j
 moreE:∀{i j:Nat},D tk n m [125] i j->j<n->∃R,P tk n .moreE i R j
 block:∀{i j:Nat},D tk n m [132] i j->j<n->∃N ks,P tk n .block i (one N ks) j
 stats:∀{i j:Nat},D tk n m [100] i j->j<n->(tk j).k=43\/(tk j).k=6->∃R,P tk n .stats i R j
 body:∀{i j:Nat}(s:Tk),D tk n m [133] i j->j<n->∃N ks,P tk n (.body s) i (one N ks) j
 entries:∀{i j:Nat},D tk n m [129] i j->j<n->(tk j).k=43->∃R,P tk n .entries i R j
 entry:∀{i j:Nat},D tk n m [131] i j->j<n->∃N ks,P tk n .entry i (one N ks) j
 els:∀{i j k k1:Nat}{x b:Fo},(tk i).k=20\/(tk i).k=15->i<n->P tk n (.expr 0) (i+1) x k->P tk n .block k b k1->D tk n m [105] k1 j->j<n->∃N ks,P tk n .branch i (one N ks) j
theorem ajc(k:Int):1<=Iz k:=by
 unfold Iz
 repeat' split
 all_goals omega
theorem D.lt(h:D tk n m (s::r) i j):i<n:=by cases h<;>assumption
theorem rA(h:dK t=M):t≠6/\t≠41/\t≠43/\t≠5/\t≠44/\t≠48/\t≠46:=by
 refine⟨?_,?_,?_,?_,?_,?_,?_⟩;all_goals
  rintro rfl;revert h;decide
theorem ann(F:∀i,(tk i).k<100):∀(m:Nat),(∀a,a<m->Ex tk n a)->∀{k j:Nat},D tk n m [121] k j->j<n->∀(p:Int)(s:Tk)(N:Nd)(ks:Fo),∃q ak d a,P tk n (.more p s (one N ks)) k (one q ak) d/\D tk n a [121] d j/\a<=m/\(ip (tk d).k=M->Iz (tk d).k<p):=by
 intro m
 induction m using Nat.strongRecOn with
 |_ m o=>
  intro f k j e l p s N ks;by_cases c:ip (tk k).k=M/\p<=Iz (tk k).k
  ·obtain⟨H,_,a7,w,a0⟩:=e.row (by omega) (x:=([(tk k).k,119],M)) (by simp[xE,aia,c.1]);obtain⟨_,_,a8,y,a1⟩:=w.toks (F k);obtain⟨z,G,a9,A,a2⟩:=y.row (by omega) (x:=([120,121],dK (tk (k+1)).k)) (by simp[xE,ah9]);obtain⟨ao,ap,a6,B,h,a3⟩:=A.cut;obtain⟨v,an,L⟩:=(f ao (by omega)).unit B h.lt;obtain⟨r,al,ad,ar,I,C,a4,_⟩:=o ap (by omega) (fun a b=>f a (by omega)) h l (rpw (tk k).k) (tk (k+1)) v an;obtain⟨u,am,af,av,J,E,a5,K⟩:=o ar (by omega) (fun a b=>f a (by omega)) C l p s (wv (tk k).k s (tk (ad-1)).t) ((one N ks).app (one r al));exact⟨u,am,af,av,.mgo H c.1 c.2 (.ex (rA G).1 z L I) J,E,by omega,K⟩
  ·exact⟨N,ks,k,m,.mstop e.lt (fun b=>by rcases Int.lt_or_le (Iz (tk k).k) p with g|g;exact g;exact absurd ⟨b,g⟩ c),e,ag _,fun b=>by rcases Int.lt_or_le (Iz (tk k).k) p with g|g;exact g;exact absurd ⟨b,g⟩ c⟩
theorem ajd(p:∀i,(tk i).k<100)(e:∀a,a<m->Ex tk n a)(r:D tk n m [119] i j)(u:j<n):∃N ks,P tk n (.expr 0) i (one N ks) j:=by
 obtain⟨t,q,F,g,C⟩:=r.row (by omega) (x:=([120,121],dK (tk i).k)) (by simp[xE,ah9]);obtain⟨A,B,k,h,d,E⟩:=g.cut;obtain⟨N,ks,y⟩:=(e A (by omega)).unit h d.lt;obtain⟨f,z,b,a,v,l,_,w⟩:=ann p B (fun a c=>e a (by omega)) d u 0 (tk i) N ks;have s:ip (tk b).k=U:=by
  cases c:ip (tk b).k with
  |false=>rfl
  |true=>have:=w c;have:=ajc (tk b).k;omega
 obtain⟨_,_,G,o,_⟩:=l.row (by omega) (x:=([],M)) (by simp[xE,aia,s]);obtain rfl:=o.nils;exact⟨f,z,.ex (rA q).1 t y v⟩
def fam(S:Int):Int:=if S<=112 then 1 else if S<=115 then 2 else if S<=118 then 3 else 4
theorem aje{S:Int}(hS:S=110\/S=111\/S=112\/S=114\/S=115\/S=117\/S=118\/S=122)(h:KG t=M):∃a c,xE S t=(qg t a c,M)/\(a=110\/a=114\/a=117\/a=122)/\(c=111\/c=115\/c=118\/c=122)/\fam a=fam S/\fam c=fam S:=by
 have b:t=48\/t=44\/t=40:=aH h;rcases hS with rfl|rfl|rfl|rfl|rfl|rfl|rfl|rfl
 ·exact⟨110,111,by rcases b with rfl|rfl|rfl<;>decide,by omega,by omega,rfl,rfl⟩
 ·exact⟨110,111,by rcases b with rfl|rfl|rfl<;>decide,by omega,by omega,rfl,rfl⟩
 ·exact⟨110,111,by rcases b with rfl|rfl|rfl<;>decide,by omega,by omega,rfl,rfl⟩
 ·exact⟨114,115,by rcases b with rfl|rfl|rfl<;>decide,by omega,by omega,rfl,rfl⟩
 ·exact⟨114,115,by rcases b with rfl|rfl|rfl<;>decide,by omega,by omega,rfl,rfl⟩
 ·exact⟨117,118,by rcases b with rfl|rfl|rfl<;>decide,by omega,by omega,rfl,rfl⟩
 ·exact⟨117,118,by rcases b with rfl|rfl|rfl<;>decide,by omega,by omega,rfl,rfl⟩
 ·exact⟨122,122,by rcases b with rfl|rfl|rfl<;>decide,by omega,by omega,rfl,rfl⟩
theorem ano:∀(m:Nat),(∀a,a<m->Ex tk n a)->∀{S:Int},(S=110\/S=111\/S=112\/S=114\/S=115\/S=117\/S=118\/S=122)->∀{k j:Nat},D tk n m [S] k j->j<n->∀(s:Tk)(N:Nd)(ks:Fo),∃av a9 ad a b,P tk n (.post s (one N ks)) k (one av a9) ad/\D tk n a [b] ad j/\a<=m/\KG (tk ad).k=U/\(b=110\/b=111\/b=112\/b=114\/b=115\/b=117\/b=118\/b=122)/\fam b=fam S:=by
 intro m
 induction m using Nat.strongRecOn with
 |_ m F=>
  intro r S hS k j K E s N ks;cases hf:KG (tk k).k with
  |false=>exact⟨N,ks,k,m,S,.pstop K.lt hf,K,ag _,hf,hS,rfl⟩
  |true=>
   obtain⟨v,z,a8,bc,bd,al,am⟩:=aje hS hf;obtain⟨a3,_,bl,p,bf⟩:=K.row (by omega) a8;have a7:=aH hf;rcases a7 with e|e|e
   ·rw[show(qg (tk k).k v z,M).1=[48,1,v] by rw[e];rfl]at p;obtain⟨_,_,ar,w,an⟩:=p.toks;obtain⟨a2,a4,G,q,ao⟩:=w.toks;obtain⟨c,o,l,ak,d,p2,f,bh,g,h,i⟩:=F G (by omega) (fun a I=>r a (by omega)) (by omega) q E s (nd 33 s (tk (k+1)).t 0 0 (tk (k+1)).x []) (one N ks);exact⟨c,o,l,ak,d,.pdot e a2 a4 p2,f,by omega,g,h,by rw[i,al]⟩
   ·rw[show(qg (tk k).k v z,M).1=[44,119,45,v] by rw[e];rfl]at p;obtain⟨_,_,ar,w,an⟩:=p.toks;obtain⟨G,ak,af,q,B,ao⟩:=w.cut;obtain⟨a0,ba,L⟩:=(r G (by omega)).expr q B.lt;obtain⟨A,y,H,C,a6⟩:=B.toks;obtain⟨c,o,l,u,d,p2,f,ap,g,h,i⟩:=F H (by omega) (fun a I=>r a (by omega)) (by omega) C E s (ig 32 s (tk af).t) ((one N ks).app (one a0 ba));exact⟨c,o,l,u,d,.psq e a3 L A y p2,f,by omega,g,h,by rw[i,al]⟩
   ·rw[show(qg (tk k).k v z,M).1=[40,123,41,z] by rw[e];rfl]at p;obtain⟨_,_,ar,w,an⟩:=p.toks;obtain⟨G,ak,af,q,B,ao⟩:=w.cut;obtain⟨A,y,H,C,a6⟩:=B.toks;cases hb:dK (tk (k+1)).k with
    |false=>
     obtain⟨_,_,u,J,_⟩:=q.row (by omega) (x:=([],M)) (by simp[xE,aic,hb]);obtain rfl:=J.nils;obtain⟨c,o,l,u,d,p2,f,ap,g,h,i⟩:=F H (by omega) (fun a I=>r a (by omega)) (by omega) C E s (ig 34 s (tk (k+1)).t) (one N ks);exact⟨c,o,l,u,d,.pcall0 e A y p2,f,by omega,g,h,by rw[i,am]⟩
    |true=>
     obtain⟨a5,_,u,J,ap⟩:=q.row (by omega) (x:=([124],M)) (by simp[xE,aic,hb]);obtain⟨a1,L⟩:=(r u (by omega)).exprs J y;obtain⟨c,o,l,bb,d,p2,f,bk,g,h,i⟩:=F H (by omega) (fun a I=>r a (by omega)) (by omega) C E s (ig 34 s (tk af).t) ((one N ks).app a1);exact⟨c,o,l,bb,d,.pcall e a5 (rA hb).2.1 L A y p2,f,by omega,g,h,by rw[i,am]⟩
theorem abH{a c:Int}(h:KG t=U):qg t a c=[]:=by
 have h:=iz h;unfold qg;rw[aa (by omega),aa (by omega),aa (by omega)]
theorem D.join{o c:Nat}{a b:List Int}{k:Nat}(h:D tk n o a i k)(l:D tk n c b k j):D tk n (o+c) (a++b) i j:=by
 induction h with
 |nil=>rw[qa];exact l
 |@tok d q r i j e f g p m=>rw[show d+1+c=(d+c)+1 by omega];exact .tok e f g (m l)
 |@exp d q r i j e f g p m=>rw[show d+1+c=(d+c)+1 by omega];exact .exp (r:=r++b) e f g (by rw[<-dy];exact m l)
theorem af5(N:Nd)(ks:Fo)(s:Tk)(e:Int):∃a b,mc N ks s e=one a b:=by unfold mc;split<;>exact⟨_,_,rfl⟩
theorem JI(p:∀b,b<m->Ex tk n b){S:Int}(hS:S=110\/S=111\/S=112\/S=114\/S=115\/S=117\/S=118\/S=122)(w:j<n)(hd:D tk n m [1,S] i j\/D tk n m [40,119,41,S] i j):∃A al r b a,P tk n .base i (one A al) r/\D tk n b [a] r j/\b<m/\KG (tk r).k=U/\(a=110\/a=111\/a=112\/a=114\/a=115\/a=117\/a=118\/a=122)/\fam a=fam S:=by
 rcases hd with hd|hd
 ·obtain⟨f,q,z,o,K⟩:=hd.toks;obtain⟨c,u,s,v,d,p2,e,L,g,h,l⟩:=ano z (fun b G=>p b (by omega)) hS o w (tk i) (nd 26 (tk i) (tk i).t 0 0 (tk i).x []) .nil;exact⟨c,u,s,v,d,.bname f q p2,e,by omega,g,h,l⟩
 ·obtain⟨f,q,z,o,K⟩:=hd.toks;obtain⟨v,av,af,H,I,L⟩:=o.cut;obtain⟨E,y,an,J,ap⟩:=I.toks;obtain⟨C,am,ad⟩:=(p v (by omega)).expr H y;obtain⟨B,ak,F⟩:=af5 C am (tk i) (tk af).t;obtain⟨c,u,s,ao,d,p2,e,ar,g,h,l⟩:=ano an (fun b G=>p b (by omega)) hS J w (tk i) B ak;rw[<-F]at p2;exact⟨c,u,s,ao,d,.bopen f q ad E y p2,e,by omega,g,h,l⟩
theorem D.names:∀(m:Nat){k j:Nat},D tk n m [104] k j->j<n->∃e,Ib tk n k e j/\(tk j).k≠46:=by
 intro m
 induction m using Nat.strongRecOn with
 |_ m r=>
  intro k j c d;by_cases a:(tk k).k=46
  ·obtain⟨l,_,s,b,p⟩:=c.row (by omega) (x:=([46,1,104],M)) (by simp[xE,ah4,a]);obtain⟨_,_,w,g,u⟩:=b.toks;obtain⟨f,o,t,h,v⟩:=g.toks;obtain⟨e,q,i⟩:=r t (by omega) h d;exact⟨_,.go a o f q,i⟩
  ·obtain⟨l,_,s,b,p⟩:=c.row (by omega) (x:=([],M)) (by simp[xE,ah4,a]);obtain rfl:=b.nils;exact⟨[],.stop a d,a⟩
theorem params:∀(m:Nat){S:Int},S=126\/S=128->∀{k j:Nat},D tk n m [S,41] k j->j<n->∃t r,Prm tk n k t r j:=by
 intro m
 induction m using Nat.strongRecOn with
 |_ m C=>
  intro S hS k j w f;obtain⟨ad,F,E,c,l,K⟩:=w.cut;obtain⟨g,J,af,v,_⟩:=l.toks;obtain rfl:=v.nils;by_cases b:(tk k).k=1
  ·obtain⟨p,_,s,a,q⟩:=c.row (by omega) (x:=([1,127],M)) (by rcases hS with rfl|rfl<;>simp[xE,aes,aet,b]);obtain⟨_,_,G,d,z⟩:=a.toks;by_cases i:(tk (k+1)).k=46
   ·obtain⟨y,_,H,h,A⟩:=d.row (by omega) (x:=([46,128],M)) (by simp[xE,aie,i]);obtain⟨_,_,I,o,L⟩:=h.toks;obtain⟨t,r,B⟩:=C (I+F) (by omega) (.inr rfl) (k:=k+2) (j:=E+1) (D.join o l) f;exact⟨_,_,.go b i o.lt B⟩
   ·obtain⟨y,_,H,h,A⟩:=d.row (by omega) (x:=([],M)) (by simp[xE,aie,i]);obtain rfl:=h.nils;exact⟨_,_,.last b g f⟩
  ·by_cases e:(tk k).k=49
   ·obtain⟨p,_,s,a,q⟩:=c.row (by omega) (x:=([49],M)) (by rcases hS with rfl|rfl<;>simp[xE,aes,aet,e]);obtain⟨_,_,G,d,z⟩:=a.toks;obtain rfl:=d.nils;exact⟨_,_,.rest e g f⟩
   ·rcases hS with rfl|rfl
    ·obtain⟨p,_,s,a,q⟩:=c.row (by omega) (x:=([],M)) (by simp[xE,aes,b,e]);obtain rfl:=a.nils;exact⟨_,_,.close g f⟩
    ·obtain⟨_,u,_⟩:=c.row (by omega) (x:=([],U)) (by simp[xE,aet,b,e]);cases u
theorem af6(e:∀h,h<m->Ex tk n h)(d:D tk n m [125] i j)(g:j<n):∃R,P tk n .moreE i R j:=by
 by_cases a:(tk i).k=46
 ·obtain⟨f,_,r,b,p⟩:=d.row (by omega) (x:=([46,119,125],M)) (by simp[xE,aid,a]);obtain⟨_,_,A,k,v⟩:=b.toks;obtain⟨s,t,y,l,c,w⟩:=k.cut;obtain⟨u,z,q⟩:=(e s (by omega)).expr l c.lt;obtain⟨R,o⟩:=(e t (by omega)).moreE c g;exact⟨_,.ego a f q o⟩
 ·obtain⟨f,_,r,b,p⟩:=d.row (by omega) (x:=([],M)) (by simp[xE,aid,a]);obtain rfl:=b.nils;exact⟨_,.estop a g⟩
theorem af7(b:∀c,c<m->Ex tk n c)(g:D tk n m [124] i j)(h:j<n):∃R,P tk n .exprs i R j:=by
 obtain⟨q,_,v,d,r⟩:=g.row (by omega) (x:=([119,125],dK (tk i).k)) (by simp[xE,akK]);obtain⟨l,o,t,e,a,s⟩:=d.cut;obtain⟨p,u,k⟩:=(b l (by omega)).expr e a.lt;obtain⟨R,f⟩:=(b o (by omega)).moreE a h;exact⟨_,.es k f⟩
theorem JJ(o:∀b,b<m->Ex tk n b)(l:D tk n m [132] i j)(q:j<n):∃N ks,P tk n .block i (one N ks) j:=by
 obtain⟨p,k,z,c,u⟩:=l.row (by omega) (x:=([42,100,43],decide ((tk i).k=42))) (by simp[xE,aev]);obtain⟨_,_,A,d,v⟩:=c.toks;obtain⟨s,B,y,e,f,w⟩:=d.cut;obtain⟨a,r,C,g,_⟩:=f.toks;obtain rfl:=g.nils;obtain⟨t,h⟩:=(o s (by omega)).stats e r (.inl a);exact⟨_,_,.block (aH k) p h a q⟩
theorem ajf(k:∀b,b<m->Ex tk n b)(s:Tk)(h:D tk n m [133] i j)(o:j<n):∃N ks,P tk n (.body s) i (one N ks) j:=by
 obtain⟨l,g,y,c,t⟩:=h.row (by omega) (x:=([40,126,41,132],decide ((tk i).k=40))) (by simp[xE,aih]);obtain⟨_,_,z,d,u⟩:=c.toks;obtain⟨q,r,w,e,a,v⟩:=d.split [126,41] [132] rfl;obtain⟨N,ks,f⟩:=(k r (by omega)).block a o;obtain⟨A,B,p⟩:=params q (.inl rfl) e a.lt;exact⟨_,_,.body (aH g) l p f⟩
theorem ajg(q:∀i,(tk i).k<100)(l:∀f,f<m->Ex tk n f)(J:D tk n m [120] i j)(b:j<n):∃N ks,P tk n .unit i (one N ks) j:=by
 obtain⟨o,c,E,a,af⟩:=J.row (by omega) (x:=Is (tk i).k) (by simp[xE,am7]);unfold Is at c a;split at a
 ·rename_i h;obtain⟨_,_,e,d,p⟩:=a.toks (q i);obtain⟨N,ks,v⟩:=(l e (by omega)).unit d b;exact⟨_,_,.upre h o v⟩
 rename_i C;rw[aa C]at c;split at a
 ·rename_i h;obtain⟨N,ks,k,e,S,p2,r,p,s,t,u⟩:=JI (m:=E) (S:=122) (fun f h=>l f (by omega)) (by omega) b (.inl (by rw[h]at a;exact a));obtain rfl:S=122:=by rcases t with rfl|rfl|rfl|rfl|rfl|rfl|rfl|rfl<;>first|rfl|(revert u;decide)
  obtain⟨_,_,F,g,_⟩:=r.row (by omega) (x:=([],M)) (by simp[xE,aib,abH s]);obtain rfl:=g.nils;exact⟨N,ks,.ubas (.inl h) o p2⟩
 rename_i y;rw[aa y]at c;split at a
 ·rename_i h;obtain⟨N,ks,k,e,S,p2,r,p,s,t,u⟩:=JI (m:=E) (S:=122) (fun f h=>l f (by omega)) (by omega) b (.inr (by rw[h]at a;exact a));obtain rfl:S=122:=by rcases t with rfl|rfl|rfl|rfl|rfl|rfl|rfl|rfl<;>first|rfl|(revert u;decide)
  obtain⟨_,_,F,g,_⟩:=r.row (by omega) (x:=([],M)) (by simp[xE,aib,abH s]);obtain rfl:=g.nils;exact⟨N,ks,.ubas (.inr h) o p2⟩
 rename_i z;rw[aa z]at c;split at a
 ·rename_i h;obtain⟨_,_,e,d,p⟩:=a.toks (q i);obtain⟨L,al,k,G,H,ak⟩:=d.cut;obtain⟨w,K,F,g,_⟩:=H.toks;obtain rfl:=g.nils;obtain⟨ad,I⟩:=(l L (by omega)).entries G K w;exact⟨_,_,.utab h o I w b⟩
 rename_i A;rw[aa A]at c;split at a
 ·rename_i h;obtain⟨_,_,e,d,p⟩:=a.toks (q i);obtain⟨N,ks,v⟩:=(l e (by omega)).body (tk i) d b;exact⟨N,ks,.ufn h o v⟩
 rename_i B;rw[aa B]at c;obtain⟨_,_,e,d,p⟩:=a.toks (q i);obtain rfl:=d.nils;simp only[dK,C,A3,decide_eq_true_eq]at c;rcases c with h|h|h|h|h|h|h|h|h|h|h
 ·exact absurd h y
 ·exact⟨_,_,.uint h b⟩
 ·exact⟨_,_,.uflt h b⟩
 ·exact⟨_,_,.ustr h b⟩
 ·exact⟨_,_,.unil h b⟩
 ·exact⟨_,_,.utru h b⟩
 ·exact⟨_,_,.ufls h b⟩
 ·exact⟨_,_,.urst h b⟩
 ·exact absurd h B
 ·exact absurd h z
 ·exact absurd h A
theorem af8(f:∀r,r<m->Ex tk n r)(l:D tk n m [131] i j)(o:j<n):∃N ks,P tk n .entry i (one N ks) j:=by
 by_cases d:(tk i).k=48
 ·obtain⟨g,_,p,a,q⟩:=l.row (by omega) (x:=([48,1,47,119],M)) (by simp[xE,aeu,d]);obtain⟨_,_,I,h,F⟩:=a.toks;obtain⟨u,_,s,k,G⟩:=h.toks;obtain⟨v,C,t,c,L⟩:=k.toks;obtain⟨N,ks,b⟩:=(f t (by omega)).expr c o;exact⟨_,_,.named d u v C b⟩
 by_cases e:(tk i).k=44
 ·obtain⟨g,_,p,a,q⟩:=l.row (by omega) (x:=([44,119,45,47,119],M)) (by simp[xE,aeu,e]);obtain⟨_,_,I,h,F⟩:=a.toks;obtain⟨s,t,ak,k,c,G⟩:=h.cut;obtain⟨N,ks,b⟩:=(f s (by omega)).expr k c.lt;obtain⟨w,_,am,z,ad⟩:=c.toks;obtain⟨y,E,J,A,af⟩:=z.toks;obtain⟨K,al,H⟩:=(f J (by omega)).expr A o;exact⟨_,_,.pair e g b w y E H⟩
 ·obtain⟨g,B,p,a,q⟩:=l.row (by omega) (x:=([119],dK (tk i).k)) (by simp[xE,aeu,d,e]);obtain⟨N,ks,b⟩:=(f p (by omega)).expr a o;exact⟨_,_,.item d e (rA B).1 g b⟩
theorem aac(q:∀s,s<m->Ex tk n s)(p:D tk n m [129] i j)(h:j<n)(f:(tk j).k=43):∃R,P tk n .entries i R j:=by
 by_cases hb:dK (tk i).k=M\/(tk i).k=48\/(tk i).k=44
 ·obtain⟨g,_,z,b,w⟩:=p.row (by omega) (x:=([131,130],M)) (by rcases hb with hb|hb|hb<;>simp[xE,aif,hb]);have o:(tk i).k≠43:=by rcases hb with hb|hb|hb;exact(rA hb).2.2.1;omega;omega
  obtain⟨A,I,k,t,d,F⟩:=b.cut;obtain⟨E,H,r⟩:=(q A (by omega)).entry t d.lt;by_cases c:(tk k).k=46
  ·obtain⟨l,_,B,e,y⟩:=d.row (by omega) (x:=([46,129],M)) (by simp[xE,aig,c]);obtain⟨_,_,C,u,G⟩:=e.toks;obtain⟨R,v⟩:=(q C (by omega)).entries u h f;exact⟨_,.ncom o g r c l v⟩
  ·obtain⟨l,_,B,e,y⟩:=d.row (by omega) (x:=([],M)) (by simp[xE,aig,c]);obtain rfl:=e.nils;exact⟨_,.nlast o g r c l (.nstop f h)⟩
 ·have b:dK (tk i).k=U:=by cases a:dK (tk i).k with|false=>rfl|true=>exact absurd (.inl a) hb
  obtain⟨g,_,z,b,w⟩:=p.row (by omega) (x:=([],M)) (by simp only[xE,aif,b];rw[aa (by simp),aa (fun a=>hb (.inr (.inl a))),aa (fun a=>hb (.inr (.inr a)))];rfl);obtain rfl:=b.nils;exact⟨_,.nstop f h⟩
theorem alw(f:∀y,y<m->Ex tk n y){k g:Nat}{x b:Fo}(l:(tk i).k=20\/(tk i).k=15)(r:i<n)(s:P tk n (.expr 0) (i+1) x k)(o:P tk n .block k b g)(q:D tk n m [105] g j)(v:j<n):∃N ks,P tk n .branch i (one N ks) j:=by
 by_cases d:(tk g).k=15
 ·obtain⟨a,_,z,c,w⟩:=q.row (by omega) (x:=([15,119,132,105],M)) (by simp[xE,aen,d]);obtain⟨_,_,A,h,F⟩:=c.toks;obtain⟨J,ao,al,C,t,af⟩:=h.cut;obtain⟨N,ks,G⟩:=(f J (by omega)).expr C t.lt;obtain⟨K,L,am,E,u,ak⟩:=t.cut;obtain⟨B,I,p⟩:=(f K (by omega)).block E u.lt;obtain⟨ad,an,H⟩:=(f L (by omega)).els (.inr d) a G p u v;exact⟨_,_,.belif l r s o d a H⟩
 by_cases e:(tk g).k=16
 ·obtain⟨a,_,z,c,w⟩:=q.row (by omega) (x:=([16,132],M)) (by simp[xE,aen,e]);obtain⟨_,_,A,h,F⟩:=c.toks;obtain⟨B,I,p⟩:=(f A (by omega)).block h v;exact⟨_,_,.belse l r s o e a p⟩
 ·obtain⟨a,_,z,c,w⟩:=q.row (by omega) (x:=([],M)) (by simp[xE,aen,d,e]);obtain rfl:=c.nils;exact⟨_,_,.bno l r s o d e a⟩
theorem ajh:∀(m:Nat),(∀a,a<m->Ex tk n a)->∀{i j:Nat},D tk n m [113] i j->j<n->∃N ks R k o a,P tk n .base i (one N ks) k/\P tk n .moreB k R o/\(tk o).k=47/\o<n/\D tk n a [124] (o+1) j/\a<m:=by
 intro m
 induction m using Nat.strongRecOn with
 |_ m ak=>
  intro w i j d y;have K:∃b,b<m/\∃S:Int,(S=114\/S=115)/\(D tk n b [1,S] i j\/D tk n b [40,119,41,S] i j):=by
   by_cases u:(tk i).k=1
   ·obtain⟨L,_,b,e,l⟩:=d.row (by omega) (x:=([1,114],M)) (by simp[xE,aep,u]);exact⟨b,l,114,by omega,.inl e⟩
   ·by_cases v:(tk i).k=40
    ·obtain⟨L,_,b,e,l⟩:=d.row (by omega) (x:=([40,119,41,115],M)) (by simp[xE,aep,v]);exact⟨b,l,115,by omega,.inr e⟩
    ·obtain⟨_,c,_⟩:=d.row (by omega) (x:=([],U)) (by simp[xE,aep,u,v]);cases c
  obtain⟨b,l,s,J,e⟩:=K;obtain⟨N,ks,k,a2,S,p2,f,av,G,H,t⟩:=JI (m:=b) (S:=s) (fun a c=>w a (by omega)) (by omega) y e;have I:fam s=2:=by rcases J with rfl|rfl<;>rfl
  rw[I]at t;have z:(tk k).k≠48/\(tk k).k≠44/\(tk k).k≠40:=by have:=iz G;omega
  have hS:S=114\/S=115:=by rcases H with rfl|rfl|rfl|rfl|rfl|rfl|rfl|rfl<;>first|omega|(revert t;decide)
  rcases hS with rfl|rfl
  ·by_cases g:(tk k).k=46
   ·obtain⟨h,_,am,p,ad⟩:=f.row (by omega) (x:=([46,113],M)) (by simp[xE,aeq,g]);obtain⟨_,_,r,q,af⟩:=p.toks;obtain⟨ao,a1,ap,a0,al,an,A,B,C,E,F,ar⟩:=ak r (by omega) (fun a c=>w a (by omega)) q y;exact⟨N,ks,_,k,al,an,p2,.bgo g h A B,C,E,F,by omega⟩
   ·by_cases d:(tk k).k=47
    ·obtain⟨h,_,am,p,ad⟩:=f.row (by omega) (x:=([47,124],M)) (by simp[xE,aeq,d]);obtain⟨_,_,r,q,af⟩:=p.toks;exact⟨N,ks,.nil,k,k,r,p2,.bstop g h,d,h,q,by omega⟩
    ·obtain⟨_,c,_⟩:=f.row (by omega) (x:=([],U)) (by simp[xE,aeq,z,g,d]);cases c
  ·obtain⟨_,c,_⟩:=f.row (by omega) (x:=([],U)) (by simp[xE,akH,z]);cases c
theorem D.blk(h:D tk n m (132::r) i j):(tk i).k=42/\i<n:=by
 obtain⟨f,g,k,a,d,e⟩:=h.cut;obtain⟨c,b,_⟩:=a.row (by omega) (x:=([42,100,43],decide ((tk i).k=42))) (by simp[xE,aev]);exact⟨aH b,c⟩
theorem alx(a:∀K,K<m->Ex tk n K)(p:(tk i).k=19)(ap:D tk n m [19,1,106] i j)(E:j<n):∃N ks,P tk n .stat i (one N ks) j:=by
 obtain⟨_,_,bx,an,bf⟩:=ap.toks;obtain⟨l,bd,bD,B,bl⟩:=an.toks;by_cases e:(tk (i+2)).k=47
 ·obtain⟨t,_,a9,q,av⟩:=B.row (by omega) (x:=([47,119,46,119,107,132],M)) (by simp[xE,ah5,e]);obtain⟨_,_,L,r,a0⟩:=q.toks;obtain⟨ad,ba,k,b,c,bn⟩:=r.cut;obtain⟨al,a5,h⟩:=(a ad (by omega)).expr b c.lt;obtain⟨y,H,af,s,a1⟩:=c.toks;obtain⟨v,bE,J,d,C,br⟩:=s.cut;obtain⟨bb,bt,I⟩:=(a v (by omega)).expr d C.lt;obtain⟨bA,a6,bs,z,A,bh⟩:=C.cut;obtain⟨w,G⟩:=A.blk;obtain⟨ak,a4,f⟩:=(a a6 (by omega)).block A E;by_cases g:(tk J).k=46
  ·obtain⟨u,_,a7,o,ar⟩:=z.row (by omega) (x:=([46,119],M)) (by simp[xE,ah6,g]);obtain⟨_,_,a8,ao,bk⟩:=o.toks;obtain⟨bc,bw,a3⟩:=(a a8 (by omega)).expr ao G;exact⟨_,_,.tfor p (by omega) l (.stop (by omega) t) e (.es h (.ego y H I (.ego g u a3 (.estop (by omega) G)))) f⟩
  ·obtain⟨u,_,a7,o,ar⟩:=z.row (by omega) (x:=([],M)) (by simp[xE,ah6,g]);obtain rfl:=o.nils;exact⟨_,_,.tfor p (by omega) l (.stop (by omega) t) e (.es h (.ego y H I (.estop g u))) f⟩
 ·obtain⟨t,_,a9,q,av⟩:=B.row (by omega) (x:=([104,21,119,132],decide ((tk (i+2)).k=46\/(tk (i+2)).k=21))) (by simp[xE,ah5,e]);obtain⟨L,ad,k,r,b,a0⟩:=q.cut;obtain⟨bF,a2,_⟩:=D.names L r b.lt;obtain⟨am,_,ba,c,bo⟩:=b.toks;obtain⟨af,v,J,s,d,a1⟩:=c.cut;obtain⟨w,F⟩:=d.blk;obtain⟨al,a5,h⟩:=(a af (by omega)).expr s F;obtain⟨ak,a4,f⟩:=(a v (by omega)).block d E;exact⟨_,_,.teach p (by omega) l a2 am h w F f⟩
theorem abI(l:∀o,o<m->Ex tk n o){a:Int}(I:a=110\/a=112)(p:(tk i).k=1\/(tk i).k=40)(s:i<n)(d:D tk n m [1,a] i j\/D tk n m [40,119,41,a] i j)(e:j<n)(ak:(tk j).k=5\/(tk j).k=6\/(tk j).k=43):∃N ks,P tk n .stat i (one N ks) j:=by
 obtain⟨N,ks,k,ap,S,p2,b,al,G,H,v⟩:=JI (m:=m) (S:=a) l (by omega) e d;rw[show fam a=1 by rcases I with rfl|rfl<;>rfl]at v;have t:(tk k).k≠48/\(tk k).k≠44/\(tk k).k≠40:=by have:=iz G;omega
 have hS:S=110\/S=111\/S=112:=by rcases H with rfl|rfl|rfl|rfl|rfl|rfl|rfl|rfl<;>first|omega|(revert v;decide)
 rcases hS with rfl|rfl|rfl
 ·by_cases h:(tk k).k=46
  ·obtain⟨f,_,y,c,w⟩:=b.row (by omega) (x:=([46,113],M)) (by simp[xE,aeo,h]);obtain⟨_,_,u,q,J⟩:=c.toks;obtain⟨L,ao,ad,am,an,K,A,B,C,E,F,af⟩:=ajh u (fun o g=>l o (by omega)) q e;obtain⟨z,r⟩:=(l K (by omega)).exprs F e;exact⟨_,_,.tset p s p2 (.bgo h f A B) C E r⟩
  ·by_cases d:(tk k).k=47
   ·obtain⟨f,_,y,c,w⟩:=b.row (by omega) (x:=([47,124],M)) (by simp[xE,aeo,d]);obtain⟨_,_,u,q,J⟩:=c.toks;obtain⟨z,r⟩:=(l u (by omega)).exprs q e;exact⟨_,_,.tset p s p2 (.bstop h f) d f r⟩
   ·obtain⟨_,g,_⟩:=b.row (by omega) (x:=([],U)) (by simp[xE,aeo,t,h,d]);cases g
 ·obtain⟨f,_,y,c,w⟩:=b.row (by omega) (x:=([],M)) (by simp[xE,akF,t]);obtain rfl:=c.nils;exact⟨_,_,.tdo p s p2 (by omega) (by omega) e⟩
 ·obtain⟨_,g,_⟩:=b.row (by omega) (x:=([],U)) (by simp[xE,akG,t]);cases g
theorem abJ(f:∀G,G<m->Ex tk n G)(r:i<n)(E:(iB (tk i).k).2=M)(a:D tk n m (iB (tk i).k).1 i j)(g:j<n)(L:(tk j).k=5\/(tk j).k=6\/(tk j).k=43):(∃N ks,P tk n .stat i (one N ks) j)/\(tk i).k≠5/\(tk i).k≠6/\(tk i).k≠43:=by
 have ad:(tk i).k=22\/(tk i).k=13\/(tk i).k=18\/(tk i).k=20\/(tk i).k=31\/(tk i).k=19\/(tk i).k=11\/(tk i).k=23\/(tk i).k=27\/(tk i).k=30\/(tk i).k=28\/(tk i).k=14\/(tk i).k=42\/(tk i).k=1\/(tk i).k=40:=by
  refine Decidable.byContradiction fun a2=>?_;simp only[not_or]at a2;simp[iB,a2]at E
 refine⟨?_,by omega,by omega,by omega⟩;rcases ad with e|e|e|e|e|e|e|e|e|e|e|e|e|e|e
 ·rw[show(iB (tk i).k).1=[22,1,104,103] by rw[e];rfl]at a;obtain⟨_,_,o,b,p⟩:=a.toks;obtain⟨z,bw,d,c,s⟩:=b.toks;obtain⟨w,H,k,l,t,av⟩:=c.cut;obtain⟨b0,B,_⟩:=D.names w l t.lt;by_cases y:(tk k).k=47
  ·obtain⟨v,_,I,u,a1⟩:=t.row (by omega) (x:=([47,124],M)) (by simp[xE,ah3,y]);obtain⟨_,_,a4,C,bk⟩:=u.toks;obtain⟨a5,K⟩:=(f a4 (by omega)).exprs C g;exact⟨_,_,.tlet e (by omega) z B y K⟩
  ·obtain⟨v,_,I,u,a1⟩:=t.row (by omega) (x:=([],M)) (by simp[xE,ah3,y]);obtain rfl:=u.nils;exact⟨_,_,.tlet0 e (by omega) z B y⟩
 ·rw[show(iB (tk i).k).1=[13,1,47,119] by rw[e];rfl]at a;obtain⟨_,_,o,b,p⟩:=a.toks;obtain⟨z,_,d,c,s⟩:=b.toks;obtain⟨a7,af,w,l,av⟩:=c.toks;obtain⟨N,ks,h⟩:=(f w (by omega)).expr l g;exact⟨_,_,.tcon e z a7 af h⟩
 ·rw[show(iB (tk i).k).1=[18,1,133] by rw[e];rfl]at a;obtain⟨_,_,o,b,p⟩:=a.toks;obtain⟨z,_,d,c,s⟩:=b.toks;obtain⟨af,bf,_⟩:=c.row (by omega) (x:=([40,126,41,132],decide ((tk (i+2)).k=40))) (by simp[xE,aih]);obtain⟨N,ks,h⟩:=(f d (by omega)).body (tk (i+2)) c g;exact⟨_,_,.tfn e z (aH bf) af h⟩
 ·rw[show(iB (tk i).k).1=[20,119,132,105] by rw[e];rfl]at a;obtain⟨_,_,o,b,p⟩:=a.toks;obtain⟨d,w,k,c,l,s⟩:=b.cut;obtain⟨N,ks,h⟩:=(f d (by omega)).expr c l.lt;obtain⟨H,I,bo,t,u,a0⟩:=l.cut;obtain⟨ak,a3,q⟩:=(f H (by omega)).block t u.lt;obtain⟨bt,bD,bn⟩:=(f I (by omega)).els (.inl e) r h q u g;exact⟨_,_,.tif e r bn⟩
 ·rw[show(iB (tk i).k).1=[31,119,132] by rw[e];rfl]at a;obtain⟨_,_,o,b,p⟩:=a.toks;obtain⟨d,w,k,c,l,s⟩:=b.cut;obtain⟨N,ks,h⟩:=(f d (by omega)).expr c l.lt;obtain⟨ak,a3,q⟩:=(f w (by omega)).block l g;exact⟨_,_,.twhile e r h q⟩
 ·rw[show(iB (tk i).k).1=[19,1,106] by rw[e];rfl]at a;exact alx f e a g
 ·rw[show(iB (tk i).k).1=[11] by rw[e];rfl]at a;obtain⟨_,_,o,b,p⟩:=a.toks;obtain rfl:=b.nils;exact⟨_,_,.tbreak e g⟩
 ·rw[show(iB (tk i).k).1=[23] by rw[e];rfl]at a;obtain⟨_,_,o,b,p⟩:=a.toks;obtain rfl:=b.nils;exact⟨_,_,.tnext e g⟩
 ·rw[show(iB (tk i).k).1=[27,108] by rw[e];rfl]at a;obtain⟨_,_,o,b,p⟩:=a.toks;cases q:dK (tk (i+1)).k with
  |true=>
   obtain⟨v,_,d,c,s⟩:=b.row (by omega) (x:=([124],M)) (by simp[xE,ah7,q]);obtain⟨a5,K⟩:=(f d (by omega)).exprs c g;exact⟨_,_,.tret e v q K⟩
  |false=>
   obtain⟨v,_,d,c,s⟩:=b.row (by omega) (x:=([],M)) (by simp[xE,ah7,q]);obtain rfl:=c.nils;exact⟨_,_,.tret0 e v L⟩
 ·rw[show(iB (tk i).k).1=[30,132,12,1,109,132] by rw[e];rfl]at a;obtain⟨_,_,o,b,p⟩:=a.toks;obtain⟨d,w,k,c,l,s⟩:=b.cut;obtain⟨N,ks,h⟩:=(f d (by omega)).block c l.lt;obtain⟨am,_,H,t,a0⟩:=l.toks;obtain⟨an,ar,I,u,a1⟩:=t.toks;obtain⟨a4,br,bo,C,ao,bk⟩:=u.cut;obtain⟨a8,ap⟩:=ao.blk;obtain⟨ak,a3,q⟩:=(f br (by omega)).block ao g;by_cases F:(tk (k+2)).k=46
  ·obtain⟨v,_,bs,J,bl⟩:=C.row (by omega) (x:=([46,1],M)) (by simp[xE,ah8,F]);obtain⟨_,_,bF,bd,bA⟩:=J.toks;obtain⟨a6,bh,bE,bc,bx⟩:=bd.toks;obtain rfl:=bc.nils;exact⟨_,_,.ttry e r h am ar an (.go F bh a6 (.stop (fun A=>by have e:(tk (k+2+2)).k=42:=a8;omega) ap)) q⟩
  ·obtain⟨v,_,bs,J,bl⟩:=C.row (by omega) (x:=([],M)) (by simp[xE,ah8,F]);obtain rfl:=J.nils;exact⟨_,_,.ttry e r h am ar an (.stop F ap) q⟩
 ·rw[show(iB (tk i).k).1=[28,119] by rw[e];rfl]at a;obtain⟨_,_,o,b,p⟩:=a.toks;obtain⟨N,ks,h⟩:=(f o (by omega)).expr b g;exact⟨_,_,.tthrow e r h⟩
 ·rw[show(iB (tk i).k).1=[14,116] by rw[e];rfl]at a;obtain⟨_,_,o,b,p⟩:=a.toks;have ad:∃d,d<m/\(D tk n d [1,117] (i+1) j\/D tk n d [40,119,41,117] (i+1) j):=by
   by_cases y:(tk (i+1)).k=1
   ·obtain⟨_,_,d,c,s⟩:=b.row (by omega) (x:=([1,117],M)) (by simp[xE,aer,y]);exact⟨d,by omega,.inl c⟩
   ·by_cases E:(tk (i+1)).k=40
    ·obtain⟨_,_,d,c,s⟩:=b.row (by omega) (x:=([40,119,41,117],M)) (by simp[xE,aer,E]);exact⟨d,by omega,.inr c⟩
    ·obtain⟨_,A,_⟩:=b.row (by omega) (x:=([],U)) (by simp[xE,aer,y,E]);cases A
  obtain⟨d,s,c⟩:=ad;obtain⟨N,ks,k,w,S,p2,al,av,a9,ba,bb⟩:=JI (m:=d) (S:=117) (fun G A=>f G (by omega)) (by omega) g c;have B:(tk k).k≠48/\(tk k).k≠44/\(tk k).k≠40:=by have:=iz a9;omega
  have hS:S=117\/S=118:=by rcases ba with rfl|rfl|rfl|rfl|rfl|rfl|rfl|rfl<;>first|omega|(revert bb;decide)
  rcases hS with rfl|rfl
  ·obtain⟨_,A,_⟩:=al.row (by omega) (x:=([],U)) (by simp[xE,akI,B]);cases A
  ·obtain⟨v,_,H,t,a0⟩:=al.row (by omega) (x:=([],M)) (by simp[xE,akJ,B]);obtain rfl:=t.nils;exact⟨_,_,.tdefer e r p2⟩
 ·rw[show(iB (tk i).k).1=[132] by rw[e];rfl]at a;obtain⟨_,_,o,b,p⟩:=a.row (by omega) (x:=([42,100,43],decide ((tk i).k=42))) (by simp[xE,aev]);obtain⟨N,ks,h⟩:=JJ f a g;exact⟨N,ks,.tblock e r h⟩
 ·rw[show(iB (tk i).k).1=[1,110] by rw[e];rfl]at a;exact abI f (.inl rfl) (.inl e) r (.inl a) g L
 ·rw[show(iB (tk i).k).1=[40,119,41,112] by rw[e];rfl]at a;exact abI f (.inr rfl) (.inr e) r (.inr a) g L
theorem af9(g:∀b,b<m->Ex tk n b)(r:D tk n m [100] i j)(l:j<n)(h:(tk j).k=43\/(tk j).k=6):∃R,P tk n .stats i R j:=by
 by_cases e:(tk i).k=5
 ·obtain⟨a,_,z,c,y⟩:=r.row (by omega) (x:=([5,100],M)) (by simp[xE,acC,e]);obtain⟨_,_,A,d,F⟩:=c.toks;obtain⟨R,q⟩:=(g A (by omega)).stats d l h;exact⟨R,.ssep e a q⟩
 cases hb:(iB (tk i).k).2 with
 |false=>
  obtain⟨a,_,z,c,y⟩:=r.row (by omega) (x:=([],M)) (by simp[xE,acC,e,hb]);obtain rfl:=c.nils;exact⟨_,.sstop h l⟩
 |true=>
  obtain⟨a,_,z,c,y⟩:=r.row (by omega) (x:=((iB (tk i).k).1++[101],M)) (by simp[xE,acC,e,hb]);obtain⟨A,L,k,d,w,F⟩:=c.split _ _ rfl;by_cases f:(tk k).k=5
  ·obtain⟨o,_,I,p,G⟩:=w.row (by omega) (x:=([5,100],M)) (by simp[xE,ah2,f]);obtain⟨_,_,J,E,K⟩:=p.toks;obtain⟨R,q⟩:=(g J (by omega)).stats E l h;obtain⟨⟨B,H,s⟩,t,u,v⟩:=abJ (fun b C=>g b (by omega)) a hb d o (.inl f);exact⟨_,.sgo t u v a s (.ssep f o q)⟩
  ·obtain⟨o,_,I,p,G⟩:=w.row (by omega) (x:=([],M)) (by simp[xE,ah2,f]);obtain rfl:=p.nils;obtain⟨⟨B,H,s⟩,t,u,v⟩:=abJ (fun b C=>g b (by omega)) a hb d o (by omega);exact⟨_,.sgo t u v a s (.sstop h l)⟩
theorem aji(b:∀i,(tk i).k<100)(m:Nat):Ex tk n m:=by
 induction m using Nat.strongRecOn with
 |_ m a=>exact⟨ajg b a,ajd b a,af7 a,af6 a,JJ a,af9 a,fun c=>ajf a c,aac a,af8 a,alw a⟩
end
