import Derived.Test.YtkfgnpcanadjhaaGreatDoorHSk05
import Derived.Test.YtkfgnpcanadjhaaGreatDoorHSk06
set_option linter.all false
set_option maxRecDepth 100000
set_option maxHeartbeats 6400000
namespace Go.Proofs.YtkfgnpcanadjhaaGreatDoor
open Go.RowKit Go.Maps Go.WideMaps
theorem qo(s:ByteArray)(i:Nat)(c:Int)(d:0<c:=by omega):(lk s i==c)=decide (aG s i=c):=by
 unfold lk
 split
 ·by_cases a:aG s i=c<;>simp[a]
 ·rename_i a
  rw[eu a]
  have b:((0:Int)==c)=false:=by rw[cJ];omega
  rw[b]
  symm
  rw[oK]
  omega
def Ll(s:ByteArray)(p:Nat):Bool:=decide ((aG s (nA0 s p)=46/\cL (aG s (nA0 s p+1))=true)\/aG s (nA1 s (nA0 s p))=101)
def adG(s:ByteArray)(p E:Nat)(R:Option Nat):Value:=match R with
 |some a=> .agg #[.int .i64 2,.int .i64 p,.int .i64 (E:Int),.int .i64 0,.int .i64 (a:Int),.string ⟨#[]⟩]
 |none=> .agg #[.int .i64 3,.int .i64 p,.int .i64 (E:Int),.int .i64 0,.int .i64 0,.string (s.extract p E)]
def nmA(s:ByteArray)(p:Nat):Value:=
 if(mB s (nA1 s (nA0 s p))).2=true then
  (if Ll s p=true then .agg #[.int .i64 3,.int .i64 p,.int .i64 ((mB s (nA1 s (nA0 s p))).1:Int),.int .i64 0,.int .i64 0,.string (s.extract p (mB s (nA1 s (nA0 s p))).1)]
  else adG s p (mB s (nA1 s (nA0 s p))).1 (wm s p ((mB s (nA1 s (nA0 s p))).1-p)))
 else .agg #[.int .i64 3,.int .i64 p,.int .i64 0,.int .i64 0,.int .i64 0,.string ⟨#[]⟩]
def nmF(s:ByteArray)(p:Nat):Int:=if(mB s (nA1 s (nA0 s p))).2=true then -1 else((mB s (nA1 s (nA0 s p))).1:Int)
theorem Ec(s:ByteArray)(p j:Nat)(a:wm s p j=none):∀n,j<=n->wm s p n=none
 |0,b=>by
  obtain rfl:j=0:=by omega
  exact a
 |n+1,b=>by
  rcases iD b with rfl|h2
  ·exact a
  ·rw[wm,Ec s p j a n (by omega)]
theorem Ih(s:ByteArray)(p:Nat)(f:cL (aG s p)=true)(a:Ll s p=false):(mB s (nA1 s (nA0 s p)))=(nA0 s p,true)/\∀i,p<=i->i<nA0 s p->cL (aG s i)=true:=by
 unfold Ll at a
 rw[oK]at a
 have d:nA1 s (nA0 s p)=nA0 s p:=by unfold nA1;rw[aa (fun b=>a (.inl b))]
 rw[d]at a⊢
 have e:mB s (nA0 s p)=(nA0 s p,true):=by unfold mB;rw[aa (fun b=>a (.inr b))]
 refine⟨e,fun i g c=>?_⟩
 rcases iD g with rfl|h3
 ·exact f
 ·unfold nA0 at c
  split at c
  ·omega
  ·exact yh cL s _ (p+1) i h3 c
theorem agj(s:ByteArray)(a:Nat)(c:aG s a=101)(d:cL (aG s (nA2 s a))=false):mB s a=(nA2 s a,false):=by
 have b:sa s (nA2 s a)=nA2 s a:=by unfold sa ja;rw[aa (by rw[d];simp)]
 unfold mB
 rw[ab c,b]
 simp
theorem adH(s:ByteArray)(a:Nat)(f:a<s.size)(d:aG s a=101)(b:cL (aG s (nA2 s a))=true):mB s a=(sa s (nA2 s a),true):=by
 have g:=pi b
 have e:=ng cL ti s s.size (nA2 s a+1) (by omega)
 have c:sa s (nA2 s a)=ja cL s s.size (nA2 s a+1):=by
  show ja cL s (s.size+1) (nA2 s a)=_
  rw[ja,ab b]
 unfold mB
 rw[ab d,c]
 simp
 omega
theorem agk(s:ByteArray)(a:Nat)(b:aG s a=101):a<nA2 s a/\nA2 s a<=s.size:=by
 have c:=dp b
 unfold nA2
 split
 ·rename_i hs
  rcases hs with hs|hs
  ·have:=dp hs;omega
  ·have:=dp hs;omega
 ·omega
theorem ma(s:ByteArray)(k:Nat):cL (aG s k)=true\/cL (aG s k)=false:=by cases cL (aG s k)<;>simp
theorem Ch(s:ByteArray)(I:s.size<=1100000)(p:Nat)(eg:p<s.size)(cx:cL (aG s p)=true)(B:¬(aG s p=48/\aG s (p+1)=120))(w:World):Calls Tryz.prog 213 #[.string s,.agg #[.int .i64 0,.int .i64 p,.int .i64 0,.int .i64 0,.int .i64 0,.string ⟨#[]⟩]] w fun e u=>e= .returned (.tuple #[nmA s p,.int .i64 (nmF s p)])/\Below w.heap.size w u:=by
 obtain⟨eq,cp⟩:=aE (nmA s p)
 obtain⟨fg,cr⟩:=aE (nmF s p)
 rw[cp,cr]
 have k:=aj cp
 have o:=aj cr
 clear cp cr
 have cz:=fun w=>dE eg w
 go_in
 go_upto_region 3 with fail
 generalize dz:(w.alloc _).alloc _=b5
 obtain⟨a,c3,cq, -⟩:=Dy dz
 have cc:fy w.heap.size b5 2 p 0 0 0 ⟨#[]⟩:=a
 have cd:fy (w.heap.size+1) b5 0 0 0 0 0 ⟨#[]⟩:=c3
 clear dz a c3
 have e6:w.heap.size+1<b5.heap.size:=aw cd
 obtain⟨L,ad,af,ak,al,am,an⟩:=cE cc
 go_cut [22] from 9 (fun fb r=>fb= .bool false/\r=b5)
 case first=>
  by_cases z:aG s p=48
  ·rw[z]at cz
   have eb:¬aG s (p+1)=120:=fun h=>B ⟨z,h⟩
   have ex:(lk s (p+1)==120)=false:=by rw[qo _ _ _];simpa using eb
   have f:∀w,Calls Tryz.prog 223 #[.string s,.int .i64 ((p:Int)+1)] w fun e u=>e= .returned (.int .u8 (lk s (p+1)))/\u=w:=fun w=>fs s I _ (p+1) (by omega) w
   generalize lk s (p+1)=n at f ex
   clear z eb B cx k o
   go_wp2_with (go_at_call 223;refine dj (f _) ?_)
   go_meet
   case rel=>exact⟨rfl,rfl⟩
  ·have b9:(aG s p==48)=false:=by rw[cJ];exact z
   generalize aG s p=n at cz b9
   clear z B k o
   go_wp2_with fail
   go_meet
   case rel=>exact⟨rfl,rfl⟩
 case rest=>
  obtain⟨rfl,rfl⟩:=hcut
  go_upto_if 34 with fail
  go_cut [6] from 9 (fun a9 r=>a9= .int .i64 (nA0 s p:Int)/\r=wc)
  case first=>
   by_cases z:aG s p=48
   ·have eF:Hid (nA0 s p=p+1):=by show _=_;unfold nA0;rw[ab z]
    rw[z]
    clear z B k o
    go_wp2_with fail
    go_meet
    case rel=>exact⟨by rw[eF.out];go_num,rfl⟩
   ·have E:Hid (ja cL s (s.size+1) (p+1)=nA0 s p):=by show _=_;unfold nA0;rw[aa z];rfl
    have b9:(aG s p !=48)=true:=by rw[lq];exact z
    rw[b9]
    obtain⟨g,t⟩:=aE (nA0 s p)
    rw[t]at E
    have A:=aj t
    clear z B k o b9 t
    go_wp2_with fail
    go_loop [6] (fun i=>∃(b l:Nat),b<=s.size/\s.size<b+l/\i= .int .i64 b/\Hid (ja cL s l b=g)) (fun i=>s.size-(intOf i).toNat)
    case atStart=>exact⟨p+1,s.size+1,by omega,by omega,by first|rfl|(congr 1;omega),E⟩
    case round=>
     obtain⟨b,l,d7,d5,rfl,bo⟩:=hrel
     obtain⟨l,rfl⟩:∃bs,l=bs+1:=⟨l-1,by omega⟩
     have d:=bo.out
     unfold ja at d
     have f:=fun w=>fs s I (b:Int) b rfl w
     rcases ma s b with h1|h1
     ·have ea:b<s.size:=pi h1
      have c:=fun w=>di ((lJ s b).trans h1) w
      rw[ab h1]at d
      have m:=aj d
      generalize lk s b=n at f c
      clear d h1
      go_wp2_with (first|(go_at_call 223;refine dj (f _) ?_)|(go_at_call 178;refine dj (c _) ?_))
      go_round
      case rel=>exact⟨b+1,l,by omega,by omega,by go_num,m⟩
      case measure=>simp[intOf];omega
     ·have c:=fun w=>di ((lJ s b).trans h1) w
      rw[aa (by rw[h1];simp)]at d
      have m:=aj d
      generalize lk s b=n at f c
      clear d h1
      go_wp2_with (first|(go_at_call 223;refine dj (f _) ?_)|(go_at_call 178;refine dj (c _) ?_))
      go_meet
      case rel=>exact⟨by rw[A.out,<-m.out],rfl⟩
  case rest=>
   obtain⟨rfl,rfl⟩:=hcut
   have cn:=aau s p eg
   go_upto_region 9 with fail
   obtain⟨D,dg⟩:∃D:Bool,decide (aG s (nA0 s p)=46/\cL (aG s (nA0 s p+1))=true)=D:=⟨_,rfl⟩
   have x:=aj dg
   clear dg
   go_cut [51] from 9 (fun fc r=>fc= .bool D/\r=wc)
   case first=>
    have f:=fun w=>fs s I (nA0 s p:Int) (nA0 s p) rfl w
    have C:∀w,Calls Tryz.prog 223 #[.string s,.int .i64 ((nA0 s p:Int)+1)] w fun e u=>e= .returned (.int .u8 (lk s (nA0 s p+1)))/\u=w:=fun w=>fs s I _ (nA0 s p+1) (by omega) w
    have bt:=qo s (nA0 s p) 46
    by_cases a5:aG s (nA0 s p)=46
    ·rw[bB a5]at bt
     have a6:=x.out
     rcases ma s (nA0 s p+1) with h1|h1
     ·have c:=fun w=>di ((lJ s (nA0 s p+1)).trans h1) w
      rw[bB ⟨a5,h1⟩]at a6
      subst a6
      generalize lk s (nA0 s p+1)=et at C c
      generalize lk s (nA0 s p)=n at f bt
      clear a5 h1 x k o
      go_wp2_with (first|(go_at_call 223;first|(with_reducible refine dj (f _) ?_)|(with_reducible refine dj (C _) ?_))|(go_at_call 178;refine dj (c _) ?_))
      go_meet
      case rel=>exact⟨rfl,rfl⟩
     ·have c:=fun w=>di ((lJ s (nA0 s p+1)).trans h1) w
      rw[az (fun h=>by rw[h.2]at h1;cases h1)]at a6
      subst a6
      generalize lk s (nA0 s p+1)=et at C c
      generalize lk s (nA0 s p)=n at f bt
      clear a5 h1 x k o
      go_wp2_with (first|(go_at_call 223;first|(with_reducible refine dj (f _) ?_)|(with_reducible refine dj (C _) ?_))|(go_at_call 178;refine dj (c _) ?_))
      go_meet
      case rel=>exact⟨rfl,rfl⟩
    ·rw[az a5]at bt
     have a6:=x.out
     rw[az (fun h=>a5 h.1)]at a6
     subst a6
     generalize lk s (nA0 s p)=n at f bt
     clear a5 x k o
     go_wp2_with (first|(go_at_call 223;refine dj (f _) ?_))
     go_meet
     case rel=>exact⟨rfl,rfl⟩
   case rest=>
    obtain⟨rfl,rfl⟩:=hcut
    go_upto_if 51 with fail
    go_cut [6] from 9 (fun a9 r=>a9= .int .i64 (nA1 s (nA0 s p):Int)/\fy w.heap.size r (if D=true then 3 else 2) p 0 0 0 ⟨#[]⟩/\fy (w.heap.size+1) r 0 0 0 0 0 ⟨#[]⟩/\Below w.heap.size w r)
    case first=>
     cases D with
     |true=>
      have bl:=bi x.out
      have E:Hid (ja cL s (s.size+1) (nA0 s p+1)=nA1 s (nA0 s p)):=by show _=_;unfold nA1;rw[ab bl];rfl
      have e3:=pi bl.2
      obtain⟨g,t⟩:=aE (nA1 s (nA0 s p))
      rw[t]at E
      have A:=aj t
      generalize nA0 s p=el at E e3 cn⊢
      clear bl x k o B t
      have F:=cc.setKind 3
      have G:=cd.other (a:=⟨w.heap.size,0,none⟩) (by simp) (.int .i64 3)
      have J:Below w.heap.size w (wc.setCell ⟨w.heap.size,0,none⟩ (.int .i64 3)):=cq.setCell (by simp) _
      go_wp2_with fail
      go_loop [6] (fun i=>∃(b l:Nat),b<=s.size/\s.size<b+l/\i= .int .i64 b/\Hid (ja cL s l b=g)) (fun i=>s.size-(intOf i).toNat)
      case atStart=>exact⟨el+1,s.size+1,by omega,by omega,by first|rfl|(congr 1;omega),E⟩
      case round=>
       obtain⟨b,l,d7,d5,rfl,bo⟩:=hrel
       obtain⟨l,rfl⟩:∃bs,l=bs+1:=⟨l-1,by omega⟩
       have d:=bo.out
       unfold ja at d
       have f:=fun w=>fs s I (b:Int) b rfl w
       rcases ma s b with h1|h1
       ·have ea:b<s.size:=pi h1
        have c:=fun w=>di ((lJ s b).trans h1) w
        rw[ab h1]at d
        have m:=aj d
        generalize lk s b=n at f c
        clear d h1
        go_wp2_with (first|(go_at_call 223;refine dj (f _) ?_)|(go_at_call 178;refine dj (c _) ?_))
        go_round
        case rel=>exact⟨b+1,l,by omega,by omega,by go_num,m⟩
        case measure=>simp[intOf];omega
       ·have c:=fun w=>di ((lJ s b).trans h1) w
        rw[aa (by rw[h1];simp)]at d
        have m:=aj d
        generalize lk s b=n at f c
        clear d h1
        go_wp2_with (first|(go_at_call 223;refine dj (f _) ?_)|(go_at_call 178;refine dj (c _) ?_))
        go_meet
        case rel=>exact⟨by rw[A.out,<-m.out],F,G,J⟩
     |false=>
      have bl:=iA x.out
      have t:nA1 s (nA0 s p)=nA0 s p:=by unfold nA1;rw[aa bl]
      have A:=aj t
      clear bl x k o B t
      go_wp2_with fail
      go_meet
      case rel=>exact⟨by rw[A.out],cc,cd,cq⟩
    case rest=>
     obtain⟨rfl,a7,bk,ca⟩:=hcut
     clear cc cd cq L ad af ak al am an e6
     have c5:=aav s _ cn.2
     have f:=fun w=>fs s I (nA1 s (nA0 s p):Int) (nA1 s (nA0 s p)) rfl w
     have c7:=qo s (nA1 s (nA0 s p)) 101
     obtain⟨a4,cv⟩:∃a4:Bool,decide (aG s (nA1 s (nA0 s p))=101)=a4:=⟨_,rfl⟩
     have ba:=aj cv
     rw[cv]at c7
     clear cv
     obtain⟨L,ad,af,ak,al,am,an⟩:=cE a7
     obtain⟨z0,ao,ap,ar,av,a0,ck⟩:=cE bk
     have bn:w.heap.size<wc.heap.size:=aw a7
     have cg:w.heap.size+1<wc.heap.size:=aw bk
     go_upto_if 64 with(go_at_call 223;refine(f _).mono ?_;rintro e u ⟨rfl,y⟩;obtain rfl:=y.symm)
     clear f c7
     go_cut [6] from 9 (fun a9 r=>a9= .int .i64 ((mB s (nA1 s (nA0 s p))).1:Int)/\(mB s (nA1 s (nA0 s p))).2=true/\fy w.heap.size r (if(D||a4)=true then 3 else 2) p 0 0 0 ⟨#[]⟩/\fy (w.heap.size+1) r 0 0 0 0 0 ⟨#[]⟩/\Below w.heap.size w r)
     case first=>
      cases a4 with
      |false=>
       have K:=iA ba.out
       have A:Hid (mB s (nA1 s (nA0 s p))=(nA1 s (nA0 s p),true)):=by show _=_;unfold mB;rw[aa K]
       rw[<-Bz D]at a7
       clear K ba k o x B
       go_wp2_with fail
       go_meet
       case rel=>exact⟨by rw[A.out],by rw[A.out],a7,bk,ca⟩
      |true=>
       have K:=bi ba.out
       have bx:=agj s (nA1 s (nA0 s p)) K
       have bD:=adH s (nA1 s (nA0 s p)) (dp K) K
       have c4:=agk s (nA1 s (nA0 s p)) K
       have C:∀w,Calls Tryz.prog 223 #[.string s,.int .i64 ((nA1 s (nA0 s p):Int)+1)] w fun e u=>e= .returned (.int .u8 (lk s (nA1 s (nA0 s p)+1)))/\u=w:=fun w=>fs s I _ (nA1 s (nA0 s p)+1) (by omega) w
       have b7:=qo s (nA1 s (nA0 s p)+1) 43
       have b8:=qo s (nA1 s (nA0 s p)+1) 45
       have bc:Hid (nA2 s (nA1 s (nA0 s p))=if decide (aG s (nA1 s (nA0 s p)+1)=43)=true\/decide (aG s (nA1 s (nA0 s p)+1)=45)=true then nA1 s (nA0 s p)+1+1 else nA1 s (nA0 s p)+1):=by show _=_;unfold nA2;simp
       generalize decide (aG s (nA1 s (nA0 s p)+1)=43)=cm at b7 bc
       generalize decide (aG s (nA1 s (nA0 s p)+1)=45)=b3 at b8 bc
       have F:=a7.setKind 3
       have G:=bk.other (a:=⟨w.heap.size,0,none⟩) (by simp) (.int .i64 3)
       have J:Below w.heap.size w (wc.setCell ⟨w.heap.size,0,none⟩ (.int .i64 3)):=ca.setCell (by simp) _
       obtain⟨b6,cu⟩:=aE (wc.setCell ⟨w.heap.size,0,none⟩ (.int .i64 3))
       rw[cu]at F G J
       have c0:=aj cu
       clear K ba x B cu
       go_upto_region 17 with fail
       rw[c0.out]
       clear c0 a7 bk ca L ad af ak al am an z0 ao ap ar av a0 ck bn cg
       obtain⟨L,ad,af,ak,al,am,an⟩:=cE F
       obtain⟨z0,ao,ap,ar,av,a0,ck⟩:=cE G
       have bn:w.heap.size<b6.heap.size:=aw F
       have cg:w.heap.size+1<b6.heap.size:=aw G
       go_cut [77] from 9 (fun ff r=>ff= .bool (b3||cm)/\r=b6)
       case first=>
        generalize lk s (nA1 s (nA0 s p)+1)=n at C b7 b8
        clear k o bx bD bc
        cases b3 with
        |true=>
         go_wp2_with (first|(go_at_call 223;refine(C _).mono ?_;rintro e u ⟨rfl,y⟩;obtain rfl:=y.symm))
         go_meet
         case rel=>exact⟨rfl,rfl⟩
        |false=>
         go_wp2_with (first|(go_at_call 223;refine(C _).mono ?_;rintro e u ⟨rfl,y⟩;obtain rfl:=y.symm))
         go_meet
         case rel=>exact⟨rfl,rfl⟩
       case rest=>
        obtain⟨rfl,bF⟩:=hcut
        obtain rfl:=bF.symm
        clear bF
        go_upto_if 77 with fail
        go_cut [6] from 9 (fun a9 r=>a9= .int .i64 (nA2 s (nA1 s (nA0 s p)):Int)/\r=b6)
        case first=>
         clear k o bx bD b7 b8 C
         obtain⟨b4,cs⟩:∃b4:Bool,(b3||cm)=b4:=⟨_,rfl⟩
         have c9:Hid (nA2 s (nA1 s (nA0 s p))=if b4=true then nA1 s (nA0 s p)+1+1 else nA1 s (nA0 s p)+1):=by show _=_;rw[bc.out,<-cs];cases b3<;>cases cm<;>simp
         rw[cs]
         clear cs bc
         cases b4 with
         |true=>
          go_wp2_with fail
          go_meet
          case rel=>exact⟨by rw[c9.out];simp only[qH];go_num,rfl⟩
         |false=>
          go_wp2_with fail
          go_meet
          case rel=>exact⟨by rw[c9.out];simp,rfl⟩
        case rest=>
         obtain⟨rfl,bF⟩:=hcut
         obtain rfl:=bF.symm
         clear bF bc b7 b8 C
         have a8:=fun w=>fs s I (nA2 s (nA1 s (nA0 s p)):Int) (nA2 s (nA1 s (nA0 s p))) rfl w
         rcases ma s (nA2 s (nA1 s (nA0 s p))) with h1|h1
         ·have c:=fun w=>di ((lJ s (nA2 s (nA1 s (nA0 s p)))).trans h1) w
          have cB:Hid (mB s (nA1 s (nA0 s p))=(sa s (nA2 s (nA1 s (nA0 s p))),true)):=bD h1
          obtain⟨g,t⟩:=aE (sa s (nA2 s (nA1 s (nA0 s p))))
          have E:=aj t
          have A:=aj t
          generalize lk s (nA2 s (nA1 s (nA0 s p)))=ev at a8 c
          generalize nA2 s (nA1 s (nA0 s p))=em at E c4 a8⊢
          clear bx bD t h1 k o
          go_wp2_with (first|(go_at_call 223;refine(a8 _).mono ?_;rintro e u ⟨rfl,y⟩;obtain rfl:=y.symm)|(go_at_call 178;refine(c _).mono ?_;rintro e u ⟨rfl,y⟩;obtain rfl:=y.symm))
          clear a8 c
          go_loop [6] (fun i=>∃(b l:Nat),b<=s.size/\s.size<b+l/\i= .int .i64 b/\Hid (ja cL s l b=g)) (fun i=>s.size-(intOf i).toNat)
          case atStart=>exact⟨em,s.size+1,by omega,by omega,by first|rfl|(congr 1;omega),E⟩
          case round=>
           obtain⟨b,l,d7,d5,rfl,bo⟩:=hrel
           obtain⟨l,rfl⟩:∃bs,l=bs+1:=⟨l-1,by omega⟩
           have d:=bo.out
           unfold ja at d
           have f:=fun w=>fs s I (b:Int) b rfl w
           rcases ma s b with h1|h1
           ·have ea:b<s.size:=pi h1
            have c:=fun w=>di ((lJ s b).trans h1) w
            rw[ab h1]at d
            have m:=aj d
            generalize lk s b=n at f c
            clear d h1
            go_wp2_with (first|(go_at_call 223;refine dj (f _) ?_)|(go_at_call 178;refine dj (c _) ?_))
            go_round
            case rel=>exact⟨b+1,l,by omega,by omega,by go_num,m⟩
            case measure=>simp[intOf];omega
           ·have c:=fun w=>di ((lJ s b).trans h1) w
            rw[aa (by rw[h1];simp)]at d
            have m:=aj d
            generalize lk s b=n at f c
            clear d h1
            go_wp2_with (first|(go_at_call 223;refine dj (f _) ?_)|(go_at_call 178;refine dj (c _) ?_))
            go_meet
            case rel=>exact⟨by rw[cB.out,A.out,<-m.out],by rw[cB.out],by simpa using F,G,J⟩
         ·have c:=fun w=>di ((lJ s (nA2 s (nA1 s (nA0 s p)))).trans h1) w
          have d3:=bx h1
          have j:=k.out
          have H:=o.out
          unfold nmA at j
          unfold nmF at H
          rw[d3]at j H
          simp only[aa (show ¬false=true by simp)]at j H
          subst j
          obtain⟨cl,dk⟩:∃cl:Int,(nA2 s (nA1 s (nA0 s p)):Int)=cl:=⟨_,rfl⟩
          rw[dk]at H a8⊢
          subst H
          generalize lk s (nA2 s (nA1 s (nA0 s p)))=ev at a8 c
          clear d3 h1 bx bD k o c4 dk
          go_wp2_with (first|(go_at_call 223;refine(a8 _).mono ?_;rintro e u ⟨rfl,y⟩;obtain rfl:=y.symm)|(go_at_call 178;refine(c _).mono ?_;rintro e u ⟨rfl,y⟩;obtain rfl:=y.symm))
          refine aH (v:= .tuple #[.agg #[.int .i64 3,.int .i64 p,.int .i64 0,.int .i64 0,.int .i64 0,.string ⟨#[]⟩],.int .i64 cl]) (by simp[results,Tryz.results213,go_sem,z0,ao,ap,ar,av,a0]) rfl ⟨rfl,?_⟩
          iterate 6 refine eL ?_ (by simp) _
          exact J
     case rest=>
      obtain⟨rfl,ed,bf,d0,dd⟩:=hcut
      have c6:=aat s _ c5.2
      have dn:Ll s p=(D||a4):=by unfold Ll;rw[<-x.out,<-ba.out];simp
      have cw:=Ih s p cx
      have j:=k.out
      have H:=o.out
      unfold nmA at j
      unfold nmF at H
      rw[ab ed]at j H
      subst H
      rw[dn]at j cw
      have e4:p<(mB s (nA1 s (nA0 s p))).1:=by omega
      have e2:(mB s (nA1 s (nA0 s p))).1<=s.size:=c6.2
      have ce:(D||a4)=false->∀i,p<=i->i<(mB s (nA1 s (nA0 s p))).1->cL (aG s i)=true:=fun h i h1 c8=>by
       have d6:=cw h
       exact d6.2 i h1 (by rw[d6.1]at c8;exact c8)
      clear cw dn x ba k o ed c6 c5 cn B cz cx
      generalize (D||a4)=a3 at bf j ce
      generalize (mB s (nA1 s (nA0 s p))).1=g at e4 e2 j ce⊢
      clear a7 bk ca L ad af ak al am an z0 ao ap ar av a0 ck bn cg
      obtain⟨bb,ct⟩:=aE (wm s p (g-p))
      rw[ct]at j
      have br:=aj ct
      have k:=aj j
      have b1:=aj ce
      clear j ce ct
      obtain⟨b0,cf⟩:∃b0:Int,(if a3=true then(3:Int) else 2)=b0:=⟨_,rfl⟩
      rw[cf]at bf
      have cI:Hid ((b0=2/\a3=false/\(0:Int)<=0/\wm s p (p-p)=some (0:Int).toNat)\/(b0=3/\(a3=true\/bb=none))):=by
       cases a3 with
       |true=>exact .inr ⟨cf.symm,.inl rfl⟩
       |false=>exact .inl ⟨cf.symm,rfl,by omega,by rw[fw];rfl⟩
      clear cf
      obtain⟨L,ad,af,ak,al,am,an⟩:=cE bf
      have bn:w.heap.size<wc.heap.size:=aw bf
      have F:=bf.setTo (g:Int)
      have G:=d0.other (a:=⟨w.heap.size,2,none⟩) (by simp) (.int .i64 (g:Int))
      have J:Below w.heap.size w (wc.setCell ⟨w.heap.size,2,none⟩ (.int .i64 (g:Int))):=dd.setCell (by simp) _
      go_wp2_with fail
      go_loopw [7,8] (fun e8 i wr=>∃(b:Nat) (c a:Int),p<=b/\b<=g/\i= .int .i64 b/\e8= .int .u64 a/\fy w.heap.size wr c p (g:Int) 0 0 ⟨#[]⟩/\fy (w.heap.size+1) wr 0 0 0 0 0 ⟨#[]⟩/\Below w.heap.size w wr/\Hid ((c=2/\a3=false/\0<=a/\wm s p (b-p)=some a.toNat)\/(c=3/\(a3=true\/bb=none)))) (fun _ i _=>g-(intOf i).toNat)
      case atStart=>exact⟨p,b0,0,ah _,by omega,rfl,rfl,F,G,J,cI⟩
      case round=>
       obtain⟨b,c,a,e5,fn,rfl,rfl,bv,bw,bd,d⟩:=hrel
       clear F G J bf d0 dd L ad af ak al am an bn cI
       obtain⟨L,ad,af,ak,al,am,an⟩:=cE bv
       obtain⟨z0,ao,ap,ar,av,a0,ck⟩:=cE bw
       have bn:w.heap.size<wr.heap.size:=aw bv
       have cg:w.heap.size+1<wr.heap.size:=aw bw
       rcases d.out with⟨rfl,cb,fk,bA⟩|⟨rfl,ef⟩
       ·have d2:=aap s p _ _ bA
        by_cases d8:b<g
        ·have d4:=b1.out cb b e5 d8
         have e1:=lD d4
         have e7:=fun w=>dE (s:=s) (i:=b) (by omega) w
         have cy:wm s p (b+1-p)=if a.toNat*10+(aG s b-48).toNat<=9223372036854775807 then some (a.toNat*10+(aG s b-48).toNat) else none:=by
          rw[show b+1-p=(b-p)+1 by omega,wm,bA,show p+(b-p)=b by omega]
         have es:a<=9223372036854775807:=by omega
         have ec:wm s p (b+1-p)=none->bb=none:=fun h=>by rw[<-br.out];exact Ec s p _ h _ (by omega)
         have m:Hid ((¬a*10+(aG s b-48)<=9223372036854775807->bb=none)/\(a*10+(aG s b-48)<=9223372036854775807->wm s p (b+1-p)=some (a*10+(aG s b-48)).toNat)):=by
          refine⟨fun h=>ec (by rw[cy,aa (by omega)]),fun h=>?_⟩
          rw[cy,ab (by omega)]
          congr 1
          omega
         generalize aG s b=n at e7 e1 m
         clear d4 cy ec bA d b1 br k d2
         have ds:=bv.setKind 3
         have d1:=bw.other (a:=⟨w.heap.size,0,none⟩) (by simp) (.int .i64 3)
         have df:Below w.heap.size w (wr.setCell ⟨w.heap.size,0,none⟩ (.int .i64 3)):=bd.setCell (by simp) _
         have d9:(b:Int)<(g:Int):=by omega
         rcases(show 922337203685477580<a\/(a=922337203685477580/\55<n)\/(a=922337203685477580/\¬55<n)\/a<922337203685477580 by omega) with q|⟨q,e9⟩|⟨q,e9⟩|q
         ·have a2:Hid (bb=none):=m.1 (by omega)
          clear m
          go_wp2
          go_roundw
          case rel=>exact⟨b+1,3,_,by omega,by omega,by go_num,rfl,ds,d1,df,.inr ⟨rfl,.inr a2⟩⟩
          case measure=>simp[intOf];omega
         ·have a2:Hid (bb=none):=m.1 (by omega)
          have ei:(a==922337203685477580)=true:=by rw[ib];exact q
          have eh:¬922337203685477580<a:=by omega
          clear m q
          go_wp2
          go_roundw
          case rel=>exact⟨b+1,3,_,by omega,by omega,by go_num,rfl,ds,d1,df,.inr ⟨rfl,.inr a2⟩⟩
          case measure=>simp[intOf];omega
         ·have a2:Hid (wm s p (b+1-p)=some (a*10+(n-48)).toNat):=m.2 (by omega)
          have ei:(a==922337203685477580)=true:=by rw[ib];exact q
          have eh:¬922337203685477580<a:=by omega
          have fa:a*10+(n-48)<=9223372036854775807:=by omega
          clear m q
          go_wp2
          go_roundw
          case rel=>exact⟨b+1,2,a*10+(n-48),by omega,by omega,by go_num,by first|rfl|(congr 1;omega),bv,bw,bd,.inl ⟨rfl,cb,by omega,a2⟩⟩
          case measure=>simp[intOf];omega
         ·have a2:Hid (wm s p (b+1-p)=some (a*10+(n-48)).toNat):=m.2 (by omega)
          have ei:(a==922337203685477580)=false:=by rw[cJ];omega
          have eh:¬922337203685477580<a:=by omega
          have fa:a*10+(n-48)<=9223372036854775807:=by omega
          clear m
          go_wp2
          go_roundw
          case rel=>exact⟨b+1,2,a*10+(n-48),by omega,by omega,by go_num,by first|rfl|(congr 1;omega),bv,bw,bd,.inl ⟨rfl,cb,by omega,a2⟩⟩
          case measure=>simp[intOf];omega
        ·obtain rfl:b=g:=by omega
         have j:=k.out
         rw[cb,<-br.out,bA]at j
         simp only[aa (show ¬false=true by simp),adG]at j
         rw[show((a.toNat:Nat):Int)=a by omega]at j
         subst j
         have fo:wrap64 a=a:=by unfold wrap64;omega
         have es:a<=9223372036854775807:=by omega
         clear k br b1 d bA d2
         go_wp2
         refine aH (v:= .tuple #[.agg #[.int .i64 2,.int .i64 p,.int .i64 (b:Int),.int .i64 0,.int .i64 a,.string ⟨#[]⟩],.int .i64 (-1)]) (by simp[results,Tryz.results213,go_sem,z0,ao,ap,ar,av,a0]) rfl ⟨rfl,?_⟩
         iterate 7 refine eL ?_ (by simp) _
         exact bd
       ·have j:=k.out
        have e0:Value.agg #[.int .i64 3,.int .i64 p,.int .i64 (g:Int),.int .i64 0,.int .i64 0,.string (s.extract p g)]=eq:=by
         rcases ef with h|h
         ·rw[h]at j;exact j
         ·rw[h]at j;cases a3<;>exact j
        subst e0
        clear j k br b1 d ef
        by_cases d8:b<g
        ·have d9:(b:Int)<(g:Int):=by omega
         go_wp2
         refine aH (v:= .tuple #[.agg #[.int .i64 3,.int .i64 p,.int .i64 (g:Int),.int .i64 0,.int .i64 0,.string (s.extract p g)],.int .i64 (-1)]) (by simp[results,Tryz.results213,go_sem,z0,ao,ap,ar,av,a0]) rfl ⟨rfl,?_⟩
         iterate 7 refine eL ?_ (by simp) _
         exact bd
        ·have d9:¬(b:Int)<(g:Int):=by omega
         go_wp2
         refine aH (v:= .tuple #[.agg #[.int .i64 3,.int .i64 p,.int .i64 (g:Int),.int .i64 0,.int .i64 0,.string (s.extract p g)],.int .i64 (-1)]) (by simp[results,Tryz.results213,go_sem,z0,ao,ap,ar,av,a0]) rfl ⟨rfl,?_⟩
         iterate 7 refine eL ?_ (by simp) _
         exact bd
theorem aaz(s:ByteArray)(p:Nat):∃(t n:Int),hxA s p= .agg #[.int .i64 2,.int .i64 p,.int .i64 t,.int .i64 0,.int .i64 n,.string ⟨#[]⟩]:=by
 unfold hxA;split<;>exact⟨_,_,rfl⟩
def wt(s:ByteArray)(p:Nat):Value:=if aG s p=48/\aG s (p+1)=120 then hxA s p else nmA s p
def tu(s:ByteArray)(p:Nat):Int:=if aG s p=48/\aG s (p+1)=120 then hxF s p else nmF s p
theorem agl(s:ByteArray)(p:Nat):∃(k t n:Int) (x:ByteArray),nmA s p= .agg #[.int .i64 k,.int .i64 p,.int .i64 t,.int .i64 0,.int .i64 n,.string x]:=by
 unfold nmA adG;split
 ·split
  ·exact⟨_,_,_,_,rfl⟩
  ·split<;>exact⟨_,_,_,_,rfl⟩
 ·exact⟨_,_,_,_,rfl⟩
theorem Ii(s:ByteArray)(p:Nat):∃(k t n:Int) (x:ByteArray),wt s p= .agg #[.int .i64 k,.int .i64 p,.int .i64 t,.int .i64 0,.int .i64 n,.string x]:=by
 unfold wt;split
 ·obtain⟨t,n,a⟩:=aaz s p;exact⟨_,_,_,_,a⟩
 ·exact agl s p
theorem Ci(s:ByteArray)(n:s.size<=1100000)(p:Nat)(g:aG s p=48)(b:aG s (p+1)=120)(w:World):Calls Tryz.prog 213 #[.string s,.agg #[.int .i64 0,.int .i64 p,.int .i64 0,.int .i64 0,.int .i64 0,.string ⟨#[]⟩]] w fun e d=>e= .returned (.tuple #[hxA s p,.int .i64 (hxF s p)])/\Below w.heap.size w d:=by
 have x:=dp b
 have o:=fun w=>dE (s:=s) (i:=p) (by omega) w
 rw[g]at o
 have q:∀w,Calls Tryz.prog 223 #[.string s,.int .i64 ((p:Int)+1)] w fun e d=>e= .returned (.int .u8 120)/\d=w:=fun w=>by
  have:=fs s n ((p:Int)+1) (p+1) (by omega) w
  rw[po x,b]at this
  exact this
 have a:=fun w=>D9 s n p (by omega) w
 obtain⟨A,z,h⟩:=aaz s p
 rw[h]at a⊢
 generalize hxF s p=r at a
 clear h g b
 go_in
 go_wp2_with (go_at_call 223;refine dj (q _) ?_)
 generalize k:(w.alloc _).alloc _=t
 obtain⟨-,f,j,y⟩:=Dy k
 have l:fy (w.heap.size+1) t 0 0 0 0 0 ⟨#[]⟩:=f
 clear k f
 refine dG (a _) fun B c=>?_
 have m:=l.below c (by omega)
 have u:=j.trans (c.mono (by omega))
 clear c l j y a q o
 obtain⟨z0,C,E,F,G,H,J⟩:=cE m
 have I:w.heap.size+1<B.heap.size:=aw m
 go_wp2
 refine aH (v:= .tuple #[.agg #[.int .i64 2,.int .i64 p,.int .i64 A,.int .i64 0,.int .i64 z,.string ⟨#[]⟩],.int .i64 r]) (by simp[results,Tryz.results213,go_sem,z0,C,E,F,G,H]) rfl ⟨rfl,?_⟩
 iterate 6 refine eL ?_ (by simp) _
 exact u
theorem Cj(s:ByteArray)(b:s.size<=1100000)(p:Nat)(d:p<s.size)(c:cL (aG s p)=true)(w:World):Calls Tryz.prog 213 #[.string s,.agg #[.int .i64 0,.int .i64 p,.int .i64 0,.int .i64 0,.int .i64 0,.string ⟨#[]⟩]] w fun e f=>e= .returned (.tuple #[wt s p,.int .i64 (tu s p)])/\Below w.heap.size w f:=by
 unfold wt tu
 split
 ·rename_i a;exact Ci s b p a.1 a.2 w
 ·rename_i a;exact Ch s b p d c a w
theorem ip{c:Int}{b:Bool}(f:cD c=b)(w:World):Calls Tryz.prog 180 #[.int .u8 c] w fun e d=>e= .returned (.bool b)/\d=w:=(lr c w).mono fun e d a=>⟨by rw[a.1,f],a.2.symm⟩
theorem sc(s:ByteArray)(x:s.size<=1100000)(p:Nat)(n:p<s.size)(a:cL (aG s p)=true)(w:World):Calls Tryz.prog 179 #[.string s,.int .i64 p] w fun e E=>e= .returned (.tuple #[wt s p,.int .i64 (tu s p)])/\Below w.heap.size w E:=by
 have o:=fun w=>dE n w
 have y:=lD a
 have m:cD (aG s p)=false:=by simp[cD];omega
 have f:=fun w=>ip m w
 have d:=fun w=>di a w
 have b:=fun w=>Cj s x p n a w
 obtain⟨A,C,B,G,i⟩:=Ii s p
 rw[i]at b⊢
 generalize tu s p=q at b
 generalize aG s p=t at o f d y
 have ad:(t==10)=false:=by rw[cJ];omega
 clear m a i
 go_in
 go_wp2_with (first|(go_at_call 180;refine dj (f _) ?_)|(go_at_call 178;refine dj (d _) ?_))
 generalize j:(w.alloc _).alloc _=r
 obtain⟨g, -,h,z⟩:=Dy j
 have k:fy w.heap.size r 0 0 0 0 0 ⟨#[]⟩:=g
 clear j g
 refine dG (b _) fun F c=>?_
 have l:=k.below c (by omega)
 have u:=h.trans (c.mono (by omega))
 clear c k h z b f d o
 obtain⟨z0,H,I,J,K,L,ak⟩:=cE l
 have af:w.heap.size<F.heap.size:=aw l
 go_wp2
 refine aH (v:= .tuple #[.agg #[.int .i64 A,.int .i64 p,.int .i64 C,.int .i64 0,.int .i64 B,.string G],.int .i64 q]) (by simp[results,Tryz.results179,go_sem,z0,H,I,J,K,L]) rfl ⟨rfl,?_⟩
 iterate 6 refine eL ?_ (by simp) _
 exact u
theorem aaA(s:ByteArray)(p:Nat):(tu s p<0↔(fp s p).2=true)/\∃(k t n:Int) (x:ByteArray),wt s p= .agg #[.int .i64 k,.int .i64 p,.int .i64 t,.int .i64 0,.int .i64 n,.string x]/\((fp s p).2=true->t=((fp s p).1:Int)/\((k==3)=decide (¬(aG s p=48/\aG s (p+1)=120)/\(Ll s p=true\/wm s p ((fp s p).1-p)=none)))):=by
 unfold tu wt fp
 by_cases b:aG s p=48/\aG s (p+1)=120
 ·simp only[ab b]
  unfold hxF hxA
  cases hh:(lu s (p+2)).2 with
  |true=>
   simp only[qH]
   refine⟨⟨fun _=>trivial,fun _=>by omega⟩,2,_,_,_,rfl,fun _=>⟨rfl,?_⟩⟩
   simp[b]
  |false=>
   simp only[aa (show ¬false=true by simp)]
   refine⟨⟨fun a=>by omega,fun a=>by cases a⟩,2,_,_,_,rfl,fun a=>by cases a⟩
 ·simp only[aa b]
  unfold nmF nmA adG
  cases hh:(mB s (nA1 s (nA0 s p))).2 with
  |true=>
   simp only[qH]
   refine⟨⟨fun _=>trivial,fun _=>by omega⟩,?_⟩
   cases hk:Ll s p with
   |true=>
    simp only[qH]
    exact⟨3,_,_,_,rfl,fun _=>⟨rfl,by simp[b]⟩⟩
   |false=>
    simp only[aa (show ¬false=true by simp)]
    cases hc:wm s p ((mB s (nA1 s (nA0 s p))).1-p) with
    |none=>exact⟨3,_,_,_,rfl,fun _=>⟨rfl,by simp[b]⟩⟩
    |some c=>exact⟨2,_,_,_,rfl,fun _=>⟨rfl,by simp⟩⟩
  |false=>
   simp only[aa (show ¬false=true by simp)]
   refine⟨⟨fun a=>by omega,fun a=>by cases a⟩,3,_,_,_,rfl,fun a=>by cases a⟩
theorem Ij(q:ByteArray)(a:cL (aG q 0)=true)(d:mB q (nA1 q (nA0 q 0))=(q.size,true)):wk q=none↔(Ll q 0=true\/wm q 0 q.size=none):=by
 cases hk:Ll q 0 with
 |false=>
  obtain⟨b,c⟩:=Ih q 0 a hk
  have f:nA0 q 0=q.size:=by rw[d]at b;exact(sH b).1.symm
  rw[aar q (pi a) (fun e g=>c e (by omega) (by omega))]
  simp
 |true=>
  simp only[true_or,iff_true]
  unfold Ll at hk
  rcases bi hk with h|h
  ·exact D6 q a _ (dp h.1) (by rw[h.1];decide)
  ·exact D6 q a _ (dp h) (by rw[h];decide)
def fok(q:ByteArray):Bool:=decide (q.size<=40)&&nF q
theorem Ee(s:ByteArray)(B:s.size<=1100000)(w:World):Calls Tryz.prog 130 #[.string s] w fun e p=>e= .returned (.bool (fok s))/\Below w.heap.size w p:=by
 unfold fok
 by_cases j:0<s.size
 ·have E:((s.size:Int)==0)=false:=by rw[cJ];omega
  by_cases r:s.size<=40
  ·have F:¬(40:Int)<(s.size:Int):=by omega
   have x:∀w,(Instr.index 9 (.string s) (.int .i64 0)).run Tryz.prog w= .ok (.int .u8 (aG s 0)) w:=fun w=>dE j w
   by_cases b:cL (aG s 0)=true
   ·have c:=fun w=>di b w
    have g:∀w,Calls Tryz.prog 179 #[.string s,.int .i64 0] w fun e p=>e= .returned (.tuple #[wt s 0,.int .i64 (tu s 0)])/\Below w.heap.size w p:=fun w=>sc s B 0 j b w
    obtain⟨hF,o,G,H,I,t,u⟩:=aaA s 0
    rw[t]at g
    have v:(decide (s.size<=40)&&nF s)=(decide (tu s 0<0)&&((o==3)&&(G==(s.size:Int)))):=by
     rw[bB r,ez]
     unfold nF
     cases h2:(fp s 0).2 with
     |false=>
      rw[az (show ¬tu s 0<0 by rw[hF,h2];simp),dC,oK]
      rintro ⟨_,i,_⟩
      rw[i]at h2;cases h2
     |true=>
      obtain⟨C,f⟩:=u h2
      rw[bB (hF.2 h2),ez,f,C]
      by_cases m:(fp s 0).1=s.size
      ·have k:fp s 0=(s.size,true):=Prod.ext m h2
       rw[k]
       simp only[Nat.sub_zero,beq_self_eq_true,Bool.and_true]
       rw[BH]
       constructor
       ·rintro ⟨_,_,d,h⟩
        have n:mB s (nA1 s (nA0 s 0))=(s.size,true):=by rw[<-k];unfold fp;rw[aa d]
        exact⟨d,(Ij s b n).1 h⟩
       ·rintro ⟨d,h⟩
        have n:mB s (nA1 s (nA0 s 0))=(s.size,true):=by rw[<-k];unfold fp;rw[aa d]
        exact⟨b,trivial,d,(Ij s b n).2 h⟩
      ·rw[show((((fp s 0).1:Nat):Int)==(s.size:Int))=false by rw[cJ];omega,lp,oK]
       rintro ⟨_,i,_⟩
       rw[i]at m;exact m rfl
    rw[v]
    clear v u t hF
    generalize tu s 0=q at g
    generalize aG s 0=z at x c
    clear b
    by_cases hF:q<0
    ·by_cases f:o=3
     ·subst f
      go_in
      go_wp2_with (first|(go_at_call 178;refine dj (c _) ?_)|(go_at_call 179;refine(g _).mono ?_;rintro e y ⟨rfl,a⟩))
      go_ret
      exact⟨by simp[hF],a.alloc a.size _⟩
     ·have A:(o==3)=false:=by simp[f]
      clear f
      go_in
      go_wp2_with (first|(go_at_call 178;refine dj (c _) ?_)|(go_at_call 179;refine(g _).mono ?_;rintro e y ⟨rfl,a⟩))
      go_ret
      exact⟨by simp[A],a.alloc a.size _⟩
    ·go_in
     go_wp2_with (first|(go_at_call 178;refine dj (c _) ?_)|(go_at_call 179;refine(g _).mono ?_;rintro e y ⟨rfl,a⟩))
     go_ret
     exact⟨by rw[az (show ¬q<0 by omega)];simp,a.alloc a.size _⟩
   ·have l:cL (aG s 0)=false:=by simpa using b
    have c:=fun w=>di l w
    rw[show nF s=false by unfold nF;simp[l],lp]
    clear b l
    generalize aG s 0=z at x c
    go_in
    go_wp2_with (first|(go_at_call 178;refine dj (c _) ?_))
    go_ret
    exact⟨rfl,ag _ _⟩
  ·have F:(40:Int)<(s.size:Int):=by omega
   rw[az r,dC]
   go_in
   go_wp2
   go_ret
   exact⟨rfl,ag _ _⟩
 ·have E:((s.size:Int)==0)=true:=by rw[ib];omega
  rw[show nF s=false by unfold nF;rw[eu j];simp[ti],lp]
  go_in
  go_wp2
  go_ret
  exact⟨rfl,ag _ _⟩
structure Ef (s:ByteArray) (f p:Nat) (a:List Int) (R:Bool×Nat×List Int):Prop where
 out:ic s f p a=R
def AF(p:Nat)(R:Bool×Nat×List Int):Value:=if R.1=true then .agg #[.int .i64 4,.int .i64 p,.int .i64 (R.2.1:Int),.int .i64 0,.int .i64 0,.string (eI R.2.2)] else .agg #[.int .i64 4,.int .i64 p,.int .i64 0,.int .i64 0,.int .i64 0,.string ⟨#[]⟩]
def Eg(R:Bool×Nat×List Int):Int:=if R.1=true then -1 else(R.2.1:Int)
theorem AG{p a:Nat}{c:List Int}{R:Bool×Nat×List Int}(b:(true,a,c)=R):(Ending.returned (.tuple #[.agg #[.int .i64 4,.int .i64 p,.int .i64 (a:Int),.int .i64 0,.int .i64 0,.string (eI c)],.int .i64 (-1)]))= .returned (.tuple #[AF p R,.int .i64 (Eg R)]):=by
 subst b;rfl
theorem qp{p a:Nat}{c:List Int}{R:Bool×Nat×List Int}(b:(false,a,c)=R):(Ending.returned (.tuple #[.agg #[.int .i64 4,.int .i64 p,.int .i64 0,.int .i64 0,.int .i64 0,.string ⟨#[]⟩],.int .i64 (a:Int)]))= .returned (.tuple #[AF p R,.int .i64 (Eg R)]):=by
 subst b;rfl
theorem Cl(s:ByteArray)(cI:s.size<=70000)(p:Nat)(c1:p<s.size)(w:World):Calls Tryz.prog 214 #[.string s,.agg #[.int .i64 0,.int .i64 p,.int .i64 0,.int .i64 0,.int .i64 0,.string ⟨#[]⟩]] w fun e bD=>
  e= .returned (.tuple #[AF p (ic s (s.size+1) (p+1) []),.int .i64 (Eg (ic s (s.size+1) (p+1) []))])/\Below w.heap.size w bD:=by
 obtain⟨C,bo⟩:=aE (ic s (s.size+1) (p+1) [])
 rw[bo]
 have b0:Ef s (s.size+1) (p+1) [] C:=⟨bo⟩
 go_in
 go_wp2_with fail
 go_loopw [6,7,8,9] (fun bd ck d0 d1 wr=>∃(b j i:Nat) (g:List Int),bd= .int .i64 b/\fy w.heap.size wr 4 p 0 0 0 ⟨#[]⟩/\fy (w.heap.size+1) wr 0 0 0 0 0 ⟨#[]⟩/\wr.ownsRow (w.heap.size+2) 5 1 ck j (B8 g)/\s.size<b+i/\b<=s.size/\j<=b/\Ef s i b g C/\Below w.heap.size w wr/\w.heap.size+2<=wr.heap.size) (fun bd _ _ _ _=>s.size-(intOf bd).toNat)
 case atStart=>
  generalize b9:(w.alloc _).alloc _=cp
  obtain⟨x,y,b7,c7⟩:=Dy b9
  exact⟨p+1,0,s.size+1,[],by go_num,x,y,dy _ _ _ _,by omega,by omega,by omega,b0,b7,by omega⟩
 case round=>
  obtain⟨b,j,i,g,rfl,x,y,z,cB,c5,c0,b1,l,m⟩:=hrel
  obtain⟨cq,cr,cs,ct,cu,cv,cw⟩:=cE x
  obtain⟨z0,L,ad,ak,al,am,d2⟩:=cE y
  obtain⟨i,rfl⟩:∃H,i=H+1:=⟨i-1,by omega⟩
  have c:=b1.out
  unfold ic at c
  by_cases br:b<s.size
  ·have cg:=rK br
   have ce:=fun w=>dE br w
   have c4:(b:Int)<(s.size:Int):=by omega
   rw[aa (by omega)]at c
   obtain⟨t,cb⟩:=aE (aG s b)
   rw[cb]at cg ce c
   by_cases av:t=34
   ·subst av
    rw[ab rfl]at c
    have f:=aj c
    rcases z.2 with⟨rfl,cc⟩|⟨H,an,cx,rfl,df⟩
    ·have ca:g=[]:=by have:=sI z;rw[cc]at this;exact fj this
     have bE:=aj ca
     have cf:=xD
     go_wp2_with fail
     refine aH (v:= .tuple #[.agg #[.int .i64 4,.int .i64 p,.int .i64 ((b:Int)+1),.int .i64 0,.int .i64 0,.string ByteArray.empty],.int .i64 (-1)]) (by simp[results,Tryz.results214,go_sem,z0,L,ad,ak,al,am]) rfl ⟨by have h:=f.out;rw[bE.out]at h;exact AG h,?_⟩
     iterate 8 refine eL ?_ (by simp) _
     exact l
    ·have cf:=jx (Bm (a:=⟨w.heap.size,2,none⟩) z (by simp) (.int .i64 ((b:Int)+1)))
     go_wp2_with fail
     refine aH (v:= .tuple #[.agg #[.int .i64 4,.int .i64 p,.int .i64 ((b:Int)+1),.int .i64 0,.int .i64 0,.string (eI g)],.int .i64 (-1)]) (by simp[results,Tryz.results214,go_sem,z0,L,ad,ak,al,am]) rfl ⟨AG f,?_⟩
     iterate 8 refine eL ?_ (by simp) _
     exact l
   rw[aa av]at c
   have c8:(t==34)=false:=by simp[av]
   by_cases a6:t=10
   ·subst a6
    rw[ab rfl]at c
    have f:=aj c
    go_wp2_with fail
    refine aH (v:= .tuple #[.agg #[.int .i64 4,.int .i64 p,.int .i64 0,.int .i64 0,.int .i64 0,.string ⟨#[]⟩],.int .i64 (b:Int)]) (by simp[results,Tryz.results214,go_sem,z0,L,ad,ak,al,am]) rfl ⟨qp f,?_⟩
    iterate 6 refine eL ?_ (by simp) _
    exact l
   rw[aa a6]at c
   have c9:(t==10)=false:=by simp[a6]
   by_cases a7:t=92
   ·subst a7
    rw[ab rfl]at c
    have k:=fun w=>fs s (by omega) ((b:Int)+1) (b+1) (by omega) w
    by_cases u:aG s (b+1)=110
    ·have q:=dp u
     rw[show lH s (b+1)=(10,b+1+1,true) by unfold lH;rw[ab u],ab rfl]at c
     rw[po q,u]at k
     have f:Ef s i (b+1+1) (g++[10]) C:=⟨c⟩
     go_wp2_with (first|(go_at_call 223;refine dj (k _) ?_)|(at_builtin;refine gH rfl (.tmp 51) (.tmp 52) rfl (w.heap.size+2) _ j g rfl z m (by omega) [10] 1 rfl (by decide) (by decide) _ rfl rfl ?_;intro H an w1 o d))
     go_roundw
     case rel=>exact⟨b+1+1,j+1,i,g++[10],by go_num,x.below d (by omega),y.below d (by omega),o,by omega,by omega,by omega,f,l.trans (d.mono (by omega)),ch m d.size⟩
     case measure=>simp[intOf];omega
    by_cases E:aG s (b+1)=116
    ·have q:=dp E
     rw[show lH s (b+1)=(9,b+1+1,true) by unfold lH;rw[aa u,ab E],ab rfl]at c
     rw[po q,E]at k
     have f:Ef s i (b+1+1) (g++[9]) C:=⟨c⟩
     go_wp2_with (first|(go_at_call 223;refine dj (k _) ?_)|(at_builtin;refine gH rfl (.tmp 56) (.tmp 57) rfl (w.heap.size+2) _ j g rfl z m (by omega) [9] 1 rfl (by decide) (by decide) _ rfl rfl ?_;intro H an w1 o d))
     go_roundw
     case rel=>exact⟨b+1+1,j+1,i,g++[9],by go_num,x.below d (by omega),y.below d (by omega),o,by omega,by omega,by omega,f,l.trans (d.mono (by omega)),ch m d.size⟩
     case measure=>simp[intOf];omega
    by_cases F:aG s (b+1)=34
    ·have q:=dp F
     rw[show lH s (b+1)=(34,b+1+1,true) by unfold lH;rw[aa u,aa E,ab (Or.inl F),F],ab rfl]at c
     rw[po q,F]at k
     have ba:=fun w=>DB q w
     rw[F]at ba
     have f:Ef s i (b+1+1) (g++[34]) C:=⟨c⟩
     go_wp2_with (first|(go_at_call 223;refine dj (k _) ?_)|(at_builtin;refine gH rfl (.tmp 62) (.tmp 66) rfl (w.heap.size+2) _ j g rfl z m (by omega) [34] 1 rfl (by decide) (by decide) _ rfl rfl ?_;intro H an w1 o d))
     go_roundw
     case rel=>exact⟨b+1+1,j+1,i,g++[34],by go_num,x.below d (by omega),y.below d (by omega),o,by omega,by omega,by omega,f,l.trans (d.mono (by omega)),ch m d.size⟩
     case measure=>simp[intOf];omega
    by_cases G:aG s (b+1)=92
    ·have q:=dp G
     rw[show lH s (b+1)=(92,b+1+1,true) by unfold lH;rw[aa u,aa E,ab (Or.inr G),G],ab rfl]at c
     rw[po q,G]at k
     have ba:=fun w=>DB q w
     rw[G]at ba
     have f:Ef s i (b+1+1) (g++[92]) C:=⟨c⟩
     go_wp2_with (first|(go_at_call 223;refine dj (k _) ?_)|(at_builtin;refine gH rfl (.tmp 62) (.tmp 66) rfl (w.heap.size+2) _ j g rfl z m (by omega) [92] 1 rfl (by decide) (by decide) _ rfl rfl ?_;intro H an w1 o d))
     go_roundw
     case rel=>exact⟨b+1+1,j+1,i,g++[92],by go_num,x.below d (by omega),y.below d (by omega),o,by omega,by omega,by omega,f,l.trans (d.mono (by omega)),ch m d.size⟩
     case measure=>simp[intOf];omega
    by_cases ap:aG s (b+1)=120
    ·have q:=dp ap
     rw[po q,ap]at k
     have b8:lH s (b+1)=DC s (b+1+1):=by unfold lH;rw[aa u,aa E,aa (fun h=>h.elim F G),ab ap]
     rw[b8]at c
     unfold DC at c
     have K:=fun w=>fs s (by omega) ((b:Int)+1+1) (b+1+1) (by omega) w
     have ar:=fun w=>fs s (by omega) ((b:Int)+1+2) (b+1+1+1) (by omega) w
     have bk:=H9 s (b+1+1)
     have bl:=H9 s (b+1+1+1)
     have n:=fun w=>uv (lk s (b+1+1)) bk.1 bk.2 w
     have A:=fun w=>uv (lk s (b+1+1+1)) bl.1 bl.2 w
     rw[If]at n A
     have cl:=qL (aG s (b+1+1))
     have cm:=qL (aG s (b+1+1+1))
     by_cases J:ig (aG s (b+1+1))<0
     ·rw[ab J,aa (by simp)]at c
      have f:=aj c
      generalize lk s (b+1+1)=bf at K n
      generalize ig (aG s (b+1+1))=r at n J
      go_wp2_with (go_at_call 223;refine dj (k _) ?_)
      refine Bk 3 ?_
      rw[qC]
      go_wp2_with (first|(go_at_call 223;refine dj (K _) ?_)|(go_at_call 254;refine dj (n _) ?_))
      refine aH (v:= .tuple #[.agg #[.int .i64 4,.int .i64 p,.int .i64 0,.int .i64 0,.int .i64 0,.string ⟨#[]⟩],.int .i64 ((b:Int)+1+1)]) (by simp[results,Tryz.results214,go_sem,z0,L,ad,ak,al,am]) rfl ⟨qp f,?_⟩
      iterate 6 refine eL ?_ (by simp) _
      exact l
     rw[aa J]at c
     have bs:0<=ig (aG s (b+1+1)):=by omega
     by_cases ao:ig (aG s (b+1+1+1))<0
     ·rw[ab ao,aa (by simp)]at c
      have f:=aj c
      generalize lk s (b+1+1)=bf at K n
      generalize ig (aG s (b+1+1))=r at n J bs
      generalize lk s (b+1+1+1)=b4 at ar A
      generalize ig (aG s (b+1+1+1))=I at A ao
      go_wp2_with (go_at_call 223;refine dj (k _) ?_)
      refine Bk 3 ?_
      rw[qC]
      go_wp2_with (first|(go_at_call 223;refine dj (K _) ?_)|(go_at_call 254;refine dj (n _) ?_))
      rw[qC]
      go_wp2_with (first|(go_at_call 223;refine dj (ar _) ?_)|(go_at_call 254;refine dj (A _) ?_))
      refine aH (v:= .tuple #[.agg #[.int .i64 4,.int .i64 p,.int .i64 0,.int .i64 0,.int .i64 0,.string ⟨#[]⟩],.int .i64 ((b:Int)+1+2)]) (by simp[results,Tryz.results214,go_sem,z0,L,ad,ak,al,am]) rfl ⟨by have h:=qp (p:=p) f.out;rw[show((b+1+1+1:Nat):Int)=(b:Int)+1+2 by omega]at h;exact h,?_⟩
      iterate 6 refine eL ?_ (by simp) _
      exact l
     have a8:b+1+1<s.size:=by
      rcases ci (b+1+1) s.size with h|h
      ·exact h
      ·rw[eu]at J;exact absurd (by decide) J
     have a9:b+1+1+1<s.size:=by
      rcases ci (b+1+1+1) s.size with h|h
      ·exact h
      ·rw[eu]at ao;exact absurd (by decide) ao
     have bb:=fun w=>dE a8 w
     have bc:=fun w=>dE a9 w
     rw[show((b+1+1:Nat):Int)=(b:Int)+1+1 by omega]at bb
     rw[show((b+1+1+1:Nat):Int)=(b:Int)+1+2 by omega]at bc
     rw[aa ao,ab rfl]at c
     rw[po a8]at K n
     rw[po a9]at ar A
     have cd:0<=ig (aG s (b+1+1+1)):=by omega
     have f:Ef s i (b+1+1+1+1) (g++[ig (aG s (b+1+1))*16+ig (aG s (b+1+1+1))]) C:=⟨c⟩
     have b5:=rK a8
     have b6:=rK a9
     generalize ig (aG s (b+1+1))=r at n J bs cl f
     generalize ig (aG s (b+1+1+1))=I at A ao cd cm f
     generalize aG s (b+1+1)=bf at K n bb b5
     generalize aG s (b+1+1+1)=b4 at ar A bc b6
     rw[show r*16+I=16*r+I by omega]at f
     go_wp2_with (go_at_call 223;refine dj (k _) ?_)
     refine Bk 3 ?_
     rw[qC]
     go_wp2_with (first|(go_at_call 223;refine dj (K _) ?_)|(go_at_call 254;refine dj (n _) ?_))
     rw[qC]
     go_wp2_with (first|(go_at_call 223;refine dj (ar _) ?_)|(go_at_call 254;refine dj (A _) ?_))
     rw[qC]
     go_wp2_with fail
     obtain⟨B,bn⟩:∃B:Int,(b:Int)+1=B:=⟨_,rfl⟩
     rw[bn]at bb bc⊢
     have bF:=aj bn
     have dg:IntKind.i64.wrap (B+1)=B+1:=xj _ (by omega)
     have dk:IntKind.i64.wrap (B+2)=B+2:=xj _ (by omega)
     have dn:IntKind.i64.wrap (16*r)=16*r:=xj _ (by omega)
     have ds:IntKind.i64.wrap (16*r+I)=16*r+I:=xj _ (by omega)
     have dz:IntKind.u8.wrap (16*r+I)=16*r+I:=IntWalk.u8_in _ (by omega)
     have cy:0<=B:=by omega
     have cz:B<=70001:=by omega
     go_region_held3 (fun bD=>True) (trivial) ((first|(go_at_call 254;with_reducible refine dj (n _) ?_)|(go_at_call 254;with_reducible refine dj (A _) ?_)|(refine xl (by rfl) _ _ (by rfl) (w.heap.size+2) _ j g (by rfl) z m (by omega) [_] 1 (by rfl) (by decide) (by decide) _ (by rfl) (by rfl) ?_;intro H an w1 o d)))
     all_goals
      go_wp2_with fail
      have c6:=bF.out
      exact⟨⟨b+1+1+1+1,j+1,i,g++[16*r+I],by congr 1<;>omega,x.below d (by omega),y.below d (by omega),o,by omega,by omega,by omega,f,l.trans (d.mono (by omega)),ch m d.size⟩,by simp[intOf];omega⟩
    rw[show lH s (b+1)=(0,b+1,false) by unfold lH;rw[aa u,aa E,aa (fun h=>h.elim F G),aa ap],aa (by simp)]at c
    have f:=aj c
    have bt:=qo s (b+1) 110
    have bv:=qo s (b+1) 116
    have bw:=qo s (b+1) 34
    have bx:=qo s (b+1) 92
    have bA:=qo s (b+1) 120
    rw[az u]at bt
    rw[az E]at bv
    rw[az F]at bw
    rw[az G]at bx
    rw[az ap]at bA
    generalize lk s (b+1)=cn at k bt bv bw bx bA
    go_wp2_with (go_at_call 223;refine dj (k _) ?_)
    refine aH (v:= .tuple #[.agg #[.int .i64 4,.int .i64 p,.int .i64 0,.int .i64 0,.int .i64 0,.string ⟨#[]⟩],.int .i64 ((b:Int)+1)]) (by simp[results,Tryz.results214,go_sem,z0,L,ad,ak,al,am]) rfl ⟨qp f,?_⟩
    iterate 6 refine eL ?_ (by simp) _
    exact l
   rw[aa a7]at c
   have dd:(t==92)=false:=by simp[a7]
   have f:Ef s i (b+1) (g++[t]) C:=⟨c⟩
   go_wp2_with (at_builtin;refine gH rfl (.tmp 36) (.tmp 38) rfl (w.heap.size+2) _ j g rfl z m (by omega) [t] 1 rfl (by decide) (by decide) _ rfl rfl ?_;intro H an w1 o d)
   go_roundw
   case rel=>exact⟨b+1,j+1,i,g++[t],by go_num,x.below d (by omega),y.below d (by omega),o,by omega,by omega,by omega,f,l.trans (d.mono (by omega)),ch m d.size⟩
   case measure=>simp[intOf];omega
  ·rw[ab (by omega)]at c
   have f:=aj c
   obtain rfl:b=s.size:=by omega
   go_wp2_with fail
   refine aH (v:= .tuple #[.agg #[.int .i64 4,.int .i64 p,.int .i64 0,.int .i64 0,.int .i64 0,.string ⟨#[]⟩],.int .i64 (s.size:Int)]) (by simp[results,Tryz.results214,go_sem,z0,L,ad,ak,al,am]) rfl ⟨qp f,?_⟩
   iterate 6 refine eL ?_ (by simp) _
   exact l
def qr(l:List ByteArray):Nat->Nat->Bool
 |0,_=>true
 |f+1,j=>lK (l.getD j ByteArray.empty)&&qr l f (j+1)
structure AH (l:List ByteArray) (f j:Nat) (R:Bool):Prop where
 out:qr l f j=R
def ew(N:Nd)(a b:Int):Bool:=decide (a<=(N.nm.length:Int)/\(N.nm.length:Int)<=b)&&qr N.nm N.nm.length 0
theorem Eh(w:World)(N:Nd)(vn vk:Value)(q r:Int)(B:bp w vn N.nm)(L:cH w vk N.ks)(am:N.nm.length<=1048576)(ad:∀s∈N.nm,s.size<=1048576):
  Calls Tryz.prog 127 #[gF N vn vk,.int .i64 q,.int .i64 r] w fun e ao=>e= .returned (.bool (ew N q r))/\Below w.heap.size w ao:=by
 have j:∀C,Below w.heap.size w (w.alloc C):=fun C=>(ag _ w).alloc (ah _) C
 have u:=eJ B ad
 obtain⟨H,J,rfl⟩:=B.form
 obtain⟨I,K,rfl⟩:=L.form
 clear B L ad
 obtain⟨i,c⟩:=aE (ew N q r)
 rw[c]
 unfold ew at c
 unfold gF
 obtain⟨a,y⟩:=aE N.nm.length
 have ak:=aj y
 rw[y]at u am c⊢
 clear y
 generalize N.ks.length=F
 by_cases ar:(a:Int)<q
 ·have g:Hid (false=i):=by rw[az (by omega)]at c;exact c
  clear c
  go_in
  go_wp2
  go_ret
  exact⟨by rw[<-g.out];rfl,j _⟩
 by_cases av:r<(a:Int)
 ·have g:Hid (false=i):=by rw[az (by omega)]at c;exact c
  clear c
  go_in
  go_wp2
  go_ret
  exact⟨by rw[<-g.out];rfl,j _⟩
 have g:AH N.nm a 0 i:=⟨by rw[bB (by omega)]at c;simpa using c⟩
 clear c
 go_in
 go_wp21
 have v:=j (.cells #[.int .i64 N.k,.int .i64 N.f,.int .i64 N.t,.int .i64 N.l,.int .i64 N.op,.int .i64 N.n,.string N.x,.slice H a J,.slice I F K] 50)
 generalize w.alloc (.cells #[.int .i64 N.k,.int .i64 N.f,.int .i64 N.t,.int .i64 N.l,.int .i64 N.op,.int .i64 N.n,.string N.x,.slice H a J,.slice I F K] 50)=G at v⊢
 clear j
 go_loopw [24,8] (fun E _ wr=>∃(b:Nat),E= .int .i64 b/\b<=a/\AH N.nm (a-b) b i/\Below G.heap.size G wr) (fun E _ _=>a-(intOf E).toNat)
 case atStart=>exact⟨0,rfl,by omega,g,ag _ _⟩
 case round=>
  obtain⟨b,rfl,a1,af,z⟩:=hrel
  have m:=v.trans (z.mono v.size)
  have d:=af.out
  by_cases an:b<a
  ·obtain⟨s,o⟩:=bC ak.out an
   have a4:=u.2 s (bJ o)
   obtain⟨a5,rfl,a0⟩:=(u.1.below m).get o
   rw[show a-b=(a-(b+1))+1 by omega,qr,aL,o,fH]at d
   have al:(b:Int)<(a:Int):=by omega
   have p:=th s (by omega) wr
   clear o
   cases hx:lK s with
   |true=>
    rw[hx,ez]at d
    rw[hx]at p
    have h:AH N.nm (a-(b+1)) (b+1) i:=⟨d⟩
    clear d hx
    go_wp2_with (go_at_call 131;refine p.mono ?_;rintro e ap ⟨rfl,A⟩)
    exact⟨⟨b+1,by go_num,by omega,h,z.trans (A.mono z.size)⟩,by simp[intOf];omega⟩
   |false=>
    rw[hx,dC]at d
    rw[hx]at p
    have h:=aj d
    clear d hx
    go_wp2_with (go_at_call 131;refine p.mono ?_;rintro e ap ⟨rfl,A⟩)
    go_ret
    exact⟨by rw[<-h.out];rfl,m.trans (A.mono m.size)⟩
  ·rw[show a-b=0 by omega,qr]at d
   have h:=aj d
   have al:¬(b:Int)<(a:Int):=by omega
   clear d
   go_wp21
   go_ret
   exact⟨by rw[<-h.out];rfl,m⟩
structure NArg (W:World) (vt:Value) (ns:List Nd) (N:Nd) (vn vk:Value):Prop where
 t:dK W vt ns
 n:bp W vn N.nm
 k:cH W vk N.ks
 ok:uw ns N
 ln:ns.length<=1048576
 l1:N.nm.length<=1048576
 l2:N.ks.length<=1048576
 lx:N.x.size<=1048576
 ls:∀s∈N.nm,s.size<=1048576
theorem NArg.below{W c:World}{e:Value}{d:List Nd}{N:Nd}{vn vk:Value}(a:NArg W e d N vn vk)(b:Below W.heap.size W c):NArg c e d N vn vk:=
 ⟨a.t.below b,a.n.below b,a.k.below b,a.ok,a.ln,a.l1,a.l2,a.lx,a.ls⟩
structure St (w:World) (vt:Value) (ns:List Nd) (N:Nd) (vn vk:Value) (W:World):Prop where
 a:NArg W vt ns N vn vk
 bt:W.cell? ⟨w.heap.size,0,none⟩=some vt
 bn:nc (w.heap.size+1) W 50 N vn vk
 bel:Below w.heap.size w W
theorem St.below{w:World}{f:Value}{e:List Nd}{N:Nd}{vn vk:Value}{W d:World}(b:St w f e N vn vk W)(c:Below W.heap.size W d):St w f e N vn vk d:=
 ⟨b.a.below c,ai c b.bt,b.bn.below c,b.bel.trans (c.mono b.bel.size)⟩
theorem St.start{w:World}{a:Value}{c:List Nd}{N:Nd}{vn vk:Value}(d:NArg w a c N vn vk):St w a c N vn vk ((w.alloc (.cells #[a] 25)).alloc (.cells #[.int .i64 N.k,.int .i64 N.f,.int .i64 N.t,.int .i64 N.l,.int .i64 N.op,.int .i64 N.n,.string N.x,vn,vk] 50)):=by
 have b:Below w.heap.size w ((w.alloc (.cells #[a] 25)).alloc (.cells #[.int .i64 N.k,.int .i64 N.f,.int .i64 N.t,.int .i64 N.l,.int .i64 N.op,.int .i64 N.n,.string N.x,vn,vk] 50)):=((ag _ w).alloc (ah _) _).alloc (by simp) _
 refine⟨d.below b,?_,?_,b⟩
 ·rw[au _ _ _ _ _ _ ((eo _ _ _ (by simp)).trans (ay w _))];rfl
 ·have:=ay (w.alloc (.cells #[a] 25)) (.cells #[.int .i64 N.k,.int .i64 N.f,.int .i64 N.t,.int .i64 N.l,.int .i64 N.op,.int .i64 N.n,.string N.x,vn,vk] 50)
  rw[db]at this
  exact this
theorem nh{w:World}{c:Value}{b:List Nd}{N:Nd}{vn vk:Value}(a:NArg w c b N vn vk)(i:Nat)(j:i<N.ks.length):
  Calls Tryz.prog 125 #[.agg #[c],gF N vn vk,.int .i64 i] w fun e l=>e= .returned (.int .i64 (eC b N i))/\Below w.heap.size w l:=by
 obtain⟨m,d,f,g,h,o⟩:=a.ok.get j
 rw[h]
 exact Jy w c b N d vn vk i m a.t a.n a.k f g a.ln a.l2
abbrev aN(N:Nd)(vn vk:Value):Value:= .agg #[.int .i64 N.k,.int .i64 N.f,.int .i64 N.t,.int .i64 N.l,.int .i64 N.op,.int .i64 N.n,.string N.x,vn,vk]
section
variable {w W : World} {vt vn vk : Value} {ns : List Nd} {N : Nd} {Q : Ending → World → Prop} (s : St w vt ns N vn vk W)
include s
theorem St.bare{a b c d:Bool}(k:∀e,St w vt ns N vn vk e->Q (.returned (.bool (bj N a b c d))) e):Calls Tryz.prog 126 #[aN N vn vk,.bool a,.bool b,.bool c,.bool d] W Q:=dG (Ga _ N _ _ s.a.n s.a.k s.a.l1 _ _ _ _) fun g f=>k g (s.below f)
theorem St.named{a b:Int}(k:∀c,St w vt ns N vn vk c->Q (.returned (.bool (ew N a b))) c):Calls Tryz.prog 127 #[aN N vn vk,.int .i64 a,.int .i64 b] W Q:=dG (Eh _ N _ _ a b s.a.n s.a.k s.a.l1 s.a.ls) fun e d=>k e (s.below d)
theorem St.ex1(d:1<=N.ks.length)(k:∀b,St w vt ns N vn vk b->Q (.returned (.bool (jj ns N 1 0))) b):Calls Tryz.prog 128 #[.agg #[vt],aN N vn vk,.int .i64 0,.int .i64 1] W Q:=dG (jr _ _ ns N _ _ 0 1 s.a.t s.a.n s.a.k s.a.ok d s.a.ln s.a.l2) fun e c=>k e (s.below c)
theorem St.ex2(d:2<=N.ks.length)(k:∀b,St w vt ns N vn vk b->Q (.returned (.bool (jj ns N 2 0))) b):Calls Tryz.prog 128 #[.agg #[vt],aN N vn vk,.int .i64 0,.int .i64 2] W Q:=dG (jr _ _ ns N _ _ 0 2 s.a.t s.a.n s.a.k s.a.ok d s.a.ln s.a.l2) fun e c=>k e (s.below c)
theorem St.exL(k:∀b,St w vt ns N vn vk b->Q (.returned (.bool (jj ns N N.ks.length 0))) b):Calls Tryz.prog 128 #[.agg #[vt],aN N vn vk,.int .i64 0,.int .i64 (N.ks.length:Int)] W Q:=dG (jr _ _ ns N _ _ 0 _ s.a.t s.a.n s.a.k s.a.ok (ah _) s.a.ln s.a.l2) fun d c=>k d (s.below c)
theorem St.kid0(d:0<N.ks.length)(k:∀b,St w vt ns N vn vk b->Q (.returned (.int .i64 (eC ns N 0))) b):Calls Tryz.prog 125 #[.agg #[vt],aN N vn vk,.int .i64 0] W Q:=dG (nh s.a 0 d) fun e c=>k e (s.below c)
theorem St.kid1(d:1<N.ks.length)(k:∀b,St w vt ns N vn vk b->Q (.returned (.int .i64 (eC ns N 1))) b):Calls Tryz.prog 125 #[.agg #[vt],aN N vn vk,.int .i64 1] W Q:=dG (nh s.a 1 d) fun e c=>k e (s.below c)
end
def JL(a:List Nd)(N:Nd):Nat->Nat->Bool
 |0,_=>true
 |f+1,j=>gI (eC a N j)&&JL a N f (j+1)
structure agm (ns:List Nd) (N:Nd) (f j:Nat) (R:Bool):Prop where
 out:JL ns N f j=R
theorem adI{w:World}{am:Value}{g:List Nd}{N:Nd}{vn vk:Value}(h:NArg w am g N vn vk)(ak:N.k=1):
  Calls Tryz.prog 46 #[.agg #[am],gF N vn vk] w fun e s=>e= .returned (.bool (JL g N N.ks.length 0&&bj N false false false false))/\Below w.heap.size w s:=by
 obtain⟨I,L,rfl⟩:=h.t.form
 obtain⟨J,ad,rfl⟩:=h.n.form
 obtain⟨K,af,rfl⟩:=h.k.form
 have b:=St.start h
 have a5:=h.l2
 clear h
 have a6:(N.k==1)=true:=by rw[ak];rfl
 clear ak
 obtain⟨p,q⟩:=aE (JL g N N.ks.length 0)
 rw[q]
 have ao:agm g N N.ks.length 0 p:=⟨q⟩
 clear q
 unfold gF
 go_in
 go_wp2_with fail
 generalize (w.alloc (.cells #[.slice I g.length L] 25)).alloc (.cells #[.int .i64 N.k,.int .i64 N.f,.int .i64 N.t,.int .i64 N.l,.int .i64 N.op,.int .i64 N.n,.string N.x,.slice J N.nm.length ad,.slice K N.ks.length af] 50)=a0 at b⊢
 go_loopw [6,18] (fun _ r wr=>∃(c:Nat),r= .int .i64 c/\c<=N.ks.length/\agm g N (N.ks.length-c) c p/\St w (.slice I g.length L) g N (.slice J N.nm.length ad) (.slice K N.ks.length af) wr) (fun _ r _=>N.ks.length-(intOf r).toNat)
 case atStart=>exact⟨0,rfl,by omega,ao,b⟩
 case round=>
  clear b
  obtain⟨c,rfl,a4,an,b⟩:=hrel
  obtain⟨u,v,y,z,A,B,C,E,F,G⟩:=bz b.bn
  have H:=b.bt
  have d:=an.out
  by_cases ar:c<N.ks.length
  ·rw[show N.ks.length-c=(N.ks.length-(c+1))+1 by omega,JL]at d
   have ap:(c:Int)<(N.ks.length:Int):=by omega
   have m:=nh b.a c ar
   unfold gF at m
   generalize eC g N c=al at d m
   have o:=fun w=>yk al w
   cases hx:gI al with
   |false=>
    rw[hx,dC]at d
    rw[hx]at o
    have i:=aj d
    clear d hx
    go_wp2_with (first|(go_at_call 125;refine m.mono ?_;rintro e s ⟨rfl,j⟩;replace b:=b.below j;clear j;obtain⟨u,v,y,z,A,B,C,E,F,G⟩:=bz b.bn;have H:=b.bt)|(go_at_call 45;refine dj (o _) ?_))
    go_ret
    exact⟨by rw[<-i.out];rfl,b.bel⟩
   |true=>
    rw[hx,ez]at d
    rw[hx]at o
    have i:agm g N (N.ks.length-(c+1)) (c+1) p:=⟨d⟩
    clear d hx
    go_wp2_with (first|(go_at_call 125;refine m.mono ?_;rintro e s ⟨rfl,j⟩;replace b:=b.below j;clear j;obtain⟨u,v,y,z,A,B,C,E,F,G⟩:=bz b.bn;have H:=b.bt)|(go_at_call 45;refine dj (o _) ?_))
    exact⟨⟨c+1,by go_num,by omega,i,b⟩,by simp[intOf];omega⟩
  ·rw[show N.ks.length-c=0 by omega,JL]at d
   have i:=aj d
   have ap:¬(c:Int)<(N.ks.length:Int):=by omega
   clear d
   go_wp2_with (go_at_call 126;refine b.bare fun av b=>?_;obtain⟨u,v,y,z,A,B,C,E,F,G⟩:=bz b.bn;have H:=b.bt)
   go_ret
   exact⟨by rw[<-i.out];rfl,b.bel⟩
theorem aaB{w:World}{b:Value}{a:List Nd}{N:Nd}{vn vk:Value}(c:NArg w b a N vn vk)(d:1<N.ks.length):
  Calls Tryz.prog 125 #[.agg #[b],.agg #[.int .i64 N.k,.int .i64 N.f,.int .i64 N.t,.int .i64 N.l,.int .i64 N.op,.int .i64 N.n,.string N.x,vn,vk],.int .i64 1] w fun e g=>e= .returned (.int .i64 (eC a N 1))/\Below w.heap.size w g:=nh c 1 d
