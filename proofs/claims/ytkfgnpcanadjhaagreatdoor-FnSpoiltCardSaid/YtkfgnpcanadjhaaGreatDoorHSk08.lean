import Derived.Test.YtkfgnpcanadjhaaGreatDoorHSk07
import Derived.Test.YtkfgnpcanadjhaaGreatDoorHSk04
set_option linter.all false
set_option maxRecDepth 100000
set_option maxHeartbeats 3200000
namespace Go.Proofs.YtkfgnpcanadjhaaGreatDoor
open Go.RowKit Go.Maps Go.WideMaps
def zF(u:Nat)(j:Nat):Int:=lc ((u / 16 ^ j%16:Nat):Int)
def hxO(u:Nat):Nat->ByteArray
 |0=>⟨#[48,120]⟩
 |r+1=>hxO u r++eI [zF u (15-r)]
theorem Nat.pow_mul_two16(k:Nat):(2:Int) ^ (4*k)=(16:Int) ^ k:=by rw[Int.pow_mul];rfl
theorem yp(u:Nat):∀r,(hxO u r).size=r+2
 |0=>rfl
 |r+1=>by show(hxO u r++eI [zF u (15-r)]).size=_;rw[ax,yp u r];rfl
theorem aaC(d:Int)(b:0<=d)(c:d<16)(w:World):(Instr.index 9 (.string ⟨#[48,49,50,51,52,53,54,55,56,57,97,98,99,100,101,102]⟩) (.int .u64 d)).run Tryz.prog w= .ok (.int .u8 (lc d)) w:=by
 have a:d.toNat<DG.size:=by simp only[DG];show d.toNat<16;omega
 have e:=aft d b c a
 go_simp
 exact e
theorem afw(c:Int)(a:0<=c)(b:c<18446744073709551616):bits .and .u64 c 15=c%16:=by
 have:=bits_mask .u64 64 (by decide) (fun f d e=>by rw[IntKind.wrap_u64];omega) 4 (by decide) c a b
 simpa using this
theorem J0(n:Int)(A: -9223372036854775808<=n)(B:n<0)(w:World):Calls Tryz.prog 112 #[.int .i64 n] w fun e z=>e= .returned (.string (hxO (n+18446744073709551616).toNat 16))/\Below w.heap.size w z:=by
 obtain⟨c,x⟩:∃c:Nat,(c:Int)=n+18446744073709551616:=⟨(n+18446744073709551616).toNat,by omega⟩
 rw[show(n+18446744073709551616).toNat=c by omega]
 obtain⟨d,p⟩:∃d:Int,d=(c:Int):=⟨_,rfl⟩
 have af:IntKind.u64.wrap n=d:=by rw[IntKind.wrap_u64];omega
 have L:0<=d:=by omega
 have ad:d<18446744073709551616:=by omega
 have l:=aj p
 have H:¬0<=n:=by omega
 clear p x
 go_in
 go_wp2_with fail
 go_loopw [4,5] (fun y j wr=>∃b:Nat,b<=16/\j= .int .i64 (60-4*(b:Int))/\y= .string (hxO c b)/\Below w.heap.size w wr) (fun _ j _=>(intOf j+4).toNat)
 case atStart=>exact⟨0,by omega,rfl,rfl,ag _ _⟩
 case round=>
  obtain⟨b,I,rfl,rfl,h⟩:=hrel
  by_cases C:b<16
  ·obtain⟨f,i⟩:∃f:Int,60-4*(b:Int)=f:=⟨_,rfl⟩
   have F:0<=f:=by omega
   have G:f<=60:=by omega
   obtain⟨a,r⟩:∃a:Int,d / 2 ^ f.toNat=a:=⟨_,rfl⟩
   have g:a=((c / 16 ^ (15-b):Nat):Int):=by
    rw[<-r,l.out,show f.toNat=4*(15-b) by omega,Nat.pow_mul_two16,Int.natCast_ediv]
    rfl
   have s:0<=a:=by rw[g];exact Int.natCast_nonneg _
   have t:a<18446744073709551616:=by
    rw[g]
    have:=Nat.div_le_self c (16 ^ (15-b))
    have:=l.out
    omega
   have m:0<=a%16:=by omega
   have o:a%16<16:=by omega
   have u:bits .and .u64 a 15=a%16:=afw a s t
   have v:=fun w=>aaC (a%16) m o w
   have k:Hid (eI [lc (a%16)]=eI [zF c (15-b)]):=by
    show _=_
    unfold zF
    rw[g]
    rfl
   generalize a%16=D at m o u v k
   have E:=fun w=>jx (qJ w (lc D))
   have J:=yp c b
   have K:(eI [lc D]).size=1:=rfl
   have q:=aj i
   rw[i]
   clear g i
   go_wp2
   go_roundw
   case rel=>exact⟨b+1,by omega,by have:=q.out;congr 1;omega,by rw[k.out];rfl,h.alloc h.size _⟩
   case measure=>simp[intOf];omega
  ·obtain rfl:b=16:=by omega
   go_wp2
   go_ret
   exact⟨rfl,h⟩
theorem agn:bits .and .u64 16 (IntKind.u64.wrap (-16))=16:=by decide+kernel
theorem ago:IntKind.u64.wrap 4573923408821661840=4573923408821661840:=by decide+kernel
theorem ajx(w:World)(b:w.cell? ⟨9,15,none⟩=some (.int .u8 4)):Calls Tryz.prog 257 #[.int .u64 16] w fun e a=>e= .returned (.int .i64 4)/\a=w:=by
 have c:=agn
 have d:=ago
 go_in
 go_wp2
 go_ret
 exact⟨rfl,rfl⟩
theorem tz(w:World)(b:w.cell? ⟨9,15,none⟩=some (.int .u8 4)):Calls Tryz.prog 221 #[.int .u64 16] w fun e a=>e= .returned (.int .i64 4)/\a=w:=by
 go_in
 go_wp2_with (go_at_call 257;refine(ajx _ b).mono ?_;rintro e a ⟨rfl,rfl⟩)
 go_ret
 exact⟨rfl,rfl⟩
theorem agp:bits .and .i64 16 15=0:=by decide+kernel
theorem p2(w:World):Calls Tryz.prog 220 #[.int .i64 16] w fun e a=>e= .returned (.bool true)/\a=w:=by
 have b:=agp
 go_in
 go_wp2
 go_ret
 exact⟨rfl,rfl⟩
def D36:ByteArray:=⟨#[48,49,50,51,52,53,54,55,56,57,97,98,99,100,101,102,103,104,105,106,107,108,109,110,111,112,113,114,115,116,117,118,119,120,121,122]⟩
theorem adJ:∀i:Fin 16,((D36[i.val]'(by have:=i.isLt;show i.val<36;omega)).toNat:Int)=lc (i.val:Int):=by decide
theorem agq(d:Int)(c:0<=d)(e:d<16)(b:d.toNat<D36.size):((D36[d.toNat]'b).toNat:Int)=lc d:=by
 have:=adJ ⟨d.toNat,by omega⟩
 have a:((d.toNat:Nat):Int)=d:=by omega
 simp only[a]at this
 exact this
theorem Ik(d:Int)(b:0<=d)(c:d<16)(w:World):(Instr.index 9 (.string ⟨#[48,49,50,51,52,53,54,55,56,57,97,98,99,100,101,102,103,104,105,106,107,108,109,110,111,112,113,114,115,116,117,118,119,120,121,122]⟩) (.int .u64 d)).run Tryz.prog w= .ok (.int .u8 (lc d)) w:=by
 have a:d.toNat<D36.size:=by simp only[D36];show d.toNat<36;omega
 have e:=agq d b c a
 have f:d<36:=by omega
 go_simp
 exact e
structure Rw (B:Nat) (w:World) (u r:Nat):Prop where
 ex:∃arr,w.heap[B]?=some (.cells arr 238 (0,0))/\arr.size=65/\∀j,j<r->arr[64-j]?=some (.int .u8 (zF u j))
theorem Rw.step{a:Nat}{w:World}{u r:Nat}(d:Rw a w u r)(k:r<65)(x:Int)(h:x=zF u r):Rw a (w.setCell ⟨a,64-r,none⟩ (.int .u8 x)) u (r+1):=by
 obtain⟨i,e,f,g⟩:=d.ex
 refine⟨_,bI w a (64-r) _ _ _ e,by simp[f],fun b j=>?_⟩
 rw[Array.getElem?_setIfInBounds]
 by_cases c:b=r
 ·subst c;rw[ab rfl,ab (by omega),h]
 ·rw[aa (by omega)];exact g b (by omega)
theorem Rw.conv{a:Nat}{w:World}{u:Nat}(d:Rw a w u 16):(convert 22 9 (.slice (some ⟨a,49,none⟩) 16 16)).run Tryz.prog w= .ok (.string (eI ((List.range 16).map fun j=>zF u (15-j)))) w:=by
 obtain⟨k,e,l,f⟩:=d.ex
 rw[BI w 22 9 5 _ _ _ Tryz.underlying22 Tryz.underlying5 Tryz.underlying9]
 refine run_bytesToString w _ 16 16 _ ?_
 have:=run_loadCells_list (P:=Tryz.prog) w ⟨a,49,none⟩ (B8 ((List.range 16).map fun j=>zF u (15-j))) (fun j i b=>by
  have h:j<16:=by
   rcases ci j 16 with g|g
   ·exact g
   ·rw[iC (by simpa [B8] using g)]at b;cases b
  have c:i= .int .u8 (zF u (15-j)):=by
   simp[B8,h]at b
   exact b.symm
  subst c
  rw[show(⟨a,49,none⟩:Addr).add j=⟨a,49+j,none⟩ by unfold Addr.add;split<;>simp_all,au _ _ _ _ _ _ e]
  have:=f (15-j) (by omega)
  rw[show 64-(15-j)=49+j by omega]at this
  exact this)
 exact this
theorem adK(u:Nat)(a3:9223372036854775808<=u)(a4:u<18446744073709551616)(w:World)(x:w.cell? ⟨9,15,none⟩=some (.int .u8 4)):Calls Tryz.prog 187 #[.slice none 0 0,.int .u64 (u:Int),.int .i64 16,.bool false,.bool false] w fun e l=>e= .returned (.tuple #[.slice none 0 0,.string (eI ((List.range 16).map fun j=>zF u (15-j)))])/\Below w.heap.size w l:=by
 have F:=sF w _ x
 have ap:∀k,Calls Tryz.prog 221 #[.int .u64 16] (w.alloc k) fun e l=>e= .returned (.int .i64 4)/\l=w.alloc k:=fun k=>tz _ ((lL (((ag w.heap.size w).alloc (ah _) k)) F).trans x)
 have B:Rw w.heap.size (w.alloc (.cells Tryz.zeroCells238 238)) u 0:=⟨_,ay w _,by kernel_rfl,fun j a9=>by omega⟩
 have y:Below w.heap.size w (w.alloc (.cells Tryz.zeroCells238 238)):=(ag _ w).alloc (ah _) _
 obtain⟨m,n⟩:∃m,(List.range 16).map (fun j=>zF u (15-j))=m:=⟨_,rfl⟩
 rw[n]
 have I:Hid ((List.range 16).map (fun j=>zF u (15-j))=m):=n
 clear n
 go_in
 go_wp2_with (first|(go_at_call 220;refine(p2 _).mono ?_;rintro e l ⟨rfl,rfl⟩)|(go_at_call 221;refine dj (ap _) ?_))
 generalize w.alloc (.cells Tryz.zeroCells238 238)=av at B y
 go_loopw [1,13] (fun ar s wr=>∃(r:Nat) (a:Int),r<=15/\s= .int .i64 (65-(r:Int))/\ar= .int .u64 a/\Hid (a=((u / 16 ^ r:Nat):Int))/\Rw w.heap.size wr u r/\Below w.heap.size w wr) (fun _ s _=>(intOf s).toNat)
 case atStart=>exact⟨0,(u:Int),by omega,rfl,rfl,by show(u:Int)=_;simp,B,y⟩
 case round=>
  obtain⟨r,a,ba,rfl,rfl,b,o,C⟩:=hrel
  obtain⟨a0,d,a2,v⟩:=o.ex
  have a5:w.heap.size<wr.heap.size:=aw d
  have p:0<=a:=by rw[b.out];exact Int.natCast_nonneg _
  have ad:a<18446744073709551616:=by
   rw[b.out]
   have:=Nat.div_le_self u (16 ^ r)
   omega
  have z:0<=a%16:=by omega
  have A:a%16<16:=by omega
  have h:Hid (lc (a%16)=zF u r):=by show _=_;unfold zF;rw[b.out];rfl
  by_cases F:r<15
  ·have ao:16<=a:=by
    rw[b.out]
    have K:16 ^ (r+1)<=16 ^ 15:=Nat.pow_le_pow_right (by omega) (by omega)
    have t:16 ^ 15=1152921504606846976:=by decide
    have a1:16<=u / 16 ^ r:=by
     rw[Nat.le_div_iff_mul_le (Nat.pow_pos (by omega))]
     rw[Nat.pow_succ]at K
     omega
    omega
   have J:Hid (a / 16=((u / 16 ^ (r+1):Nat):Int)):=by
    show _=_
    rw[b.out,Nat.pow_succ,<-Nat.div_div_eq_div_mul]
    rfl
   have af:bits .and .u64 a 15=a%16:=afw a p ad
   have E:=fun w=>Ik (a%16) z A w
   generalize a%16=D at z A af E h
   obtain⟨c,L⟩:∃c:Nat,64-r=c:=⟨_,rfl⟩
   have ak:∃g,wr.cell? ⟨w.heap.size,c,none⟩=some g:=by
    rw[au _ _ _ _ _ _ d]
    exact⟨_,qF (by omega)⟩
   obtain⟨g,am⟩:=ak
   have an:wr.frozen? ⟨w.heap.size,c,none⟩=false:=cA _ _ _ _ _ d
   have f:=o.step (by omega) (lc D) h
   rw[L]at f
   obtain⟨i,q⟩:∃i:Int,65-(r:Int)=i:=⟨_,rfl⟩
   have a6:i-1=(c:Int):=by omega
   have a7:i<=65:=by omega
   have a8:c<=64:=by omega
   have H:=aj q
   rw[q]
   clear q b v
   go_wp2
   go_roundw
   case rel=>exact⟨r+1,a / 16,by omega,by have:=H.out;congr 1;omega,rfl,J,f,C.setCell (by simp) _⟩
   case measure=>simp[intOf];omega
  ·obtain rfl:r=15:=by omega
   have G:a<16:=by
    rw[b.out]
    have t:16 ^ 15=1152921504606846976:=by decide
    rw[t]
    omega
   have E:=fun w=>Ik a p G w
   rw[Int.emod_eq_of_lt p G]at h
   obtain⟨g,am⟩:∃g,wr.cell? ⟨w.heap.size,49,none⟩=some g:=by
    rw[au _ _ _ _ _ _ d]
    exact⟨_,qF (by omega)⟩
   have an:wr.frozen? ⟨w.heap.size,49,none⟩=false:=cA _ _ _ _ _ d
   have f:Rw w.heap.size (wr.setCell ⟨w.heap.size,49,none⟩ (.int .u8 (lc a))) u 16:=o.step (r:=15) (by omega) (lc a) h
   have al:=f.conv
   rw[I.out]at al
   have ao:¬16<=a:=by omega
   clear b v f
   go_wp2
   go_ret2
   exact⟨rfl,C.setCell (by simp) _⟩
theorem aaD(u:Nat)(d:9223372036854775808<=u)(f:u<18446744073709551616)(w:World)(c:w.cell? ⟨9,15,none⟩=some (.int .u8 4)):Calls Tryz.prog 216 #[.int .u64 (u:Int),.int .i64 16] w fun e b=>e= .returned (.string (eI ((List.range 16).map fun j=>zF u (15-j))))/\Below w.heap.size w b:=by
 have a:=adK u d f w c
 generalize eI ((List.range 16).map fun j=>zF u (15-j))=h at a
 generalize (u:Int)=i at a
 go_in
 go_wp2_with (go_at_call 187;refine a.mono ?_;rintro e b ⟨rfl,g⟩)
 go_ret
 exact⟨rfl,g⟩
theorem adL(u:Nat)(d:9223372036854775808<=u)(f:u<18446744073709551616)(w:World)(c:w.cell? ⟨9,15,none⟩=some (.int .u8 4)):Calls Tryz.prog 182 #[.int .u64 (u:Int),.int .i64 16] w fun e b=>e= .returned (.string (eI ((List.range 16).map fun j=>zF u (15-j))))/\Below w.heap.size w b:=by
 have a:=aaD u d f w c
 generalize eI ((List.range 16).map fun j=>zF u (15-j))=h at a
 generalize (u:Int)=i at a
 go_in
 go_wp2_with (go_at_call 216;refine a.mono ?_;rintro e b ⟨rfl,g⟩)
 go_ret
 exact⟨rfl,g⟩
theorem yq(a b:List Int):eI (a++b)=eI a++eI b:=by
 have h:∀(d:List Int)(c:ByteArray),d.foldl (fun e f=>e.push (UInt8.ofNat f.toNat)) c=c++d.foldl (fun e f=>e.push (UInt8.ofNat f.toNat)) ByteArray.empty:=by
  intro d
  induction d with
  |nil=>intro c;simp
  |cons a e g=>
   intro c
   rw[mK,mK,g (c.push _),g (ByteArray.empty.push _)]
   apply mG
   simp[ByteArray.push,iB]
 unfold eI
 rw[List.foldl_append]
 exact h b _
theorem ad0(u:Nat):hxO u 16=⟨#[48,120]⟩++eI ((List.range 16).map fun j=>zF u (15-j)):=by
 have c:∀a,hxO u a=⟨#[48,120]⟩++eI ((List.range a).map fun j=>zF u (15-j)):=by
  intro a
  induction a with
  |zero=>rfl
  |succ a b=>rw[hxO,b,List.range_succ,dm,yq,be];rfl
 exact c 16
theorem Ei(n:Int)(m: -9223372036854775808<=n)(o:n<0)(w:World)(f:w.cell? ⟨9,15,none⟩=some (.int .u8 4)):Calls Tryz.prog 138 #[.int .i64 n] w fun e d=>e= .returned (.string (hxO (n+18446744073709551616).toNat 16))/\Below w.heap.size w d:=by
 obtain⟨a,i⟩:∃a:Nat,(a:Int)=n+18446744073709551616:=⟨(n+18446744073709551616).toNat,by omega⟩
 rw[show(n+18446744073709551616).toNat=a by omega,ad0]
 have c:=adL a (by omega) (by omega) w f
 have j:IntKind.u64.wrap n=(a:Int):=by rw[IntKind.wrap_u64];omega
 have h:(eI ((List.range 16).map fun b=>zF a (15-b))).size=16:=rfl
 generalize eI ((List.range 16).map fun b=>zF a (15-b))=k at c h
 generalize (a:Int)=l at c j
 clear i
 go_in
 go_wp2_with (go_at_call 182;refine c.mono ?_;rintro e d ⟨rfl,g⟩)
 go_ret
 exact⟨rfl,g⟩
def se(d:List UInt8):List Int:=d.map fun a=>(a.toNat:Int)
theorem uz(d:List UInt8):eI (se d)=⟨d.toArray⟩:=by
 have g:∀(d:List UInt8)(a:ByteArray),(se d).foldl (fun c h=>c.push (UInt8.ofNat h.toNat)) a=⟨a.data++d.toArray⟩:=by
  intro d
  induction d with
  |nil=>intro a;simp[se]
  |cons b c f=>
   intro a
   show(se c).foldl _ (a.push (UInt8.ofNat ((b.toNat:Int)).toNat))=_
   rw[f]
   have e:UInt8.ofNat ((b.toNat:Int)).toNat=b:=by simp
   rw[e]
   simp[ByteArray.push]
 have:=g d ByteArray.empty
 unfold eI
 rw[this]
 simp
def pre(c:Nat):List Int:=if c=0 then [] else se (Lib.decDigits c)
theorem aaE(c:Nat)(e:c≠0):pre c=pre (c / 10)++[48+((c%10:Nat):Int)]:=by
 have d:∀b,b<10->(((UInt8.ofNat (48+b)).toNat:Nat):Int)=48+(b:Int):=fun b f=>by
  rw[UInt8.toNat_ofNat',Nat.mod_eq_of_lt (by omega)];omega
 unfold pre
 rw[aa e]
 by_cases a:c<10
 ·rw[ab (by omega),Lib.decDigits,pc a,Nat.mod_eq_of_lt a]
  show [(((UInt8.ofNat (48+c)).toNat:Nat):Int)]=_
  rw[d c a];rfl
 ·rw[aa (by omega),Lib.decDigits,dif_neg a]
  show List.map _ (_++_)=_
  rw[dm]
  show se (Lib.decDigits (c / 10))++[(((UInt8.ofNat (48+c%10)).toNat:Nat):Int)]=_
  rw[d _ (by omega)]
theorem Af(N:Nat)(a2:N≠0)(bv:N<=9223372036854775807)(w:World):Calls Tryz.prog 168 #[.int .i64 (N:Int)] w fun e bo=>e= .returned (.string ⟨(Lib.decDigits N).toArray⟩)/\Below w.heap.size w bo:=by
 obtain⟨g,A⟩:∃g:Int,(N:Int)=g:=⟨_,rfl⟩
 rw[A]
 have b3:0<g:=by omega
 have bf:g<=9223372036854775807:=by omega
 have b5:(g==0)=false:=by rw[cJ];omega
 have b4:¬g<0:=by omega
 have an:=aj A
 clear A
 go_in
 go_wp2_with fail
 go_loopw [0,4,5] (fun E bn b6 wr=>∃(c:Int) (a:List Int),E= .int .i64 c/\0<=c/\c<=9223372036854775807/\Hid (c.toNat<10 ^ (19-a.length)/\a.length<=19/\se (Lib.decDigits N)=pre c.toNat++a.reverse)/\wr.ownsRow w.heap.size 5 1 bn a.length (B8 a)/\Below w.heap.size w wr) (fun E _ _ _=>(intOf E).toNat)
 case atStart=>
  refine⟨g,[],rfl,by omega,bf,⟨?_,by simp,?_⟩,dy _ _ _ _,ag _ _⟩
  ·have:(10:Nat) ^ (19-([]:List Int).length)=10000000000000000000:=by decide
   rw[this];omega
  ·rw[show g.toNat=N by have:=an.out;omega];unfold pre;rw[aa a2];simp
 case round=>
  obtain⟨c,a,rfl,br,bs,l,q,o⟩:=hrel
  by_cases u:c=0
  ·subst u
   obtain⟨_,L,K⟩:=l.out
   have x:se (Lib.decDigits N)=a.reverse:=K
   have z:0<a.length:=by
    have e:=congrArg List.length x
    rw[BF]at e
    have:0<(se (Lib.decDigits N)).length:=by
     rw[Lib.decDigits]
     split<;>simp[se]
    omega
   have F:Hid (eI a.reverse=⟨(Lib.decDigits N).toArray⟩):=by show _=_;rw[<-x,uz]
   rcases q.2 with⟨h,bc⟩|⟨t,ap,bt,al,bF,y,_,a9,m,ak⟩
   ·have:a=[]:=by
     have bw:(B8 a).length=a.length:=LB a
     have:=q.1
     simp at bc
     omega
    rw[this]at z;simp at z
   ·have v:∀k,k<a.length->wr.cell? ⟨t,k,none⟩=some (.int .u8 (a.getD k 0)):=fun k a8=>by
     rw[au _ _ _ _ _ _ y]
     have f:(B8 a)[k]?=some (.int .u8 (a.getD k 0)):=by simp[B8,a8,List.getD]
     rw[<-ak,iE]at f
     split at f
     ·simpa using f
     ·cases f
    have a6:t<wr.heap.size:=aw y
    obtain⟨d,n⟩:=aE a.length
    rw[n]at z L v al
    subst al
    clear l K x q y ak m a9
    have ad:∀b,b<d->a.reverse.take (b+1)=a.reverse.take b++[a.getD (d-1-b) 0]:=fun b B=>by
     have e:a.reverse[b]?=some (a.getD (d-1-b) 0):=by
      rw[List.getElem?_reverse (by omega),List.getD,n,aF (by omega)]
      rfl
     rw[gv,e];rfl
    have m:∀b,b<=d->(eI (a.reverse.take b)).size=b:=fun b B=>by
     have:∀j:List Int,(eI j).size=j.length:=by
      intro j
      induction j with
      |nil=>rfl
      |cons I J bd=>rw[show I::J=[I]++J from rfl,yq,ax,bd,aD];rfl
     rw[this,dt,BF];omega
    have H:=aj ad
    have am:=aj n
    clear ad n
    go_wp2_with fail
    go_loopw [6,7] (fun bl C wq=>∃b:Nat,b<=d/\C= .int .i64 ((d:Int)-1-(b:Int))/\bl= .string (eI (a.reverse.take b))/\Below wr.heap.size wr wq) (fun _ C _=>(intOf C+1).toNat)
    case atStart=>exact⟨0,by omega,by first|rfl|(congr 1;omega),rfl,ag _ _⟩
    case round=>
     obtain⟨b,B,rfl,rfl,p⟩:=hrel
     have af:=m b B
     by_cases bb:b<d
     ·obtain⟨i,a3⟩:∃i:Nat,d-1-b=i:=⟨_,rfl⟩
      have a5:=(lL p a6).trans (v i (by omega))
      have s:=H.out b bb
      rw[a3]at s
      have r:Hid (eI (a.reverse.take b)++eI [a.getD i 0]=eI (a.reverse.take (b+1))):=by show _=_;rw[s,yq]
      generalize a.getD i 0=j at a5 r
      have bD:=fun w=>jx (qJ w j)
      have b2:(eI [j]).size=1:=rfl
      have a7:(d:Int)-1-(b:Int)=(i:Int):=by omega
      have bx:i<d:=by omega
      generalize eI (a.reverse.take b)=bk at af r⊢
      rw[a7]
      clear m s v
      go_wp2
      go_roundw
      case rel=>exact⟨b+1,by omega,by first|rfl|(congr 1;omega),by rw[r.out],p.alloc p.size _⟩
      case measure=>simp[intOf]
     ·obtain rfl:b=d:=by omega
      have b1:¬(0:Int)<=(b:Int)-1-(b:Int):=by omega
      rw[bH (by rw[BF,am.out];exact ah _)]
      have G:=F.out
      generalize eI a.reverse=bk at G⊢
      subst G
      clear af m F H
      go_wp2
      go_ret
      exact⟨rfl,o.trans (p.mono o.size)⟩
  ·have bE:(c==0)=false:=by rw[cJ];exact u
   have bA:(c !=0)=true:=by rw[lq];exact u
   have b0:¬c%10<0:=by omega
   have L:a.length<=18:=by
    obtain⟨f,ar,_⟩:=l.out
    rcases ci a.length 19 with h|h
    ·omega
    ·rw[show 19-a.length=0 by omega]at f;simp at f;omega
   have ao:Hid ((c / 10).toNat<10 ^ (19-(a++[48+c%10]).length)/\(a++[48+c%10]).length<=19/\se (Lib.decDigits N)=pre (c / 10).toNat++(a++[48+c%10]).reverse):=by
    obtain⟨f,ar,av⟩:=l.out
    have a1:(a++[48+c%10]).length=a.length+1:=by simp
    refine⟨?_,by omega,?_⟩
    ·rw[a1]
     have a0:10 ^ (19-a.length)=10 ^ (19-(a.length+1))*10:=by rw[<-Nat.pow_succ];congr 1;omega
     rw[a0]at f
     have:(c / 10).toNat=c.toNat / 10:=by omega
     rw[this]
     omega
    ·rw[av,aaE c.toNat (by omega),show(c / 10).toNat=c.toNat / 10 by omega,show((c.toNat%10:Nat):Int)=c%10 by omega]
     simp
   clear l
   go_wp2_with (at_builtin;refine gH rfl (.tmp 20) (.tmp 24) rfl w.heap.size u4 a.length a rfl q o.size (by omega) [48+c%10] 1 rfl (by decide) (by decide) _ rfl rfl ?_;intro t ap w1 ba a4)
   go_roundw
   case rel=>exact⟨c / 10,a++[48+c%10],by first|rfl|(congr 1;omega),by omega,by omega,ao,by rw[aD];exact ba,o.trans (a4.mono (by omega))⟩
   case measure=>simp[intOf];omega
structure Lm (w:World):Prop where
 tabs:wj w
 errs:mC w
 pow:Lib.TabIs Tryz.prog w "internal/strconv.uint64pow10" .u64 Lib.pow10Tab
 brj:w.cell? ⟨9,15,none⟩=some (.int .u8 4)
theorem AI{P:Program}{w d:World}{c:Nat}{n:String}{cs:Array Value}(a:w.var? P n=some cs)(f:Below c w d)(e:w.heap.size<=c):d.var? P n=some cs:=by
 unfold World.var? at a⊢
 cases hg:P.globalNamed n with
 |none=>simp[hg]at a
 |some b=>
  simp only[hg,BA]at a⊢
  have g:b<w.heap.size:=by
   rcases ci b w.heap.size with h'|h'
   ·exact h'
   ·simp[wJ h']at a
  rw[f.block b (fi g e)]
  exact a
theorem Lm.below{w e:World}{d:Nat}(a:Lm w)(c:Below d w e)(b:w.heap.size<=d):Lm e:=
 ⟨a.tabs.below c b,a.errs.below c b,AI a.pow c b,(lL c (fi (sF w _ a.brj) b)).trans a.brj⟩
theorem aaF(w:World)(q:Nat)(os:Array Obj):Below w.heap.size w (Sort.grow (w.drewN q) os):=
 ⟨rfl,rfl,rfl,by show w.heap.size<=(w.heap++os).size;simp,fun b a=>by show(w.heap++os)[b]?=_;rw[Array.getElem?_append_left a]⟩
def wu(n:Int):ByteArray:=if n<0 then hxO (n+18446744073709551616).toNat 16 else⟨(Lib.decDigits n.toNat).toArray⟩
theorem J1(N:Nat)(b:N<=9223372036854775807)(w:World):Calls Tryz.prog 168 #[.int .i64 (N:Int)] w fun e c=>e= .returned (.string ⟨(Lib.decDigits N).toArray⟩)/\Below w.heap.size w c:=by
 by_cases a:N=0
 ·subst a
  have e:(⟨(Lib.decDigits 0).toArray⟩:ByteArray)=⟨#[48]⟩:=by rw[Lib.decDigits,pc (by omega)];rfl
  rw[e]
  show Calls Tryz.prog 168 #[.int .i64 0] w _
  go_in
  go_wp2
  go_ret
  exact⟨rfl,ag _ _⟩
 ·exact Af N a b w
theorem AJ(n:Int)(d: -9223372036854775808<=n)(h:n<=9223372036854775807)(w:World):Calls Tryz.prog 112 #[.int .i64 n] w fun e a=>e= .returned (.string (wu n))/\Below w.heap.size w a:=by
 unfold wu
 by_cases b:n<0
 ·rw[ab b];exact J0 n d b w
 ·rw[aa b]
  have c:∀w,Calls Tryz.prog 168 #[.int .i64 n] w fun e a=>e= .returned (.string ⟨(Lib.decDigits n.toNat).toArray⟩)/\Below w.heap.size w a:=fun w=>by
   have:=J1 n.toNat (by omega) w
   rw[show((n.toNat:Nat):Int)=n by omega]at this
   exact this
  generalize (⟨(Lib.decDigits n.toNat).toArray⟩:ByteArray)=g at c
  have i:0<=n:=by omega
  go_in
  go_wp2_with (go_at_call 168;refine(c _).mono ?_;rintro e a ⟨rfl,f⟩)
  go_ret
  exact⟨rfl,f⟩
theorem Ej(n:Int)(c: -9223372036854775808<=n)(g:n<=9223372036854775807)(w:World)(d:Lm w):Calls Tryz.prog 138 #[.int .i64 n] w fun e b=>e= .returned (.string (wu n))/\Below w.heap.size w b:=by
 unfold wu
 by_cases a:n<0
 ·rw[ab a];exact Ei n c a w d.brj
 ·rw[aa a]
  have f:Calls Tryz.prog 87 #[.int .i64 n,.int .i64 10] w fun e b=>e= .returned (.string ⟨(Lib.decDigits n.toNat).toArray⟩)/\Below w.heap.size w b:=by
   refine(Tryz.strconv_FormatInt_10 n c g w d.pow).mono ?_
   rintro e b ⟨rfl,k,l,rfl⟩
   refine⟨by unfold Lib.itoa;rw[aa a],aaF _ _ _⟩
  generalize (⟨(Lib.decDigits n.toNat).toArray⟩:ByteArray)=i at f
  have j:¬n<0:=a
  go_in
  go_wp2_with (go_at_call 87;refine f.mono ?_;rintro e b ⟨rfl,h⟩)
  go_ret
  exact⟨rfl,h⟩
def wdP(s:ByteArray)(p:Nat):Int×ByteArray:=match td ej (s.extract p (pK s (s.size+1) p)) 22 0 with|some a=>(10+(a:Int),⟨#[]⟩)|none=>(1,s.extract p (pK s (s.size+1) p))
theorem aig(s:ByteArray)(p:Nat):wdT s p= .agg #[.int .i64 (wdP s p).1,.int .i64 p,.int .i64 (pK s (s.size+1) p),.int .i64 0,.int .i64 0,.string (wdP s p).2]:=by
 unfold wdT wdP
 cases td ej (s.extract p (pK s (s.size+1) p)) 22 0<;>rfl
theorem Il(s:ByteArray)(a b i:Nat)(d:b<=s.size)(e:a+i<b:=by omega):aG (s.extract a b) i=aG s (a+i):=by
 rw[pj,pj]
 have c:(s.extract a b).data.toList=(s.data.toList.drop a).take (b-a):=by rw[<-gc,Lib.extract_toList]
 rw[c,iE,ab (by omega),mF]
theorem aaG(s:ByteArray)(a b:Nat)(c:b<=s.size):(s.extract a b).size=b-a:=by rw[lj];omega
def Gf(s:ByteArray)(p:Nat):Int×Int×ByteArray:=
 if aG s p=48/\aG s (p+1)=120 then(2,wrap64 (uu s (p+2) ((fp s p).1-(p+2)):Int),⟨#[]⟩)
 else match (if Ll s p=true then none else wm s p ((fp s p).1-p)) with
  |some a=>(2,(a:Int),⟨#[]⟩)
  |none=>(3,0,s.extract p (fp s p).1)
theorem agr(s:ByteArray)(p:Nat)(a:(fp s p).2=true):wt s p= .agg #[.int .i64 (Gf s p).1,.int .i64 p,.int .i64 ((fp s p).1:Int),.int .i64 0,.int .i64 (Gf s p).2.1,.string (Gf s p).2.2]/\tu s p= -1:=by
 unfold wt tu Gf
 by_cases b:aG s p=48/\aG s (p+1)=120
 ·have c:fp s p=lu s (p+2):=by unfold fp;rw[ab b]
  rw[c]at a⊢
  simp only[ab b]
  unfold hxA hxF
  rw[ab a,ab a]
  exact⟨rfl,rfl⟩
 ·have c:fp s p=mB s (nA1 s (nA0 s p)):=by unfold fp;rw[aa b]
  rw[c]at a⊢
  simp only[aa b]
  unfold nmA nmF
  rw[ab a,ab a]
  cases Ll s p with
  |true=>exact⟨rfl,rfl⟩
  |false=>
   simp only[aa (show ¬false=true by simp)]
   cases wm s p ((mB s (nA1 s (nA0 s p))).1-p)<;>exact⟨rfl,by trivial⟩
theorem Ek(s:ByteArray)(p:Nat)(a:(fp s p).2=false):tu s p=((fp s p).1:Int):=by
 unfold tu
 by_cases b:aG s p=48/\aG s (p+1)=120
 ·have c:fp s p=lu s (p+2):=by unfold fp;rw[ab b]
  rw[c]at a⊢
  rw[ab b]
  unfold hxF
  rw[aa (by rw[a];simp)]
 ·have c:fp s p=mB s (nA1 s (nA0 s p)):=by unfold fp;rw[aa b]
  rw[c]at a⊢
  rw[aa b]
  unfold nmF
  rw[aa (by rw[a];simp)]
def J2(V:Array Value)(base:Int)(r:ByteArray):Nat->Nat->Int×Nat->Int×Nat
 |0,_,a=>a
 |f+1,i,a=>J2 V base r f (i+1) (if a.2<(cC V i).size/\Lib.hasPrefix r.data.toList (cC V i).data.toList=true then(base+(i:Int),(cC V i).size) else a)
def uA(r:ByteArray):Int:=if aG r 0=59 then 5 else if aG r 0=10 then 7 else(J2 ut 61 r 18 0 (J2 mz 40 r 11 0 (0,0))).1
theorem wj.setCell{w:World}(e:wj w){a:Addr}(l:12<=a.block)(v:Value):wj (w.setCell a v):=by
 obtain⟨⟨i,b,f⟩,⟨j,c,g⟩,⟨k,d,h⟩⟩:=e
 exact⟨⟨i,b,(aK w a _ v (by omega)).trans f⟩,⟨j,c,(aK w a _ v (by omega)).trans g⟩,⟨k,d,(aK w a _ v (by omega)).trans h⟩⟩
theorem wj.drewN{w:World}(a:wj w)(n:Nat):wj (w.drewN n):=⟨a.word,a.mark,a.bin⟩
theorem Gg(V:Array Value)(base:Int)(r:ByteArray)(d:0<=base)(N:Int):∀(f i:Nat)(a:Int×Nat),0<=a.1->a.1<=N->base+((i+f:Nat):Int)<=N+1->0<=(J2 V base r f i a).1/\(J2 V base r f i a).1<=N
 |0,i,a,b,c,_=>⟨b,c⟩
 |f+1,i,a,b,c,e=>by
  unfold J2
  refine Gg V base r d N f (i+1) _ ?_ ?_ (by omega)
  ·split
   ·simp only;omega
   ·exact b
  ·split
   ·simp only;omega
   ·exact c
theorem ags(r:ByteArray):0<=uA r/\uA r<=78:=by
 unfold uA
 split
 ·omega
 split
 ·omega
 have a:=Gg mz 40 r (by omega) 50 11 0 (0,0) (by simp) (by simp) (by simp)
 exact Gg ut 61 r (by omega) 78 18 0 _ a.1 (by omega) (by simp)
structure Rd where
 ok:Bool
 a:Nat
 d:Int
 k:Int
 n:Int
 x:ByteArray
def fh(s:ByteArray)(p:Nat):Rd:=
 if cD (aG s p)=true then⟨true,pK s (s.size+1) p,0,(wdP s p).1,0,(wdP s p).2⟩
 else if cL (aG s p)=true then(if(fp s p).2=true then⟨true,(fp s p).1,0,(Gf s p).1,(Gf s p).2.1,(Gf s p).2.2⟩ else⟨false,(fp s p).1,0,0,0,ByteArray.empty⟩)
 else if aG s p=34 then(if(ic s (s.size+1) (p+1) []).1=true then⟨true,(ic s (s.size+1) (p+1) []).2.1,0,4,0,eI (ic s (s.size+1) (p+1) []).2.2⟩ else⟨false,(ic s (s.size+1) (p+1) []).2.1,0,0,0,ByteArray.empty⟩)
 else if uA (s.extract p s.size)=0 then⟨false,p,0,0,0,ByteArray.empty⟩ else⟨true,p+(mA (uA (s.extract p s.size))).size,if uA (s.extract p s.size)=7 then 1 else 0,uA (s.extract p s.size),0,ByteArray.empty⟩
