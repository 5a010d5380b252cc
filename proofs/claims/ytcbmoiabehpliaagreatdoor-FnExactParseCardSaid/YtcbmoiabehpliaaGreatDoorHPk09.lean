import Derived.Test.YtcbmoiabehpliaaGreatDoorHPk01
import Derived.Test.YtcbmoiabehpliaaGreatDoorHPk08
import Derived.BigQuiet
import Derived.Test.YtcbmoiabehpliaaGreatDoorHPk02
set_option linter.unusedVariables false
set_option maxRecDepth 100000
set_option maxHeartbeats 3200000
namespace Go.Proofs.YtcbmoiabehpliaaGreatDoor
open Go.RowKit
theorem dr{B:Nat}{a w:World}(h:Below B a w)(n:Nat):Below B a (w.drewN n):=⟨h.os,h.tape,h.output,h.size,h.block⟩
theorem aE{B:Nat}{a w:World}(h:Below B a w):Below B a w.drew:=⟨h.os,h.tape,h.output,h.size,h.block⟩
theorem pK(w:World)(j k:Value)(l:List ByteArray)(i:aH w j l)(g:aH w k l)(s:l.length<=1048576):
  Calls Tryz.prog 143 #[j,k] w fun e q=>e= .returned (.bool true)/\Below w.heap.size w q:=by
 obtain⟨n,t,rfl⟩:=i.form;obtain⟨r,o,rfl⟩:=g.form;obtain⟨b,c⟩:=ah l.length;have p:=ab c;have m:Hid (aH w (.slice n b t) l/\aH w (.slice r b o) l):=by rw[<-c];exact⟨i,g⟩
 rw[c]at s⊢;clear i g c;go_in;go_wp2_with fail;go_loopw [5] (fun h wr=>∃a:Nat,a<=b/\h= .int .i64 a/\Below w.heap.size w wr) (fun h _=>b-(intOf h).toNat)
 case atStart=>exact⟨0,by omega,rfl,Below.refl _ _⟩
 case round=>
  obtain⟨a,v,rfl,d⟩:=hrel;by_cases u:a<b
  ·obtain⟨z,f⟩:=aF p.out u;obtain⟨y,rfl,C⟩:=(m.out.1.below d).get f;obtain⟨A,rfl,B⟩:=(m.out.2.below d).get f;have E:(a:Int)<(b:Int):=by omega
   have x:(0:Int)<=(a:Int):=by omega
   clear f;go_wp2_with fail;go_quiet (fail)
   go_wp2_with fail;exact⟨⟨a+1,by omega,by go_num,dr d _⟩,by simp[intOf];omega⟩
  ·obtain rfl:a=b:=by omega
   go_wp2_with fail;go_ret;exact⟨rfl,d⟩
theorem vW(w:World)(j k:Value)(l:List Int)(i:aV w j l)(g:aV w k l)(s:l.length<=1048576):
  Calls Tryz.prog 144 #[j,k] w fun e q=>e= .returned (.bool true)/\Below w.heap.size w q:=by
 obtain⟨n,t,rfl⟩:=i.form;obtain⟨r,o,rfl⟩:=g.form;obtain⟨b,c⟩:=ah l.length;have p:=ab c;have m:Hid (aV w (.slice n b t) l/\aV w (.slice r b o) l):=by rw[<-c];exact⟨i,g⟩
 rw[c]at s⊢;clear i g c;go_in;go_wp2_with fail;go_loopw [5] (fun h wr=>∃a:Nat,a<=b/\h= .int .i64 a/\Below w.heap.size w wr) (fun h _=>b-(intOf h).toNat)
 case atStart=>exact⟨0,by omega,rfl,Below.refl _ _⟩
 case round=>
  obtain⟨a,v,rfl,d⟩:=hrel;by_cases u:a<b
  ·obtain⟨z,f⟩:=aF p.out u;obtain⟨y,rfl,C⟩:=(m.out.1.below d).get f;obtain⟨A,rfl,B⟩:=(m.out.2.below d).get f;have E:(a:Int)<(b:Int):=by omega
   have x:(0:Int)<=(a:Int):=by omega
   clear f;go_wp2_with fail;go_quiet (fail)
   go_wp2_with fail;exact⟨⟨a+1,by omega,by go_num,dr d _⟩,by simp[intOf];omega⟩
  ·obtain rfl:a=b:=by omega
   go_wp2_with fail;go_ret;exact⟨rfl,d⟩
theorem vX(w:World)(N:Nd)(H F G A:Value)(z:aH w H N.nm)(E:aV w F N.ks)(n2:aH w G N.nm)(I:aV w A N.ks)(Q:N.nm.length<=1048576)(L:N.ks.length<=1048576):
  Calls Tryz.prog 74 #[bu N H F,bu N G A] w fun e R=>e= .returned (.bool true)/\Below w.heap.size w R:=by
 have u:∀m n,Below w.heap.size w ((w.alloc m).alloc n):=fun m n=>((Below.refl _ w).alloc (Nat.le_refl _) m).alloc (by simp) n;have ks:=fun m n=>pK ((w.alloc m).alloc n) H G N.nm (z.below (u m n)) (n2.below (u m n)) Q;have K:=fun M (O:Below w.heap.size w M)=>vW M F A N.ks (E.below O) (I.below O) L;obtain⟨q,t,rfl⟩:=z.form;obtain⟨s,r,rfl⟩:=n2.form;obtain⟨k,l,rfl⟩:=E.form;obtain⟨o,p,rfl⟩:=I.form;unfold bu;generalize N.nm.length=g at ks⊢;generalize N.ks.length=a at K⊢;clear z E n2 I Q L;obtain⟨i,h,c,f,j,b,d,af,V⟩:=N;simp only;go_in;go_wp2_with fail;have y:((w.alloc (.cells #[.int .i64 i,.int .i64 h,.int .i64 c,.int .i64 f,.int .i64 j,.int .i64 b,.string d,.slice q g t,.slice k a l] 69)).alloc (.cells #[.int .i64 i,.int .i64 h,.int .i64 c,.int .i64 f,.int .i64 j,.int .i64 b,.string d,.slice s g r,.slice o a p] 69)).cell? ⟨w.heap.size,8,none⟩=some (.slice k a l):=by
  rw[cell_of_row _ _ _ _ _ _ ((Below.heap_alloc _ _ _ (by simp)).trans (heap_alloc_new w _))];rfl
 have B:((w.alloc (.cells #[.int .i64 i,.int .i64 h,.int .i64 c,.int .i64 f,.int .i64 j,.int .i64 b,.string d,.slice q g t,.slice k a l] 69)).alloc (.cells #[.int .i64 i,.int .i64 h,.int .i64 c,.int .i64 f,.int .i64 j,.int .i64 b,.string d,.slice s g r,.slice o a p] 69)).cell? ⟨w.heap.size+1,8,none⟩=some (.slice o a p):=by
  have:=heap_alloc_new (w.alloc (.cells #[.int .i64 i,.int .i64 h,.int .i64 c,.int .i64 f,.int .i64 j,.int .i64 b,.string d,.slice q g t,.slice k a l] 69)) (.cells #[.int .i64 i,.int .i64 h,.int .i64 c,.int .i64 f,.int .i64 j,.int .i64 b,.string d,.slice s g r,.slice o a p] 69);rw[World.size_alloc]at this;rw[cell_of_row _ _ _ _ _ _ this];rfl
 have v:=u (.cells #[.int .i64 i,.int .i64 h,.int .i64 c,.int .i64 f,.int .i64 j,.int .i64 b,.string d,.slice q g t,.slice k a l] 69) (.cells #[.int .i64 i,.int .i64 h,.int .i64 c,.int .i64 f,.int .i64 j,.int .i64 b,.string d,.slice s g r,.slice o a p] 69);have C:=ks (.cells #[.int .i64 i,.int .i64 h,.int .i64 c,.int .i64 f,.int .i64 j,.int .i64 b,.string d,.slice q g t,.slice k a l] 69) (.cells #[.int .i64 i,.int .i64 h,.int .i64 c,.int .i64 f,.int .i64 j,.int .i64 b,.string d,.slice s g r,.slice o a p] 69);generalize (w.alloc (.cells #[.int .i64 i,.int .i64 h,.int .i64 c,.int .i64 f,.int .i64 j,.int .i64 b,.string d,.slice q g t,.slice k a l] 69)).alloc (.cells #[.int .i64 i,.int .i64 h,.int .i64 c,.int .i64 f,.int .i64 j,.int .i64 b,.string d,.slice s g r,.slice o a p] 69)=W at y B v C⊢;refine C.mono ?_;rintro e S ⟨rfl,x⟩;have Z:=aa x y;have Y:=aa x B;have J:=v.trans (x.mono v.size);have T:=K S J;clear y B C ks K x v u;go_wp2_with (go_at_call 144;refine T.mono ?_;rintro e X ⟨rfl,U⟩);go_ret;exact⟨rfl,J.trans (U.mono J.size)⟩
theorem tF(w:World)(Y G:Value)(l:List Nd)(o:bf w Y l)(s:bf w G l)(a0:l.length<=1048576)(F:∀N∈l,N.nm.length<=1048576/\N.ks.length<=1048576):
  Calls Tryz.prog 38 #[Y,G] w fun e b=>e= .returned (.bool true)/\Below w.heap.size w b:=by
 obtain⟨ao,br,rfl⟩:=o.form;obtain⟨a5,bl,rfl⟩:=s.form;obtain⟨g,k⟩:=ah l.length;have bn:=ab k;have W:Hid (bf w (.slice ao g br) l/\bf w (.slice a5 g bl) l):=by rw[<-k];exact⟨o,s⟩
 have av:=ab F;rw[k]at a0⊢;clear o s k F;go_in;go_wp2_with fail;go_loopw [5] (fun n wr=>∃a:Nat,a<=g/\n= .int .i64 a/\Below w.heap.size w wr) (fun n _=>g-(intOf n).toNat)
 case atStart=>exact⟨0,by omega,rfl,Below.refl _ _⟩
 case round=>
  obtain⟨a,bA,rfl,h⟩:=hrel;by_cases a3:a<g
  ·obtain⟨N,j⟩:=aF bn.out a3;obtain⟨z,y⟩:=av.out N (List.mem_of_getElem? j);obtain⟨f,rfl,a4,bh,an⟩:=(W.out.1.below h).get j;obtain⟨d,rfl,bk,ap,am⟩:=(W.out.2.below h).get j;have bs:(a:Int)<(g:Int):=by omega
   have bw:(0:Int)<=(a:Int):=by omega
   obtain⟨T,Z,p2,t,J,S,v,ak,H,m,p⟩:=an;obtain⟨E,R,x,C,U,B,O,u,K,r,q⟩:=am;have i:=vX wr.drew N a4 bh bk ap m p r q z y;obtain⟨bd,bo,rfl⟩:=m.form;obtain⟨a8,a7,rfl⟩:=r.form;obtain⟨a9,a6,rfl⟩:=p.form;obtain⟨bb,ar,rfl⟩:=q.form;unfold bu at i;clear j m p r q z y;generalize N.nm.length=X at ak u i;generalize N.ks.length=Q at H K i;obtain⟨I,af,M,A,al,L,V,bt,bx⟩:=N;simp only at T Z p2 t J S v E R x C U B O i;go_wp2_with fail;go_region_held3 (fun b=>b.cell? (f.add (a*9))=some (.int .i64 I)/\b.cell? ⟨(f.add (a*9)).block,(f.add (a*9)).off+1,none⟩=some (.int .i64 af)/\b.cell? ⟨(f.add (a*9)).block,(f.add (a*9)).off+2,none⟩=some (.int .i64 M)/\b.cell? ⟨(f.add (a*9)).block,(f.add (a*9)).off+3,none⟩=some (.int .i64 A)/\b.cell? ⟨(f.add (a*9)).block,(f.add (a*9)).off+4,none⟩=some (.int .i64 al)/\b.cell? ⟨(f.add (a*9)).block,(f.add (a*9)).off+5,none⟩=some (.int .i64 L)/\b.cell? ⟨(f.add (a*9)).block,(f.add (a*9)).off+6,none⟩=some (.string V)/\b.cell? ⟨(f.add (a*9)).block,(f.add (a*9)).off+7,none⟩=some (.slice bd X bo)/\b.cell? ⟨(f.add (a*9)).block,(f.add (a*9)).off+8,none⟩=some (.slice a9 Q a6)/\b.cell? (d.add (a*9))=some (.int .i64 I)/\b.cell? ⟨(d.add (a*9)).block,(d.add (a*9)).off+1,none⟩=some (.int .i64 af)/\b.cell? ⟨(d.add (a*9)).block,(d.add (a*9)).off+2,none⟩=some (.int .i64 M)/\b.cell? ⟨(d.add (a*9)).block,(d.add (a*9)).off+3,none⟩=some (.int .i64 A)/\b.cell? ⟨(d.add (a*9)).block,(d.add (a*9)).off+4,none⟩=some (.int .i64 al)/\b.cell? ⟨(d.add (a*9)).block,(d.add (a*9)).off+5,none⟩=some (.int .i64 L)/\b.cell? ⟨(d.add (a*9)).block,(d.add (a*9)).off+6,none⟩=some (.string V)/\b.cell? ⟨(d.add (a*9)).block,(d.add (a*9)).off+7,none⟩=some (.slice a8 X a7)/\b.cell? ⟨(d.add (a*9)).block,(d.add (a*9)).off+8,none⟩=some (.slice bb Q ar)) (first|go_keep|exact⟨aa c T,aa c Z,aa c p2,aa c t,aa c J,aa c S,aa c v,aa c ak,aa c H,aa c E,aa c R,aa c x,aa c C,aa c U,aa c B,aa c O,aa c u,aa c K⟩) ((go_at_call 74;refine i.mono ?_;rintro e bD ⟨rfl,c⟩))
   go_wp2_with fail;exact⟨⟨a+1,by omega,by go_num,(aE h).trans (c.mono h.size)⟩,by simp[intOf];omega⟩
  ·obtain rfl:a=g:=by omega
   go_wp2_with fail;go_ret;exact⟨rfl,h⟩
theorem vY(w:World)(d f:Value)(l:List Nd)(h:bf w d l)(g:bf w f l)(j:l.length<=1048576)(i:∀N∈l,N.nm.length<=1048576/\N.ks.length<=1048576):
  Calls Tryz.prog 19 #[.agg #[d],.agg #[f]] w fun e m=>e= .returned (.bool true)/\Below w.heap.size w m:=by
 have c:∀b a,Below w.heap.size w ((w.alloc b).alloc a):=fun b a=>((Below.refl _ w).alloc (Nat.le_refl _) b).alloc (by simp) a;have ks:=fun b a=>tF ((w.alloc b).alloc a) d f l (h.below (c b a)) (g.below (c b a)) j i;obtain⟨n,r,rfl⟩:=h.form;obtain⟨p,o,rfl⟩:=g.form;generalize l.length=q at ks;clear h g j i;go_in;go_wp2_with (go_at_call 38;refine(ks _ _).mono ?_;rintro e s ⟨rfl,k⟩);go_ret;exact⟨rfl,(c _ _).trans (k.mono (by simp;omega))⟩
def Iz:Nat->Nat->ByteArray->ByteArray
 |0,_,o=>o
 |f+1,c,o=>if c=0 then o else Iz f (c / 10) (kZ [48+((c%10:Nat):Int)]++o)
def vy(k:Nat):ByteArray:=⟨#[109]⟩++Iz k k ⟨#[]⟩
structure Gu (f c:Nat) (o R:ByteArray):Prop where
 out:Iz f c o=R
theorem gE(N:Nat)(x:0<N)(G:N<=100000000)(w:World):Calls Tryz.prog 75 #[.int .i64 (N:Int)] w fun e t=>e= .returned (.string (vy N))/\Below w.heap.size w t:=by
 unfold vy;obtain⟨h,j⟩:=ah (Iz N N ⟨#[]⟩);rw[j];have q:Gu N N ⟨#[]⟩ h:=⟨j⟩;clear j;have A:¬(N:Int)<=0:=by omega
 go_in;go_wp2_with fail;go_loopw [0,3] (fun i p wr=>∃(a b:Nat) (f:ByteArray),i= .int .i64 a/\p= .string f/\a<=b/\f.size+a<=N/\Gu b a f h/\Below w.heap.size w wr) (fun i _ _=>(intOf i).toNat)
 case atStart=>exact⟨N,N,⟨#[]⟩,rfl,rfl,Nat.le_refl _,by simp[ByteArray.size],q,Below.refl _ _⟩
 case round=>
  obtain⟨a,b,f,rfl,rfl,E,B,n,l⟩:=hrel;have c:=n.out;clear n;by_cases o:a=0
  ·subst o;have k:Hid (f=h):=by
    cases b with
    |zero=>exact c
    |succ b=>rw[Iz,if_pos rfl]at c;exact c
   have F:((⟨#[109]⟩:ByteArray)).size=1:=rfl;clear c;go_wp2;go_ret;exact⟨by rw[<-k.out];rfl,l⟩
  ·obtain⟨b,rfl⟩:∃s,b=s+1:=⟨b-1,by omega⟩;rw[Iz,if_neg o]at c;have v:(0:Int)<(a:Int):=by omega
   have m:((a%10:Nat):Int)=(a:Int)%10:=by omega
   rw[m]at c;obtain⟨d,g⟩:∃d:Int,(a:Int)=d:=⟨_,rfl⟩;have C:(a / 10:Nat)=(d / 10).toNat:=by omega
   have k:Gu b (a / 10) (kZ [48+d%10]++f) h:=⟨by rw[<-g];exact c⟩;rw[g]at v⊢;have y:=fun w=>ng (yR w (48+d%10));have u:(kZ [48+d%10]).size=1:=rfl;have z:d<=100000000:=by omega
   have r:=ab g;clear c m g;go_wp2_with fail;have:=r.out;exact⟨⟨a / 10,b,_,by congr 1;omega,rfl,by omega,by rw[ByteArray.size_append,u];omega,k,l.alloc l.size _⟩,by simp[intOf];omega⟩
theorem nU(a:Int)(N:Nat)(f:a=(N:Int))(d:0<N)(b:N<=100000000)(w:World):Calls Tryz.prog 75 #[.int .i64 a] w fun e c=>e= .returned (.string (vy N))/\Below w.heap.size w c:=by
 subst f;exact gE N d b w
theorem aB{W:World}{base e size n:Nat}{v:Value}{b:List Value}(h:W.ownsRow base e size v n b):∃a cap,v= .slice a n cap:=by
 rcases h.2 with⟨rfl,c⟩|⟨f,cap,d,rfl,_⟩
 ·exact⟨none,0,by rw[c]⟩
 ·exact⟨_,_,rfl⟩
theorem dt(w:World)(b:Option Nat):w.grownBy w b:=⟨rfl,rfl,rfl,Nat.le_refl _,fun _ _ _=>rfl⟩
theorem ci{c w:World}{b:Nat}(h:c.grownBy w (some b))(i:Nat)(v:Value):c.grownBy (w.setCell ⟨b,i,none⟩ v) (some b):=
 ⟨h.os,h.tape,h.output,by simpa [World.setCell] using h.size,fun d e a=>by rw[heap_setCell_other _ _ _ _ (fun f=>a (by rw[f]))];exact h.block d e a⟩
theorem qu{x e z:World}{b:Option Nat}(h:x.grownBy e b)(k:e.grownBy z b):x.grownBy z b:=
 ⟨k.os.trans h.os,k.tape.trans h.tape,k.output.trans h.output,Nat.le_trans h.size k.size,fun d c a=>(k.block d (Nat.lt_of_lt_of_le c h.size) a).trans (h.block d c a)⟩
theorem ll{x a:World}(b:Option Nat)(h:Below x.heap.size x a):x.grownBy a b:=⟨h.os,h.tape,h.output,h.size,fun c d _=>h.block c d⟩
theorem qw{α:Type}(a l:List α)(k:Nat)(x:α)(c:a.length=k)(b:k<l.length):(a++l.drop k).set k x=a++x::l.drop (k+1):=by
 rw[List.set_append_right _ _ (by omega),c,Nat.sub_self,List.drop_eq_getElem_cons b,List.set_cons_zero]
def mks(K n:Nat):List ByteArray:=(List.range n).map fun a=>vy (K+a)
def py(K n:Nat):List Int:=(List.range n).map fun a=>((K+a:Nat):Int)
theorem jW(K n:Nat):(mks K n).length=n:=by simp[mks]
theorem jX(K n:Nat):(py K n).length=n:=by simp[py]
theorem AP(K n:Nat):mks K (n+1)=mks K n++[vy (K+n)]:=by simp[mks,List.range_succ]
theorem AQ(K n:Nat):py K (n+1)=py K n++[((K+n:Nat):Int)]:=by simp[py,List.range_succ]
theorem Gv(K n i:Nat)(h:i<n):(mks K n)[i]?=some (vy (K+i)):=by simp[mks,h]
theorem Gw(K n i:Nat)(h:i<n):(py K n)[i]?=some ((K+i:Nat):Int):=by simp[py,h]
theorem lm(w:World)(l:List ByteArray)(K:Nat)(n base g cap:Nat)(G:0<K)(J:K+n<=50000000)(F:l.length=n)(o:w.ownsRow base 9 1 (.slice (some ⟨g,0,none⟩) n cap) n (l.map Value.string)):
  Calls Tryz.prog 76 #[.slice (some ⟨g,0,none⟩) n cap,.int .i64 K] w fun e p=>e= .returned (.int .i64 (K+n:Nat))/\p.ownsRow base 9 1 (.slice (some ⟨g,0,none⟩) n cap) n ((mks K n).map Value.string)/\w.grownBy p (some g):=by
 go_in;go_wp2_with fail;go_loopw [1,5] (fun y j wr=>∃a:Nat,a<=n/\j= .int .i64 a/\y= .int .i64 (K+a:Nat)/\wr.ownsRow base 9 1 (.slice (some ⟨g,0,none⟩) n cap) n ((mks K a++l.drop a).map Value.string)/\w.grownBy wr (some g)) (fun _ j _=>n-(intOf j).toNat)
 case atStart=>exact⟨0,Nat.zero_le _,rfl,rfl,o,dt _ _⟩
 case round=>
  obtain⟨a,L,rfl,rfl,h,t⟩:=hrel;clear o;by_cases I:a<n
  ·have H:(a:Int)<(n:Int):=by omega
   have O:(0:Int)<=(a:Int):=by omega
   have f:=fun w=>gE (K+a) (by omega) (by omega) w;have s:=qw (mks K a) l a (vy (K+a)) (jW _ _) (by omega);obtain⟨b,q⟩:∃b,(mks K a++l.drop a)[a]?=some b:=⟨(mks K a++l.drop a)[a]'(by simp[jW];omega),List.getElem?_eq_getElem _⟩;obtain⟨m,d⟩:=ah (vy (K+a));rw[d]at f s;have v:=ab d;clear d;have x:((mks K a++l.drop a).map Value.string)[a]?=some (.string b):=by rw[List.getElem?_map,q];rfl
   obtain⟨c,k⟩:∃c:Int,((K+a:Nat):Int)=c:=⟨_,rfl⟩;have B:0<=c:=by omega
   have N:c<=50000000:=by omega
   have z:=ab k;rw[k]at f⊢;clear k q;go_wp2_with (go_at_call 75;refine(f _).mono ?_;rintro e A ⟨rfl,r⟩;have i:=ai h r;have E:=i.frozenAt a;have C:A.cell? ⟨g,a,none⟩=some (.string b):=(i.cellAt a (by omega)).trans x);have u:=(i.stored a (.string m)).1;rw[show((mks K a++l.drop a).map Value.string).set a (.string m)=((mks K a++l.drop a).set a m).map Value.string by rw[List.map_set],s]at u;have M:=z.out;refine⟨⟨a+1,by omega,by go_num,by congr 1;omega,?_,?_⟩,by simp[intOf];omega⟩
   ·rw[AP,v.out,List.append_assoc];exact u
   ·exact ci (qu t (ll _ r)) _ _
  ·obtain rfl:a=n:=by omega
   go_wp2_with fail;go_ret;exact⟨rfl,by rw[List.drop_of_length_le (by omega),List.append_nil]at h;exact h,t⟩
theorem pL(w:World)(l:List Int)(K:Nat)(n base g cap:Nat)(z:0<K)(C:K+n<=50000000)(y:l.length=n)(o:w.ownsRow base 3 1 (.slice (some ⟨g,0,none⟩) n cap) n (l.map (Value.int .i64))):
  Calls Tryz.prog 77 #[.slice (some ⟨g,0,none⟩) n cap,.int .i64 K] w fun e i=>e= .returned (.int .i64 (K+n:Nat))/\i.ownsRow base 3 1 (.slice (some ⟨g,0,none⟩) n cap) n ((py K n).map (Value.int .i64))/\w.grownBy i (some g):=by
 go_in;go_wp2_with fail;go_loopw [1,5] (fun r f wr=>∃a:Nat,a<=n/\f= .int .i64 a/\r= .int .i64 (K+a:Nat)/\wr.ownsRow base 3 1 (.slice (some ⟨g,0,none⟩) n cap) n ((py K a++l.drop a).map (Value.int .i64))/\w.grownBy wr (some g)) (fun _ f _=>n-(intOf f).toNat)
 case atStart=>exact⟨0,Nat.zero_le _,rfl,rfl,o,dt _ _⟩
 case round=>
  obtain⟨a,E,rfl,rfl,c,p⟩:=hrel;clear o;by_cases B:a<n
  ·have A:(a:Int)<(n:Int):=by omega
   have G:(0:Int)<=(a:Int):=by omega
   have k:=qw (py K a) l a (((K+a:Nat):Int)) (jX _ _) (by omega);obtain⟨d,j⟩:∃d,(py K a++l.drop a)[a]?=some d:=⟨(py K a++l.drop a)[a]'(by simp[jX];omega),List.getElem?_eq_getElem _⟩;have m:((py K a++l.drop a).map (Value.int .i64))[a]?=some (.int .i64 d):=by rw[List.getElem?_map,j];rfl
   obtain⟨b,h⟩:∃b:Int,((K+a:Nat):Int)=b:=⟨_,rfl⟩;have u:0<=b:=by omega
   have F:b<=50000000:=by omega
   have s:=ab h;rw[h]at k⊢;have x:=c.frozenAt a;have v:wr.cell? ⟨g,a,none⟩=some (.int .i64 d):=(c.cellAt a (by omega)).trans m;have q:=(c.stored a (.int .i64 b)).1;rw[show((py K a++l.drop a).map (Value.int .i64)).set a (.int .i64 b)=((py K a++l.drop a).set a b).map (Value.int .i64) by rw[List.map_set],k]at q;clear h j m;go_wp2_with fail;have t:=s.out;refine⟨⟨a+1,by omega,by go_num,by congr 1;omega,?_,?_⟩,by simp[intOf];omega⟩
   ·rw[AQ,t,List.append_assoc];exact q
   ·exact ci p _ _
  ·obtain rfl:a=n:=by omega
   go_wp2_with fail;go_ret;exact⟨rfl,by rw[List.drop_of_length_le (by omega),List.append_nil]at c;exact c,p⟩
theorem lp(w:World)(K:Nat)(a:Option Addr)(b:Nat):
  Calls Tryz.prog 76 #[.slice a 0 b,.int .i64 K] w fun e c=>e= .returned (.int .i64 K)/\c=w:=by
 go_in;go_wp2_with fail;refine wp_loop_rounds 1 ?_;rw[rounds_succ];go_wp2;go_ret;exact⟨rfl,rfl⟩
theorem pM(w:World)(K:Nat)(a:Option Addr)(b:Nat):
  Calls Tryz.prog 77 #[.slice a 0 b,.int .i64 K] w fun e c=>e= .returned (.int .i64 K)/\c=w:=by
 go_in;go_wp2_with fail;refine wp_loop_rounds 1 ?_;rw[rounds_succ];go_wp2;go_ret;exact⟨rfl,rfl⟩
theorem ay{W:World}{base e size n:Nat}{v:Value}{a:List Value}(h:W.ownsRow base e size v n a):(n=0/\v= .slice none 0 0)\/∃g cap,v= .slice (some ⟨g,0,none⟩) n cap:=by
 rcases h.2 with⟨rfl,b⟩|⟨g,cap,c,rfl,_⟩
 ·exact .inl ⟨b,rfl⟩
 ·exact .inr ⟨_,_,rfl⟩
theorem mF(w:World)(l:List ByteArray)(K:Nat)(base:Nat)(v:Value)(g:0<K)(b:K+l.length<=50000000)(o:w.ownsRow base 9 1 v l.length (l.map Value.string)):
  Calls Tryz.prog 76 #[v,.int .i64 K] w fun e a=>e= .returned (.int .i64 (K+l.length:Nat))/\a.ownsRow base 9 1 v l.length ((mks K l.length).map Value.string)/\w.grownBy a v.ownBlock:=by
 rcases ay o with⟨f,rfl⟩|⟨d,c,rfl⟩
 ·refine bc (lp w K none 0) ?_;obtain rfl:l=[]:=List.eq_nil_of_length_eq_zero f;exact⟨rfl,o,dt _ _⟩
 ·exact lm w l K _ base d c g b rfl o
theorem qX(w:World)(l:List Int)(K:Nat)(base:Nat)(v:Value)(g:0<K)(b:K+l.length<=50000000)(o:w.ownsRow base 3 1 v l.length (l.map (Value.int .i64))):
  Calls Tryz.prog 77 #[v,.int .i64 K] w fun e a=>e= .returned (.int .i64 (K+l.length:Nat))/\a.ownsRow base 3 1 v l.length ((py K l.length).map (Value.int .i64))/\w.grownBy a v.ownBlock:=by
 rcases ay o with⟨f,rfl⟩|⟨d,c,rfl⟩
 ·refine bc (pM w K none 0) ?_;obtain rfl:l=[]:=List.eq_nil_of_length_eq_zero f;exact⟨rfl,o,dt _ _⟩
 ·exact pL w l K _ base d c g b rfl o
theorem mG(w:World)(v:Value)(K n:Nat)(C:0<K)(u:K+n<=50000000)(h:aH w v (mks K n)):
  Calls Tryz.prog 78 #[v,.int .i64 K] w fun e f=>e= .returned (.int .i64 (K+n:Nat))/\Below w.heap.size w f:=by
 obtain⟨y,t,rfl⟩:=h.form;rw[jW]at h⊢;have o:=ab h;clear h;go_in;go_wp2_with fail;go_loopw [1,5] (fun l g wr=>∃a:Nat,a<=n/\g= .int .i64 a/\l= .int .i64 (K+a:Nat)/\Below w.heap.size w wr) (fun _ g _=>n-(intOf g).toNat)
 case atStart=>exact⟨0,Nat.zero_le _,rfl,rfl,Below.refl _ _⟩
 case round=>
  obtain⟨a,x,rfl,rfl,c⟩:=hrel;by_cases r:a<n
  ·have F:(a:Int)<(n:Int):=by omega
   have E:(0:Int)<=(a:Int):=by omega
   have d:=fun w=>gE (K+a) (by omega) (by omega) w;obtain⟨q,rfl,j⟩:=(o.out.below c).get (Gv K n a r);generalize vy (K+a)=p at d j;obtain⟨b,i⟩:∃b:Int,((K+a:Nat):Int)=b:=⟨_,rfl⟩;have s:0<=b:=by omega
   have B:b<=50000000:=by omega
   have m:=ab i;rw[i]at d⊢;clear i;go_wp2_with fail;go_region_held3 (fun f=>f.cell? (q.add a)=some (.string p)) (first|go_keep|exact aa k j) ((go_at_call 75;refine(d _).mono ?_;rintro e z ⟨rfl,k⟩))
   go_wp2_with fail;have A:=m.out;exact⟨⟨a+1,by omega,by go_num,by congr 1;omega,(aE c).trans (k.mono c.size)⟩,by simp[intOf];omega⟩
  ·obtain rfl:a=n:=by omega
   go_wp2_with fail;go_ret;exact⟨rfl,c⟩
theorem qY(w:World)(v:Value)(K n:Nat)(u:0<K)(p:K+n<=50000000)(h:aV w v (py K n)):
  Calls Tryz.prog 79 #[v,.int .i64 K] w fun e i=>e= .returned (.int .i64 (K+n:Nat))/\i=w:=by
 obtain⟨r,o,rfl⟩:=h.form;rw[jX]at h⊢;have k:=ab h;clear h;go_in;go_wp2_with fail;go_loop [1,5] (fun f c=>∃a:Nat,a<=n/\c= .int .i64 a/\f= .int .i64 (K+a:Nat)) (fun _ c=>n-(intOf c).toNat)
 case atStart=>exact⟨0,Nat.zero_le _,rfl,rfl⟩
 case round=>
  obtain⟨a,q,rfl,rfl⟩:=hrel;by_cases l:a<n
  ·have z:(a:Int)<(n:Int):=by omega
   have y:(0:Int)<=(a:Int):=by omega
   obtain⟨x,rfl,j⟩:=k.out.get (Gw K n a l);obtain⟨b,d⟩:∃b:Int,((K+a:Nat):Int)=b:=⟨_,rfl⟩;have m:0<=b:=by omega
   have t:b<=50000000:=by omega
   have g:=ab d;rw[d]at j⊢;clear d;go_wp2_with fail;go_round
   case rel=>have s:=g.out;exact⟨a+1,by omega,by go_num,by congr 1;omega⟩
   case measure=>simp[intOf];omega
  ·obtain rfl:a=n:=by omega
   go_wp2_with fail;go_ret;exact⟨rfl,rfl⟩
def eU(x:ByteArray):Bool:=decide (x.toList=[])
def aq(N:Nd)(c a d b:Bool):Bool:=(c||N.op==0)&&(a||N.n==0)&&(d||eU N.x)&&(b||decide (N.nm.length=0))
theorem aJ(w:World)(N:Nd)(vn vk:Value)(j:aH w vn N.nm)(h:aV w vk N.ks)(k:N.nm.length<=1048576):
  Calls Tryz.prog 107 #[bu N vn vk,.bool false,.bool false,.bool false,.bool false] w fun e o=>e= .returned (.bool (aq N false false false false))/\Below w.heap.size w o:=by
 have c:∀f,Below w.heap.size w (w.alloc f):=fun f=>(Below.refl _ w).alloc (Nat.le_refl _) f;obtain⟨x,s,rfl⟩:=j.form;obtain⟨y,E,rfl⟩:=h.form;clear j h;obtain⟨d,a⟩:=ah (aq N false false false false);rw[a];unfold bu;generalize N.ks.length=z;obtain⟨C,u,v,A,r,n,p,q,t⟩:=N;simp only at k⊢;unfold aq eU at a;simp only at a;obtain⟨g,l⟩:=ah q.length;rw[l]at k a⊢;clear l;cases t1:(r==0) with
 |false=>
  rw[t1]at a;have b:Hid (false=d):=by first|exact a|simpa using a
  clear a;go_in;go_wp2;go_ret;exact⟨by rw[<-b.out];rfl,c _⟩
 |true=>
  rw[t1]at a;cases t2:(n==0) with
  |false=>
   rw[t2]at a;have b:Hid (false=d):=by first|exact a|simpa using a
   clear a;go_in;go_wp2;go_ret;exact⟨by rw[<-b.out];rfl,c _⟩
  |true=>
   rw[t2]at a;by_cases i:p.toList=[]
   case neg=>
    rw[decide_eq_false i]at a;have b:Hid (false=d):=by first|exact a|simpa using a
    clear a;go_in;go_wp2;go_ret;exact⟨by rw[<-b.out];rfl,c _⟩
   rw[decide_eq_true i]at a;by_cases m:g=0
   ·subst m;have b:Hid (true=d):=by first|exact a|simpa using a
    clear a;go_in;go_wp2;go_ret;exact⟨by rw[<-b.out];rfl,c _⟩
   ·have B:((g:Int)==0)=false:=by rw[beq_eq_false_iff_ne];omega
    rw[decide_eq_false m]at a;have b:Hid (false=d):=by first|exact a|simpa using a
    clear a;go_in;go_wp2;go_ret;exact⟨by rw[<-b.out];rfl,c _⟩
theorem dD(w:World)(N:Nd)(vn vk:Value)(i:aH w vn N.nm)(g:aV w vk N.ks)(j:N.nm.length<=1048576):
  Calls Tryz.prog 107 #[bu N vn vk,.bool false,.bool false,.bool false,.bool true] w fun e m=>e= .returned (.bool (aq N false false false true))/\Below w.heap.size w m:=by
 have c:∀f,Below w.heap.size w (w.alloc f):=fun f=>(Below.refl _ w).alloc (Nat.le_refl _) f;obtain⟨v,r,rfl⟩:=i.form;obtain⟨x,B,rfl⟩:=g.form;clear i g;obtain⟨d,a⟩:=ah (aq N false false false true);rw[a];unfold bu;generalize N.ks.length=y;obtain⟨A,t,u,z,p,l,n,o,s⟩:=N;simp only at j⊢;unfold aq eU at a;simp only at a;obtain⟨q,k⟩:=ah o.length;rw[k]at j a⊢;clear k;cases t1:(p==0) with
 |false=>
  rw[t1]at a;have b:Hid (false=d):=by first|exact a|simpa using a
  clear a;go_in;go_wp2;go_ret;exact⟨by rw[<-b.out];rfl,c _⟩
 |true=>
  rw[t1]at a;cases t2:(l==0) with
  |false=>
   rw[t2]at a;have b:Hid (false=d):=by first|exact a|simpa using a
   clear a;go_in;go_wp2;go_ret;exact⟨by rw[<-b.out];rfl,c _⟩
  |true=>
   rw[t2]at a;by_cases h:n.toList=[]
   case neg=>
    rw[decide_eq_false h]at a;have b:Hid (false=d):=by first|exact a|simpa using a
    clear a;go_in;go_wp2;go_ret;exact⟨by rw[<-b.out];rfl,c _⟩
   rw[decide_eq_true h]at a;have b:Hid (true=d):=by first|exact a|simpa using a
   clear a;go_in;go_wp2;go_ret;exact⟨by rw[<-b.out];rfl,c _⟩
theorem ez(w:World)(N:Nd)(vn vk:Value)(j:aH w vn N.nm)(h:aV w vk N.ks)(k:N.nm.length<=1048576):
  Calls Tryz.prog 107 #[bu N vn vk,.bool false,.bool true,.bool false,.bool false] w fun e n=>e= .returned (.bool (aq N false true false false))/\Below w.heap.size w n:=by
 have c:∀f,Below w.heap.size w (w.alloc f):=fun f=>(Below.refl _ w).alloc (Nat.le_refl _) f;obtain⟨x,r,rfl⟩:=j.form;obtain⟨y,E,rfl⟩:=h.form;clear j h;obtain⟨d,a⟩:=ah (aq N false true false false);rw[a];unfold bu;generalize N.ks.length=z;obtain⟨C,t,v,A,q,u,o,p,s⟩:=N;simp only at k⊢;unfold aq eU at a;simp only at a;obtain⟨g,l⟩:=ah p.length;rw[l]at k a⊢;clear l;cases t1:(q==0) with
 |false=>
  rw[t1]at a;have b:Hid (false=d):=by first|exact a|simpa using a
  clear a;go_in;go_wp2;go_ret;exact⟨by rw[<-b.out];rfl,c _⟩
 |true=>
  rw[t1]at a;by_cases i:o.toList=[]
  case neg=>
   rw[decide_eq_false i]at a;have b:Hid (false=d):=by first|exact a|simpa using a
   clear a;go_in;go_wp2;go_ret;exact⟨by rw[<-b.out];rfl,c _⟩
  rw[decide_eq_true i]at a;by_cases m:g=0
  ·subst m;have b:Hid (true=d):=by first|exact a|simpa using a
   clear a;go_in;go_wp2;go_ret;exact⟨by rw[<-b.out];rfl,c _⟩
  ·have B:((g:Int)==0)=false:=by rw[beq_eq_false_iff_ne];omega
   rw[decide_eq_false m]at a;have b:Hid (false=d):=by first|exact a|simpa using a
   clear a;go_in;go_wp2;go_ret;exact⟨by rw[<-b.out];rfl,c _⟩
theorem eA(w:World)(N:Nd)(vn vk:Value)(i:aH w vn N.nm)(h:aV w vk N.ks)(j:N.nm.length<=1048576):
  Calls Tryz.prog 107 #[bu N vn vk,.bool false,.bool false,.bool true,.bool false] w fun e n=>e= .returned (.bool (aq N false false true false))/\Below w.heap.size w n:=by
 have c:∀f,Below w.heap.size w (w.alloc f):=fun f=>(Below.refl _ w).alloc (Nat.le_refl _) f;obtain⟨u,q,rfl⟩:=i.form;obtain⟨v,C,rfl⟩:=h.form;clear i h;obtain⟨d,a⟩:=ah (aq N false false true false);rw[a];unfold bu;generalize N.ks.length=x;obtain⟨A,s,t,y,p,m,B,o,r⟩:=N;simp only at j⊢;unfold aq eU at a;simp only at a;obtain⟨g,k⟩:=ah o.length;rw[k]at j a⊢;clear k;cases t1:(p==0) with
 |false=>
  rw[t1]at a;have b:Hid (false=d):=by first|exact a|simpa using a
  clear a;go_in;go_wp2;go_ret;exact⟨by rw[<-b.out];rfl,c _⟩
 |true=>
  rw[t1]at a;cases t2:(m==0) with
  |false=>
   rw[t2]at a;have b:Hid (false=d):=by first|exact a|simpa using a
   clear a;go_in;go_wp2;go_ret;exact⟨by rw[<-b.out];rfl,c _⟩
  |true=>
   rw[t2]at a;by_cases l:g=0
   ·subst l;have b:Hid (true=d):=by first|exact a|simpa using a
    clear a;go_in;go_wp2;go_ret;exact⟨by rw[<-b.out];rfl,c _⟩
   ·have z:((g:Int)==0)=false:=by rw[beq_eq_false_iff_ne];omega
    rw[decide_eq_false l]at a;have b:Hid (false=d):=by first|exact a|simpa using a
    clear a;go_in;go_wp2;go_ret;exact⟨by rw[<-b.out];rfl,c _⟩
theorem lX(w:World)(N:Nd)(vn vk:Value)(j:aH w vn N.nm)(h:aV w vk N.ks)(k:N.nm.length<=1048576):
  Calls Tryz.prog 107 #[bu N vn vk,.bool true,.bool false,.bool false,.bool false] w fun e o=>e= .returned (.bool (aq N true false false false))/\Below w.heap.size w o:=by
 have c:∀f,Below w.heap.size w (w.alloc f):=fun f=>(Below.refl _ w).alloc (Nat.le_refl _) f;obtain⟨v,r,rfl⟩:=j.form;obtain⟨x,C,rfl⟩:=h.form;clear j h;obtain⟨d,a⟩:=ah (aq N true false false false);rw[a];unfold bu;generalize N.ks.length=y;obtain⟨B,t,u,z,E,n,p,q,s⟩:=N;simp only at k⊢;unfold aq eU at a;simp only at a;obtain⟨g,l⟩:=ah q.length;rw[l]at k a⊢;clear l;cases t2:(n==0) with
 |false=>
  rw[t2]at a;have b:Hid (false=d):=by first|exact a|simpa using a
  clear a;go_in;go_wp2;go_ret;exact⟨by rw[<-b.out];rfl,c _⟩
 |true=>
  rw[t2]at a;by_cases i:p.toList=[]
  case neg=>
   rw[decide_eq_false i]at a;have b:Hid (false=d):=by first|exact a|simpa using a
   clear a;go_in;go_wp2;go_ret;exact⟨by rw[<-b.out];rfl,c _⟩
  rw[decide_eq_true i]at a;by_cases m:g=0
  ·subst m;have b:Hid (true=d):=by first|exact a|simpa using a
   clear a;go_in;go_wp2;go_ret;exact⟨by rw[<-b.out];rfl,c _⟩
  ·have A:((g:Int)==0)=false:=by rw[beq_eq_false_iff_ne];omega
   rw[decide_eq_false m]at a;have b:Hid (false=d):=by first|exact a|simpa using a
   clear a;go_in;go_wp2;go_ret;exact⟨by rw[<-b.out];rfl,c _⟩
theorem tH(w:World)(N:Nd)(vn vk:Value)(i:aH w vn N.nm)(g:aV w vk N.ks)(j:N.nm.length<=1048576):
  Calls Tryz.prog 107 #[bu N vn vk,.bool true,.bool false,.bool false,.bool true] w fun e m=>e= .returned (.bool (aq N true false false true))/\Below w.heap.size w m:=by
 have c:∀d,Below w.heap.size w (w.alloc d):=fun d=>(Below.refl _ w).alloc (Nat.le_refl _) d;obtain⟨u,q,rfl⟩:=i.form;obtain⟨v,A,rfl⟩:=g.form;clear i g;obtain⟨f,a⟩:=ah (aq N true false false true);rw[a];unfold bu;generalize N.ks.length=x;obtain⟨z,s,t,y,B,l,n,o,r⟩:=N;simp only at j⊢;unfold aq eU at a;simp only at a;obtain⟨p,k⟩:=ah o.length;rw[k]at j a⊢;clear k;cases t2:(l==0) with
 |false=>
  rw[t2]at a;have b:Hid (false=f):=by first|exact a|simpa using a
  clear a;go_in;go_wp2;go_ret;exact⟨by rw[<-b.out];rfl,c _⟩
 |true=>
  rw[t2]at a;by_cases h:n.toList=[]
  case neg=>
   rw[decide_eq_false h]at a;have b:Hid (false=f):=by first|exact a|simpa using a
   clear a;go_in;go_wp2;go_ret;exact⟨by rw[<-b.out];rfl,c _⟩
  rw[decide_eq_true h]at a;have b:Hid (true=f):=by first|exact a|simpa using a
  clear a;go_in;go_wp2;go_ret;exact⟨by rw[<-b.out];rfl,c _⟩
end Go.Proofs.YtcbmoiabehpliaaGreatDoor
