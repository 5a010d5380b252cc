import Derived.Test.YtkfgnpcanadjhaaGreatDoorHSk24
import Derived.Test.YtkfgnpcanadjhaaGreatDoorHSk22
set_option linter.all false
set_option maxRecDepth 100000
set_option maxHeartbeats 25600000
namespace Go.Proofs.YtkfgnpcanadjhaaGreatDoor
open Go.RowKit Go.Maps Go.WideMaps
inductive Out (s:ByteArray):Int->Int->List Nd->Prop where
 |big:65536<s.size->Out s 2 0 []
 |at_ {z:Int}:s.size<=65536->0<=z->kJ s=([],z)->Out s 1 z []
 |ok {toks:List Tk}{m:Nat}{R:Fo}{lz:Int}:s.size<=65536->kJ s=(toks, -1)->PF s toks m R lz->Out s (okC (rF s R)) 0 (okN (rF s R))
def sy(z:Int):Prop:= -9223372036854775808<=z/\z<=9223372036854775807
theorem kK(z:Int)(a:0<=z)(b:z<=1000000):sy z:=⟨by omega,by omega⟩
theorem afJ(s:ByteArray)(p:Nat):sy (fh s p).n:=by
 have a:sy 0:=kK _ (by decide) (by decide)
 unfold fh
 split
 ·exact a
 split
 ·split
  ·show sy (Gf s p).2.1
   unfold Gf
   split
   ·show sy (wrap64 _)
    unfold wrap64 sy
    omega
   ·split
    ·rename_i c b
     split at b
     ·cases b
     ·have:=aap _ _ _ _ b
      exact⟨by show _<=(c:Int);omega,by show(c:Int)<=_;omega⟩
    ·exact a
  ·exact a
 split
 ·split<;>exact a
 split<;>exact a
theorem Hc(x:ByteArray):ux x=decide (x=⟨#[]⟩):=by
 unfold ux
 rw[gc]
 by_cases a:x=⟨#[]⟩
 ·subst a;rfl
 ·rw[az a,az]
  intro b
  apply a
  cases x
  simp only at b
  congr 1
  exact Array.toList_inj.1 b
theorem su(N:Nd):vF (qd N (dL N.k)) N=(match dL N.k with
  |0=>bj N false false false true
  |1=>bj N false true false false
  |2=>bj N false true false false
  |3=>bj N false false true false
  |4=>bj N true false false false
  |5=>bj N true false false true&&(N.op==0||N.op==1)
  |_=>bj N false false false false):=by
 have p:∀(l m o:Bool)(P f g h:Prop) [Decidable P] [Decidable f] [Decidable g] [Decidable h],decide (P/\f/\g/\h)=(decide P&&decide f&&decide g&&decide h):=fun l m o P f g h _ _ _ _=>by
  by_cases c:P<;>by_cases q:f<;>by_cases r:g<;>by_cases s:h<;>simp[c,q,r,s]
 have d:decide ((0:Int)=N.op)=(N.op==0):=by
  by_cases a:N.op=0
  ·rw[bB a.symm,a];rfl
  ·rw[az (fun b=>a b.symm)];exact(beq_eq_false_iff_ne.2 a).symm
 have j:decide ((0:Int)=N.n)=(N.n==0):=by
  by_cases a:N.n=0
  ·rw[bB a.symm,a];rfl
  ·rw[az (fun b=>a b.symm)];exact(beq_eq_false_iff_ne.2 a).symm
 have e:decide ((⟨#[]⟩:ByteArray)=N.x)=ux N.x:=by
  rw[Hc]
  by_cases a:N.x=⟨#[]⟩
  ·rw[bB a.symm,bB a]
  ·rw[az (fun b=>a b.symm),az a]
 have i:decide (([]:List ByteArray)=N.nm)=decide (N.nm.length=0):=by
  by_cases a:N.nm=[]
  ·rw[bB a.symm,bB (by rw[a];rfl)]
  ·rw[az (fun b=>a b.symm),az (fun b=>a (fj b))]
 unfold vF bj
 rw[p true true true]
 rcases yE N.k with hc|hc|hc|hc|hc|hc|hc
 ·rw[hc];simp only[qd,d,j,e];simp
 ·rw[hc];simp only[qd,d,e,i];simp
 ·rw[hc];simp only[qd,d,e,i];simp
 ·rw[hc];simp only[qd,d,j,i];simp
 ·rw[hc];simp only[qd,j,e,i];simp
 ·rw[hc];simp only[qd,j,e]
  have b:decide ((if N.op=1 then(1:Int) else 0)=N.op)=(N.op==0||N.op==1):=by
   by_cases c:N.op=1
   ·rw[ab c,c];rfl
   ·rw[aa c,d]
    rw[beq_eq_false_iff_ne.2 c,Bz]
  rw[b]
  simp
  cases (N.op==0||N.op==1)<;>cases (N.n==0)<;>cases ux N.x<;>rfl
 ·rw[hc];simp only[qd,d,j,e,i];simp
theorem jt(a:List Nd)(ks:List Int):(kinds a ks).length=ks.length:=by simp[kinds]
theorem acv(b:List Nd)(N:Nd)(j:Nat)(a:j<N.ks.length):(kinds b N.ks)[j]?=some (eC b N j):=by
 unfold kinds eC
 rw[bq,aF a]
 simp[List.getD,aF a]
theorem Hd(a:List Int):ey [] a=a.isEmpty:=rfl
theorem Jh(i:Nat)(a:List Int):ey [(i,1)] a=a.all (ms i):=by
 rw[ey,aa (by omega),Hd]
 have c:Dv i 1 a=(a.takeWhile (ms i)).length:=by unfold Dv;rw[ab rfl]
 rw[c]
 induction a with
 |nil=>rfl
 |cons b e d=>
  cases h:ms i b with
  |false=>rw[Bq (by simp[h])];simp[h]
  |true=>
   rw[Bv (by simp[h]),BK,h,ez,co,List.drop_succ_cons]
   exact d (by unfold Dv;rw[ab rfl])
theorem ai8(i f:Nat)(b:f≠1)(a:Int)(r:List Int):Dv i f (a::r)=if ms i a=true then 1 else 0:=by
 unfold Dv
 rw[aa b]
 cases h:ms i a with
 |false=>rw[Bq (by simp[h])];simp
 |true=>rw[Bv (by simp[h]),co,ab rfl];omega
theorem Dj(i:Nat)(b:List (Nat×Nat))(a:Int)(r:List Int):ey ((i,0)::b) (a::r)=(ms i a&&ey b r):=by
 rw[ey,ai8 i 0 (by omega)]
 cases h:ms i a with
 |false=>simp
 |true=>simp
theorem Ji(i:Nat)(a:List (Nat×Nat)):ey ((i,0)::a) []=false:=by
 rw[ey];simp[Dv]
theorem aht(i:Nat)(b:List (Nat×Nat))(a:Int)(r:List Int):ey ((i,2)::b) (a::r)=if ms i a=true then ey b r else ey b (a::r):=by
 rw[ey,ai8 i 2 (by omega)]
 cases h:ms i a with
 |false=>simp
 |true=>simp
theorem ae8(i:Nat)(a:List (Nat×Nat)):ey ((i,2)::a) []=ey a []:=by
 rw[ey];simp[Dv]
theorem ahu(n:Nat):∀(b:List Int),n<b.length->ey (Ag n) b=((b.take n).all (ms 5)&&(b.drop n).all (ms 3)):=by
 induction n with
 |zero=>
  intro b c
  match b,c with
  |a::d,_=>
   show ey ((3,0)::[(3,1)]) (a::d)=_
   rw[Dj,Jh];simp
 |succ n e=>
  intro b c
  match b,c with
  |a::d,c=>
   show ey ((5,0)::Ag n) (a::d)=_
   rw[Dj,e d (by simpa using c)]
   simp[Bool.and_assoc]
theorem oE(a:List Nd)(N:Nd)(j:Nat)(b:j<N.ks.length):eC a N j=(kinds a N.ks).getD j 0:=by
 rw[aL,acv a N j b];rfl
theorem uh(a:List Int)(p:Int->Bool)(f j:Nat)(c:j+(f+1)<=a.length):((a.drop j).take (f+1)).all p=(p (a.getD j 0)&&((a.drop (j+1)).take f).all p):=by
 have b:j<a.length:=by omega
 rw[ju b,List.take_succ_cons,BK,aL,aF b]
 rfl
theorem He(a:List Nd)(N:Nd):∀(f j:Nat),j+f<=N.ks.length->jj a N f j=(((kinds a N.ks).drop j).take f).all eB
 |0,j,_=>by simp[jj]
 |f+1,j,b=>by
  rw[jj,He a N f (j+1) (by omega),uh _ _ _ _ (by rw[jt];exact b),oE a N j (by omega)]
theorem acw(a:List Nd)(N:Nd):∀(f j:Nat),j+f<=N.ks.length->JL a N f j=(((kinds a N.ks).drop j).take f).all gI
 |0,j,_=>by simp[JL]
 |f+1,j,b=>by
  rw[JL,acw a N f (j+1) (by omega),uh _ _ _ _ (by rw[jt];exact b),oE a N j (by omega)]
theorem acx(a:List Nd)(N:Nd):∀(f j:Nat),j+f<=N.ks.length->Iu a N f j=(((kinds a N.ks).drop j).take f).all vB
 |0,j,_=>by simp[Iu]
 |f+1,j,b=>by
  rw[Iu,acx a N f (j+1) (by omega),uh _ _ _ _ (by rw[jt];exact b),oE a N j (by omega)]
theorem acy(a:List Nd)(N:Nd):∀(f j:Nat),j+f<=N.ks.length->Kg a N f j=(((kinds a N.ks).drop j).take f).all (ms 9)
 |0,j,_=>by simp[Kg]
 |f+1,j,b=>by
  rw[Kg,acy a N f (j+1) (by omega),uh _ _ _ _ (by rw[jt];exact b),oE a N j (by omega)]
  rfl
theorem ae9(k:Int):ms 5 k=vB k:=by
 unfold ms vB
 by_cases a:k=26<;>by_cases b:k=32<;>by_cases c:k=33<;>simp[a,b,c]
def rH(a:List Nd)(N:Nd):Bool:=vF (qd N (dL N.k)) N&&(ffB N N.ks.length (dL N.k)&&kfB N (kinds a N.ks))
theorem ai9(a:List Nd)(N:Nd)(hk:N.k=3\/N.k=4\/N.k=6\/N.k=7\/N.k=8\/N.k=9\/N.k=10\/N.k=11\/N.k=12\/N.k=14\/N.k=15\/N.k=16\/N.k=20\/N.k=21\/N.k=22\/N.k=23\/N.k=24\/N.k=25\/N.k=26\/N.k=27\/N.k=28\/N.k=29\/N.k=30\/N.k=31\/N.k=32\/N.k=33\/N.k=36\/N.k=37\/N.k=40\/N.k=41\/N.k=42)(l:N.nm.length<=200):rH a N=lF a N:=by
 have b:=jt a N.ks
 have c:=oE a N
 have i:eB 1=false:=rfl
 unfold rH kfB rkB
 rw[su]
 revert b c
 generalize kinds a N.ks=d
 intro b c
 rcases hk with hk|hk|hk|hk|hk|hk|hk|hk|hk|hk|hk|hk|hk|hk|hk|hk|hk|hk|hk|hk|hk|hk|hk|hk|hk|hk|hk|hk|hk|hk|hk
 all_goals
  rcases d with _|⟨e,_|⟨f,_|⟨g,_|⟨h,_|⟨j,m⟩⟩⟩⟩⟩
  all_goals
   simp at b
   simp[lF,gI,stB,iu,dL,GH,ffB,txB,yD,hk,<-b,c,jj,ew,Dj,Ji,Hd,aht,ae8,ms]<;>grind
theorem aja(a:List Nd)(N:Nd)(hk:N.k=1\/N.k=2\/N.k=13\/N.k=34\/N.k=35)(l:N.nm.length<=200):rH a N=lF a N:=by
 have c:=jt a N.ks
 have f:=oE a N 0
 have e:=He a N N.ks.length 0 (by omega)
 have d:=acw a N N.ks.length 0 (by omega)
 have b:=acy a N N.ks.length 0 (by omega)
 have h:ms 0=gI:=rfl
 have i:ms 3=eB:=rfl
 rw[<-c]at e d b f
 rw[dJ,xe]at e d b
 unfold rH kfB rkB
 rw[su,<-c]
 revert c f e d b
 generalize kinds a N.ks=g
 intro c f e d b
 rcases hk with hk|hk|hk|hk|hk
 all_goals
  rcases g with _|⟨j,m⟩
  all_goals
   simp at c f
   simp only[co,BK,dB,List.all_nil]at e d b
   simp[lF,gI,stB,iu,dL,GH,ffB,txB,yD,hk,e,d,b,h,i,<-c,f,ew,Jh,Dj,Ji,Hd,ms]<;>grind
theorem ajb(a:List Nd)(N:Nd)(b:N.k=5)(f:N.nm.length<=200):rH a N=lF a N:=by
 have d:dL N.k=1:=by rw[b];rfl
 have e:lF a N=(bj N false true false false&&(decide (1<=N.n/\N.n<(N.ks.length:Int))&&(Iu a N N.n.toNat 0&&jj a N (N.ks.length-N.n.toNat) N.n.toNat))):=by
  unfold lF
  rw[ab (by rw[b];rfl)]
  unfold stB
  rw[aa (by rw[b];decide),aa (by rw[b];decide),aa (by rw[b];decide),aa (by rw[b];decide),ab b]
 unfold rH kfB
 rw[su,d,e,ab rfl]
 simp only[ffB]
 by_cases c:1<=N.n/\N.n<(N.ks.length:Int)
 ·rw[bB c,ez,ez,ahu _ _ (by rw[jt];omega),acx a N _ _ (by omega),He a N _ _ (by omega)]
  congr 1
  congr 1
  ·rw[dJ]
   congr 1
   funext k
   exact ae9 k
  ·have:(kinds a N.ks).drop N.n.toNat=((kinds a N.ks).drop N.n.toNat).take (N.ks.length-N.n.toNat):=by
    rw[bH (by rw[dH,jt];exact ah _)]
   rw[<-this]
   rfl
 ·rw[az c,dC,dC]
theorem ahv(a:List Nd)(N:Nd)(b:N.k ∉ jI)(h:N.k≠5):rH a N=lF a N:=by
 have f:=(C3 N.k b).1
 simp only[jI,gi,mE,mI,not_or]at b
 have g:gI N.k=false:=by unfold gI;exact az (by omega)
 have d:lF a N=false:=by
  unfold lF
  rw[aa (by rw[g];decide)]
  unfold iu
  repeat rw[aa (by omega)]
 have c:dL N.k=6:=by
  unfold dL
  repeat rw[aa (by omega)]
 have e:rkB N.k (kinds a N.ks)=false:=by unfold rkB;rw[f]
 unfold rH kfB
 rw[d,c,aa (by decide),e,lp,lp]
theorem acz(a:List Nd)(N:Nd)(b:N.nm.length<=200):rH a N=lF a N:=by
 by_cases c:N.k∈jI
 ·simp only[jI,gi,mE,mI]at c
  by_cases e:N.k=1\/N.k=2\/N.k=13\/N.k=34\/N.k=35
  ·exact aja a N e b
  ·exact ai9 a N (by omega) b
 ·by_cases d:N.k=5
  ·exact ajb a N d b
  ·exact ahv a N c d
theorem Hf(l:List Nd)(N:Nd)(m:200<N.nm.length):lF l N=false:=by
 have f:∀c d e,bj N c d e false=false:=fun c d e=>by unfold bj;rw[az (by omega)];simp
 have a:∀g b,b<=200->ew N g b=false:=fun g b n=>by unfold ew;rw[az (by omega)];rfl
 have h:=a 1 1 (by omega)
 have i:=a 1 2 (by omega)
 have j:=a 1 200 (by omega)
 have k:=a 0 200 (by omega)
 unfold lF
 split
 ·unfold stB
  simp only[f,h,i,j,dC,lp]
  simp
 ·unfold iu
  simp only[f,k,dC,lp]
  simp
theorem afa(c:List Nd)(i:Nat)(N:Nd):Aj c i N=gJ c i N:=by
 unfold Aj gJ
 by_cases d:N.nm.length<=200
 ·have e:Ai N=GD N:=by
   unfold Ai GD
   by_cases a:0<=N.f/\N.f<=N.t/\0<=N.l/\N.ks.length<=200
   ·rw[bB a,bB ⟨a.1,a.2.1,a.2.2.1,a.2.2.2,d⟩]
   ·rw[az a,az (fun b=>a ⟨b.1,b.2.1,b.2.2.1,b.2.2.2.1⟩)]
  have g:=acz c N d
  unfold rH at g
  rw[e,<-g]
  generalize vF (qd N (dL N.k)) N=h
  generalize Dw N.ks i N.ks.length 0=j
  cases h<;>cases j<;>rfl
 ·have e:Ai N=false:=by unfold Ai;exact az (fun b=>d b.2.2.2.2)
  rw[e,Hf c N (by omega),dC,lp,lp]
def Hg:List ByteArray->ByteArray
 |[]=>ByteArray.empty
 |y::r=>dx++y++Hg r
theorem KG(l:List ByteArray):∀x:ByteArray,l.foldl Cm (true,x)=(true,x++Hg l):=by
 induction l with
 |nil=>intro x;simp[Hg]
 |cons a d c=>
  intro x
  rw[mK]
  have b:Cm (true,x) a=(true,x++dx++a):=rfl
  rw[b,c]
  simp only[Hg,be]
theorem Bg(x:ByteArray)(l:List ByteArray):bK (x::l)=x++Hg l:=by
 unfold bK Gi
 rw[mK]
 have a:Cm (false,ByteArray.empty) x=(true,x):=by unfold Cm;simp
 rw[a,KG]
theorem acA(l:List ByteArray):(⟨(Lib.join (l.map (·.data.toList)) dx.data.toList).toArray⟩:ByteArray)=bK l:=by
 cases l with
 |nil=>rfl
 |cons e l=>
  rw[jh,Lib.join_cons,Bg]
  have d:∀l:List ByteArray,Lib.joinTail dx.data.toList (l.map (·.data.toList))=(Hg l).data.toList:=by
   intro l
   induction l with
   |nil=>rfl
   |cons a l c=>
    have b:Lib.joinTail dx.data.toList ((a::l).map (·.data.toList))=(dx.data.toList++a.data.toList)++Lib.joinTail dx.data.toList (l.map (·.data.toList)):=by simp[Lib.joinTail]
    rw[b,c]
    show _=(((dx++a)++Hg l).data).toList
    rw[iB,iB]
    simp
  rw[d]
  apply mG
  rw[iB]
  simp
theorem KH(l:List ByteArray)(x:ByteArray):bK (l++[x])=if l=[] then x else bK l++dx++x:=by
 unfold bK
 rw[uC]
 unfold Cm
 rw[En]
 cases l with
 |nil=>simp[Gi]
 |cons a b=>simp
theorem Bh(w:World)(vn:Value)(l:List ByteArray)(j:bp w vn l)(n:oz vn)(t:l.length<=1048576)(u:(bK l).size<=100000000):
  Calls Tryz.prog 89 #[vn,.string ⟨#[44,32]⟩] w fun e d=>e= .returned (.string (bK l))/\Below w.heap.size w d:=by
 rcases j with⟨rfl,a,b,rfl⟩|⟨a,b,rfl,i⟩
 ·refine(Tryz.strings_Join_none a b _ w).mono ?_
  rintro e d ⟨rfl,rfl⟩
  exact⟨rfl,ag _ _⟩
 ·by_cases g:l=[]
  ·subst g
   refine(Tryz.strings_Join_none _ b _ w).mono ?_
   rintro e d ⟨rfl,rfl⟩
   exact⟨rfl,ag _ _⟩
  ·obtain⟨k,h⟩:=n a _ b rfl
   have p:0<l.length:=by rcases mJ l.length with e|e;exact absurd (fj e) g;exact e
   have m:a.block<w.heap.size:=by
    have:=tg (i 0 _ (aF p))
    unfold Addr.add at this
    simpa using this
   have f:=acA l
   have v:(Lib.join (l.map (·.data.toList)) dx.data.toList).length=(bK l).size:=by rw[<-f];simp[ByteArray.size]
   have:=Tryz.strings_Join a.block a.off b l dx w (fun r s q=>by
    have c:=i r s q
    unfold Addr.add at c
    split at c
    ·rename_i o;subst o;rw[h]at c;simpa using c
    ·exact c) m (by omega) k (by omega)
   rw[f,<-h]at this
   exact this
theorem nK.take{W:World}{L:List Im}{a:Option Addr}{n c:Nat}{l:List Int}(h:nK W L (.slice a n c) l)(k:Nat)(f:k<=l.length):nK W L (.slice a k c) (l.take k):=by
 rcases h with⟨rfl,d,g,e⟩|⟨d,g,e,p,j⟩
 ·have:k=0:=by simpa using f
  subst this
  exact .inl ⟨rfl,a,c,rfl⟩
 ·cases e
  by_cases i:k=0
  ·subst i;exact .inl ⟨by simp,_,_,rfl⟩
  ·refine .inr ⟨d,c,by rw[dt,pd f],by rw[dt];omega,fun m o b=>j m o ?_⟩
   rw[iE]at b
   split at b
   ·exact b
   ·cases b
theorem acB(a:Addr)(i j:Nat):(a.add i).add j=a.add (i+j):=by
 unfold Addr.add
 by_cases b:i=0
 ·subst b;simp
 ·by_cases c:j=0
  ·subst c;simp[b]
  ·simp[b,c];omega
theorem nK.drop{W:World}{L:List Im}{a:Addr}{n c:Nat}{l:List Int}(g:nK W L (.slice (some a) n c) l)(k m:Nat)(q:k<=l.length)(i:m=l.length-k):nK W L (.slice (some (a.add k)) m (c-k)) (l.drop k):=by
 subst i
 rcases g with⟨rfl,e,f,b⟩|⟨e,f,b,p,h⟩
 ·exact .inl ⟨by simp,some (a.add k),c-k,by simp⟩
 ·cases b
  refine .inr ⟨a.add k,c-k,by rw[dH],by rw[dH];omega,fun j o d=>?_⟩
  rw[mF]at d
  rw[acB]
  exact h (k+j) o d
theorem sw(b:Nat)(a:ByteArray)(w:World):(nilAhead 413 60 (.agg #[.pointer (some ⟨b,0,none⟩),.string a]) "loop.example/warp/impl.put").run Tryz.prog w= .ok (some false) w:=by kernel_rfl
theorem ajI(b:Nat)(w:World):(Instr.typeAssert (.iface 109 (.pointer (some ⟨b,0,none⟩))) 45 109 false).run Tryz.prog w= .ok (.pointer (some ⟨b,0,none⟩)) w:=by kernel_rfl
theorem ajJ(b:Nat)(w:World):(Instr.typeAssert (.iface 152 (.pointer (some ⟨b,0,none⟩))) 45 152 false).run Tryz.prog w= .ok (.pointer (some ⟨b,0,none⟩)) w:=by kernel_rfl
theorem ajK(b:Nat)(w:World):(Instr.typeAssert (.iface 160 (.pointer (some ⟨b,0,none⟩))) 45 160 false).run Tryz.prog w= .ok (.pointer (some ⟨b,0,none⟩)) w:=by kernel_rfl
theorem ajL(b:Nat)(w:World):(Instr.typeAssert (.iface 163 (.pointer (some ⟨b,0,none⟩))) 45 163 false).run Tryz.prog w= .ok (.pointer (some ⟨b,0,none⟩)) w:=by kernel_rfl
theorem ahw(b:Nat)(w:World):(Instr.typeAssert (.iface 169 (.pointer (some ⟨b,0,none⟩))) 45 169 false).run Tryz.prog w= .ok (.pointer (some ⟨b,0,none⟩)) w:=by kernel_rfl
theorem aj0(b:Nat)(w:World):(Instr.typeAssert (.iface 188 (.pointer (some ⟨b,0,none⟩))) 45 188 false).run Tryz.prog w= .ok (.pointer (some ⟨b,0,none⟩)) w:=by kernel_rfl
theorem Fg(w:World)(b:Nat)(vn:Value)(l:List ByteArray)(a:bp w vn l)(c:oz vn)(f:l.length<=1048576)(g:(bK l).size<=100000000)(p:w.cell? ⟨b,6,none⟩=some vn):
  Calls Tryz.prog 132 #[.iface 109 (.pointer (some ⟨b,0,none⟩))] w fun e i=>e= .returned (.string (bK l))/\Below w.heap.size w i:=by
 have h:=Bh w vn l a c f g
 have m:=fun w=>ajI b w
 obtain⟨j,k,rfl⟩:=a.form
 generalize l.length=n at *
 clear a c
 go_enter Tryz.func132,Tryz.ntmps132
 go_wp2_with (go_at_call 89;refine h.mono ?_;rintro e o ⟨rfl,d⟩)
 go_ret
 exact⟨rfl,d⟩
theorem Hh(s:ByteArray)(c:s.size<=4000)(w:World):Calls Tryz.prog 88 #[.string s] w fun e b=>e= .returned (.string (eI (iK s)))/\Below w.heap.size w b:=by
 refine(Jp s c w).mono ?_
 rintro e b a
 first|exact a|exact⟨a.1,a.2⟩
def fE(k:Int):Bool:=k==28||k==29||k==31
def iJ(N:Nd):Int:=if N.k=28 then 10 else if N.k=29 then 26 else if N.k=31 then 60+N.op else 0
def jD(N:Nd):Int:=if N.k=28 then 2 else if N.k=29 then 1 else if N.k=31 then(rB N.op).1 else 0
def gK(N:Nd):Int:=if N.k=28 then 3 else if N.k=29 then 2 else if N.k=31 then(rB N.op).2 else 0
theorem ahx{op:Int}(a:1<=op/\op<=18):∃j,j<20/\A9.getD j 0=60+op/\(∀i,i<j->A9.getD i 0≠60+op)/\nw (3*j+1)=(rB op).1/\nw (3*j+2)=(rB op).2:=by
 obtain⟨b,c⟩:=a
 rcases(show op=1\/op=2\/op=3\/op=4\/op=5\/op=6\/op=7\/op=8\/op=9\/op=10\/op=11\/op=12\/op=13\/op=14\/op=15\/op=16\/op=17\/op=18 by omega) with rfl|rfl|rfl|rfl|rfl|rfl|rfl|rfl|rfl|rfl|rfl|rfl|rfl|rfl|rfl|rfl|rfl|rfl
 ·exact⟨14,by decide,rfl,by decide,rfl,rfl⟩
 ·exact⟨15,by decide,rfl,by decide,rfl,rfl⟩
 ·exact⟨16,by decide,rfl,by decide,rfl,rfl⟩
 ·exact⟨17,by decide,rfl,by decide,rfl,rfl⟩
 ·exact⟨18,by decide,rfl,by decide,rfl,rfl⟩
 ·exact⟨19,by decide,rfl,by decide,rfl,rfl⟩
 ·exact⟨11,by decide,rfl,by decide,rfl,rfl⟩
 ·exact⟨9,by decide,rfl,by decide,rfl,rfl⟩
 ·exact⟨10,by decide,rfl,by decide,rfl,rfl⟩
 ·exact⟨12,by decide,rfl,by decide,rfl,rfl⟩
 ·exact⟨13,by decide,rfl,by decide,rfl,rfl⟩
 ·exact⟨8,by decide,rfl,by decide,rfl,rfl⟩
 ·exact⟨2,by decide,rfl,by decide,rfl,rfl⟩
 ·exact⟨3,by decide,rfl,by decide,rfl,rfl⟩
 ·exact⟨4,by decide,rfl,by decide,rfl,rfl⟩
 ·exact⟨5,by decide,rfl,by decide,rfl,rfl⟩
 ·exact⟨6,by decide,rfl,by decide,rfl,rfl⟩
 ·exact⟨7,by decide,rfl,by decide,rfl,rfl⟩
def oF(w:World):Prop:=∃b a,w.heap[3]?=some (.cells IC b a)
theorem oF.below{w c:World}{b:Nat}(a:oF w)(f:Below b w c)(e:w.heap.size<=b):oF c:=by
 obtain⟨g,d,a⟩:=a
 exact⟨g,d,(f.block _ (fi (aw a) e)).trans a⟩
theorem Hi(w:World)(j:oF w){op:Int}(b:1<=op/\op<=18):Calls Tryz.prog 183 #[.int .i64 (60+op)] w fun e m=>e= .returned (.tuple #[.agg #[.int .i64 (60+op),.int .i64 (rB op).1,.int .i64 (rB op).2],.bool true])/\Below w.heap.size w m:=by
 obtain⟨l,a,i⟩:=j
 obtain⟨k,c,d,f,g,h⟩:=ahx b
 have:=sh w l a i k c _ d f
 rwa [g,h]at this
theorem nC(v:World)(a:List Nd)(L:List Im)(base:Nat)(bk:Value)(a8:Tp v a L base bk)(ba:oF v)(i:Nat)(bb:i<a.length)(y:(ae a i).k=31->1<=(ae a i).op/\(ae a i).op<=18)(w:World)(a5:Below v.heap.size v w):
  Calls Tryz.prog 139 #[nV (jo L i)] w fun e l=>e= .returned (.tuple #[.agg #[.int .i64 (iJ (ae a i)),.int .i64 (jD (ae a i)),.int .i64 (gK (ae a i))],.bool (fE (ae a i).k)])/\Below w.heap.size w l:=by
 obtain⟨I,bv,bn,bt,bo,z,t⟩:=rx a8 bb
 have E:=fun w=>de I w
 have u:=fun w=>mq (dL (ae a i).k) I w
 have B:∀s,Below w.heap.size w (w.alloc s):=fun s=>(ag _ w).alloc (ah _) s
 have ap:∀s,Below v.heap.size v (w.alloc s):=fun s=>a5.trans ((B s).mono a5.size)
 have H:=(t.cells (ap (.cells #[.int .i64 0,.int .i64 0,.int .i64 0] 165))).1
 have ao:oF (w.alloc (.cells #[.int .i64 0,.int .i64 0,.int .i64 0] 165)):=ba.below (ap _) (ah _)
 have r:fd w.heap.size (w.alloc (.cells #[.int .i64 0,.int .i64 0,.int .i64 0] 165)) 0 0 0:=ay w _
 have x:∀(c:World)(m n o:Int),Below (w.alloc (.cells #[.int .i64 0,.int .i64 0,.int .i64 0] 165)).heap.size (w.alloc (.cells #[.int .i64 0,.int .i64 0,.int .i64 0] 165)) c->fd w.heap.size c 0 0 0/\fd w.heap.size (((c.setCell ⟨w.heap.size,0,none⟩ (.int .i64 m)).setCell ⟨w.heap.size,1,none⟩ (.int .i64 n)).setCell ⟨w.heap.size,2,none⟩ (.int .i64 o)) m n o/\Below w.heap.size w (((c.setCell ⟨w.heap.size,0,none⟩ (.int .i64 m)).setCell ⟨w.heap.size,1,none⟩ (.int .i64 n)).setCell ⟨w.heap.size,2,none⟩ (.int .i64 o)):=by
  intro c m n o j
  have a4:fd w.heap.size c 0 0 0:=(j.block _ (aw r)).trans r
  have a9:=(B _).trans (j.mono (B _).size)
  exact⟨a4,a4.put m n o,((a9.setCell (ah _) _).setCell (ah _) _).setCell (ah _) _⟩
 have A:Hid (∀(c:World)(m n o:Int),Below (w.alloc (.cells #[.int .i64 0,.int .i64 0,.int .i64 0] 165)).heap.size (w.alloc (.cells #[.int .i64 0,.int .i64 0,.int .i64 0] 165)) c->fd w.heap.size c 0 0 0/\fd w.heap.size (((c.setCell ⟨w.heap.size,0,none⟩ (.int .i64 m)).setCell ⟨w.heap.size,1,none⟩ (.int .i64 n)).setCell ⟨w.heap.size,2,none⟩ (.int .i64 o)) m n o/\Below w.heap.size w (((c.setCell ⟨w.heap.size,0,none⟩ (.int .i64 m)).setCell ⟨w.heap.size,1,none⟩ (.int .i64 n)).setCell ⟨w.heap.size,2,none⟩ (.int .i64 o))):=x
 rw[z]
 by_cases d:(ae a i).k=28
 ·have b:Hid (iJ (ae a i)=10/\jD (ae a i)=2/\gK (ae a i)=3/\fE (ae a i).k=true):=⟨by unfold iJ;rw[ab d],by unfold jD;rw[ab d],by unfold gK;rw[ab d],by rw[d];rfl⟩
  obtain⟨av,am,an⟩:=ao
  have q:=sh _ av am an 1 (by decide) 10 rfl (by decide)
  rw[d]at H
  generalize jd (dL (ae a i).k)=a7 at u⊢
  clear x t z y r
  go_enter Tryz.func139,Tryz.ntmps139
  go_wp2_with (first|(go_at_call 307;refine(E _).mono ?_;rintro e l ⟨rfl,ar⟩;subst l)|(go_at_call 183;fail))
  refine q.mono ?_
  rintro e c ⟨rfl,j⟩
  have f:=A.out c 10 2 3 j
  obtain⟨J,K,ad,af⟩:=f.1.cells
  have p:Hid (fd w.heap.size (((c.setCell ⟨w.heap.size,0,none⟩ (.int .i64 10)).setCell ⟨w.heap.size,1,none⟩ (.int .i64 2)).setCell ⟨w.heap.size,2,none⟩ (.int .i64 3)) 10 2 3/\Below w.heap.size w (((c.setCell ⟨w.heap.size,0,none⟩ (.int .i64 10)).setCell ⟨w.heap.size,1,none⟩ (.int .i64 2)).setCell ⟨w.heap.size,2,none⟩ (.int .i64 3))):=f.2
  have ak:nw (3*1+1)=2:=rfl
  have al:nw (3*1+2)=3:=rfl
  rw[ak,al]
  clear f j
  go_wp2_with fail
  exact aH (mi rfl _ _ _ ⟨w.heap.size,0,none⟩ (.bool true) _ rfl rfl (tH _ _ _ _ _ p.out.1)) rfl ⟨by rw[b.out.1,b.out.2.1,b.out.2.2.1,b.out.2.2.2],p.out.2⟩
 have a1:((ae a i).k==28)=false:=by simpa using d
 by_cases g:(ae a i).k=29
 ·have b:Hid (iJ (ae a i)=26/\jD (ae a i)=1/\gK (ae a i)=2/\fE (ae a i).k=true):=⟨by unfold iJ;rw[aa d,ab g],by unfold jD;rw[aa d,ab g],by unfold gK;rw[aa d,ab g],by rw[g];rfl⟩
  obtain⟨av,am,an⟩:=ao
  have q:=sh _ av am an 0 (by decide) 26 rfl (by decide)
  rw[g]at H
  generalize jd (dL (ae a i).k)=a7 at u⊢
  clear x t z y r
  go_enter Tryz.func139,Tryz.ntmps139
  go_wp2_with (first|(go_at_call 307;refine(E _).mono ?_;rintro e l ⟨rfl,ar⟩;subst l)|(go_at_call 183;fail))
  refine q.mono ?_
  rintro e c ⟨rfl,j⟩
  have f:=A.out c 26 1 2 j
  obtain⟨J,K,ad,af⟩:=f.1.cells
  have p:Hid (fd w.heap.size (((c.setCell ⟨w.heap.size,0,none⟩ (.int .i64 26)).setCell ⟨w.heap.size,1,none⟩ (.int .i64 1)).setCell ⟨w.heap.size,2,none⟩ (.int .i64 2)) 26 1 2/\Below w.heap.size w (((c.setCell ⟨w.heap.size,0,none⟩ (.int .i64 26)).setCell ⟨w.heap.size,1,none⟩ (.int .i64 1)).setCell ⟨w.heap.size,2,none⟩ (.int .i64 2))):=f.2
  have ak:nw (3*0+1)=1:=rfl
  have al:nw (3*0+2)=2:=rfl
  rw[ak,al]
  clear f j
  go_wp2_with fail
  exact aH (mi rfl _ _ _ ⟨w.heap.size,0,none⟩ (.bool true) _ rfl rfl (tH _ _ _ _ _ p.out.1)) rfl ⟨by rw[b.out.1,b.out.2.1,b.out.2.2.1,b.out.2.2.2],p.out.2⟩
 have a2:((ae a i).k==29)=false:=by simpa using g
 by_cases h:(ae a i).k=31
 ·have b:Hid (iJ (ae a i)=60+(ae a i).op/\jD (ae a i)=(rB (ae a i).op).1/\gK (ae a i)=(rB (ae a i).op).2/\fE (ae a i).k=true):=⟨by unfold iJ;rw[aa d,aa g,ab h],by unfold jD;rw[aa d,aa g,ab h],by unfold gK;rw[aa d,aa g,ab h],by rw[h];rfl⟩
  have C:=y h
  have q:=Hi _ ao C
  have a6:dL (ae a i).k=4:=by rw[h];rfl
  have bl:=(t.cells (ap (.cells #[.int .i64 0,.int .i64 0,.int .i64 0] 165))).2.2 _ (by rw[a6];rfl)
  rw[a6]at u⊢
  simp only[jd]at u⊢
  have br:=fun w=>ahw I w
  rw[h]at H
  have bf:IntKind.i64.wrap (60+(ae a i).op)=60+(ae a i).op:=by rw[bm];omega
  have bc:(ae a i).op<=18:=C.2
  have bd:1<=(ae a i).op:=C.1
  generalize (rB (ae a i).op).1=F at q b
  generalize (rB (ae a i).op).2=G at q b
  generalize (ae a i).op=op at q b bl bf bc bd
  clear x t z y r C
  go_enter Tryz.func139,Tryz.ntmps139
  go_wp2_with (first|(go_at_call 307;refine(E _).mono ?_;rintro e l ⟨rfl,ar⟩;subst l)|(go_at_call 183;fail))
  refine q.mono ?_
  rintro e c ⟨rfl,j⟩
  have f:=A.out c (60+op) F G j
  obtain⟨J,K,ad,af⟩:=f.1.cells
  have p:Hid (fd w.heap.size (((c.setCell ⟨w.heap.size,0,none⟩ (.int .i64 (60+op))).setCell ⟨w.heap.size,1,none⟩ (.int .i64 F)).setCell ⟨w.heap.size,2,none⟩ (.int .i64 G)) (60+op) F G/\Below w.heap.size w (((c.setCell ⟨w.heap.size,0,none⟩ (.int .i64 (60+op))).setCell ⟨w.heap.size,1,none⟩ (.int .i64 F)).setCell ⟨w.heap.size,2,none⟩ (.int .i64 G))):=f.2
  clear f j
  go_wp2_with fail
  exact aH (mi rfl _ _ _ ⟨w.heap.size,0,none⟩ (.bool true) _ rfl rfl (tH _ _ _ _ _ p.out.1)) rfl ⟨by rw[b.out.1,b.out.2.1,b.out.2.2.1,b.out.2.2.2],p.out.2⟩
 ·have a3:((ae a i).k==31)=false:=by simpa using h
  have b:Hid (iJ (ae a i)=0/\jD (ae a i)=0/\gK (ae a i)=0/\fE (ae a i).k=false):=⟨by unfold iJ;rw[aa d,aa g,aa h],by unfold jD;rw[aa d,aa g,aa h],by unfold gK;rw[aa d,aa g,aa h],by unfold fE;rw[a1,a2,a3];rfl⟩
  have f:=A.out _ 0 0 0 (ag _ _)
  obtain⟨J,K,ad,af⟩:=f.1.cells
  have a0:Hid (fd w.heap.size (w.alloc (.cells #[.int .i64 0,.int .i64 0,.int .i64 0] 165)) 0 0 0/\Below w.heap.size w (w.alloc (.cells #[.int .i64 0,.int .i64 0,.int .i64 0] 165))):=⟨r,B _⟩
  generalize jd (dL (ae a i).k)=a7 at u⊢
  generalize (ae a i).k=bs at H a1 a2 a3 u b
  clear x t z y r f d g h
  go_enter Tryz.func139,Tryz.ntmps139
  go_wp2_with (go_at_call 307;refine(E _).mono ?_;rintro e l ⟨rfl,ar⟩;subst l)
  exact aH (mi rfl _ _ _ ⟨w.heap.size,0,none⟩ (.bool false) _ rfl rfl (tH _ _ 0 0 0 a0.out.1)) rfl ⟨by rw[b.out.1,b.out.2.1,b.out.2.2.1,b.out.2.2.2],a0.out.2⟩
section
variable {w0 : World} {vb : Nat}
structure Pq (w0:World) (vb:Nat) (w:World) (T:ByteArray) (W:World):Prop where
 ps:Ps w0 vb T W
 kq:Kq w0.heap.size w W
variable {w V W : World} {T Y : ByteArray} {f : FuncId} {args : Array Value} {Q : Ending → World → Prop}
theorem Pq.below(P:Pq w0 vb w T V)(b:Below V.heap.size V W):Pq w0 vb w T W:=⟨P.ps.below b,P.kq.trans (Kq.of_below b)⟩
theorem Pq.stp(P:Hid (Pq w0 vb w T V))(c:Below V.heap.size V W)(S:Hid (Pw w0 vb f args Y))(k:∀b,Hid (Pq w0 vb w (T++Y) b)->Below w0.heap.size w0 b->Q (.returned (.tuple #[])) b):Calls Tryz.prog f args W Q:=
 (S _ _ (P.below c).ps).mono fun e d a=>a.1 ▸ k d ⟨a.2.1,(P.below c).kq.trans a.2.2⟩ a.2.1.pg.bel
theorem Pq.fin(P:Hid (Pq w0 vb w Y W))(e:Y=T):Ending.returned (.tuple #[])= .returned (.tuple #[])/\Ps w0 vb T W/\Kq w0.heap.size w W:=⟨rfl,e ▸ P.ps,P.kq⟩
variable {L : List Im} {N : Nd} {b n c j : Nat} {vn : Value} {pa : Addr} {q : Int}
theorem NdQ.kid0(a:NdQ w0 L N b vn (some pa) n c)(f:N.ks[0]?=some q)(W:World)(e:Below w0.heap.size w0 W):W.cell? pa=some (nV (jo L q)):=by
 obtain⟨_,d,_,g⟩:=(a.ks.below e).get f
 cases d
 simpa [Addr.add] using g
theorem NdQ.kid(a:NdQ w0 L N b vn (some pa) n c)(g:N.ks[j]?=some q)(f:j≠0)(W:World)(e:Below w0.heap.size w0 W):W.cell? ⟨pa.block,pa.off+j,none⟩=some (nV (jo L q)):=by
 obtain⟨_,d,_,h⟩:=(a.ks.below e).get g
 cases d
 exact zd h f
end
section
variable (w0 : World) (vb : Nat) (L : List Im) (t : Nat)
abbrev LX(b:List Int)(X:ByteArray):Prop:=∀a,nK w0 L a b->Pw w0 vb 135 #[vP vb,fJ w0 t,a] X
abbrev VX(f:FuncId)(q:Nat)(a:ByteArray):Prop:=Pw w0 vb f #[vP vb,fJ w0 t,nV (jo L (q:Int))] a
inductive MO (N:Nd) (i:Nat):FuncId->ByteArray->Prop
 |brk:MO N i 58 ⟨#[98,114,101,97,107]⟩
 |nxt:MO N i 59 ⟨#[110,101,120,116]⟩
 |nil_:MO N i 64 ⟨#[110,105,108]⟩
 |tru:MO N i 65 ⟨#[116,114,117,101]⟩
 |fls:MO N i 66 ⟨#[102,97,108,115,101]⟩
 |rst:MO N i 71 ⟨#[46,46,46]⟩
 |do_ {q:Nat}{E:ByteArray}:N.ks[0]?=some (q:Int)->Hid (VX w0 vb L t 83 q E)->MO N i 53 E
 |itm {q:Nat}{E:ByteArray}:N.ks[0]?=some (q:Int)->Hid (VX w0 vb L t 83 q E)->MO N i 80 E
 |ret0:N.ks.length=0->MO N i 60 ⟨#[114,101,116,117,114,110]⟩
 |ret {X:ByteArray}:0<N.ks.length->LX w0 vb L t N.ks X->MO N i 60 (⟨#[114,101,116,117,114,110]⟩++(⟨#[32]⟩++X))
 |thr {X:ByteArray}:LX w0 vb L t N.ks X->MO N i 62 (⟨#[116,104,114,111,119,32]⟩++X)
 |dfr {X:ByteArray}:LX w0 vb L t N.ks X->MO N i 63 (⟨#[100,101,102,101,114,32]⟩++X)
 |ind {q r:Nat}{E F:ByteArray}:N.ks[0]?=some (q:Int)->N.ks[1]?=some (r:Int)->Hid (VX w0 vb L t 144 q E)->Hid (VX w0 vb L t 145 r F)->MO N i 74 (E++F)
 |one {q:Nat}{E:ByteArray}:N.ks[0]?=some (q:Int)->Hid (Pw w0 vb 140 #[vP vb,fJ w0 t,nV (jo L (q:Int)),.bool true] E)->MO N i 79 E
 |iff {Y:ByteArray}:Hid (Pw w0 vb 136 #[vP vb,fJ w0 t,.string ⟨#[105,102,32]⟩,nV (jo L (i:Int))] Y)->MO N i 54 Y
 |par {q:Nat}{E X:ByteArray}:N.ks.length=2->N.ks[0]?=some (q:Int)->Hid (VX w0 vb L t 145 q E)->LX w0 vb L t (N.ks.drop 1) X->MO N i 81 (E++(⟨#[32,61,32]⟩++X))
 |whl {q:Nat}{X E:ByteArray}:N.ks.length=2->LX w0 vb L t (N.ks.take 1) X->N.ks[1]?=some (q:Int)->Hid (VX w0 vb L t 83 q E)->MO N i 55 (⟨#[119,104,105,108,101,32]⟩++X++⟨#[32]⟩++E)
 |fnx {Y:ByteArray}:Hid (VX w0 vb L t 134 i Y)->MO N i 78 (⟨#[102,110]⟩++Y)
end
theorem Dx{a:World}{c:Nat}{x:List Nd}{L:List Im}{base:Nat}{am:Value}(z:Tp a x L base am){t i:Nat}(ht:t<=100000)(ad:i<x.length){N:Nd}(I:ae x i=N)(a0:N.ks.length<=1048576){f:FuncId}{m:ByteArray}(J:MO a c L t N i f m):
  Pw a c f #[vP c,fJ a t,nV (jo L i)] m:=by
 intro G h k
 obtain⟨A,a8,an,al,n,p,d⟩:=rx z ad
 rw[I]at p d
 have w:=fun h=>de A h
 have a1:=fun h=>mj a.heap.size (ek t) h
 have a3:=fun h=>sw a.heap.size (ek t) h
 have af:=d.hn
 have a2:=fun h=>mq (dL N.k) A h
 have E:Hid (∀b:ByteArray,b.size<=100000000->Pw a c 306 #[kF a t,.string b] b):=fun b k=>iw a c t b k
 have F:Hid (∀(b e:ByteArray)(g:Value),b.size<=100000000->Hid (Pw a c 135 #[vP c,fJ a t,g] e)->Pw a c 133 #[vP c,fJ a t,.string b,g] (b++e)):=fun b e g k s=>jJ a c t b e k g s
 have C:Hid (∀(b e m:ByteArray)(g l:Value),b.size<=100000000->Hid (Pw a c 135 #[vP c,fJ a t,g] e)->Hid (Pw a c 83 #[vP c,fJ a t,l] m)->Pw a c 137 #[vP c,fJ a t,.string b,g,l] (b++e++⟨#[32]⟩++m)):=fun b e m g l k s ak=>si a c t b (b++e) m g l (jJ a c t b e k g s) ak
 have a4:=fun o (v:Below a.heap.size a o)=>(d.cells v).1
 have a5:=fun o (v:Below a.heap.size a o)=>(d.cells v).2.1
 have u:=k.pg.bel
 have P:Hid (Pq a c h G h):=⟨k,Kq.refl _ _⟩
 have y:=aj d
 cases J
 case' ret hX=>have q:=aj (hX _ d.ks)
 case' ret=>have ap:(0:Int)<(al:Int):=by omega
 case' thr hX=>have q:=aj (hX _ d.ks)
 case' dfr hX=>have q:=aj (hX _ d.ks)
 case' iff hX=>rw[p]at hX
 case' par hq _ hX=>obtain⟨r,rfl,B, -⟩:=d.ks.get hq;have q:=aj (hX (.slice (some ⟨r.block,r.off+1,none⟩) 1 (n-1)) (d.ks.drop 1 1 (by omega) (by omega)))
 case' whl hX hq _=>obtain⟨r,rfl,B, -⟩:=d.ks.get hq;have q:=aj (hX _ (d.ks.take 1 (by omega)))
 case' fnx hX=>unfold VX at hX;rw[p]at hX
 all_goals
  try (have l:=af.symm.trans (by with_reducible assumption:N.ks.length=_);subst l)
  try (have l:=d.ks.get (by with_reducible assumption:N.ks[_]?=some _);obtain⟨r,rfl,B, -⟩:=l)
  (try have a9:=y.kid0 (by with_reducible assumption))
  (try have ba:=y.kid (j:=1) (by with_reducible assumption) (by decide))
  try (have ar:=nI (by with_reducible assumption:N.ks[0]?=some _))
  try (have av:=nI (by with_reducible assumption:N.ks[1]?=some _))
  try (have K:(1:Int)<=(n:Int)/\1<=n/\¬n=0/\(1<=n):=(by omega);obtain⟨_,_,_,_⟩:=K)
  try (have ao:¬n=1:=(by omega))
  rw[p]
  generalize jd (dL N.k)=a7 at *
  try unfold VX at *
  unfold fJ kF at *
  generalize ek t=a6 at *
  clear k d p z
  go_in
  repeat' (go_wp2_with (go_at_call 307;refine dj (w _) ?_);first|(refine Pq.stp P (ag _ _) (by with_reducible first|assumption|exact aj (E.out _ (by decide))|exact aj (F.out _ _ _ (by decide) (by assumption))) ?_;intro o P u)|(go_region_held3 (fun H=>Below a.heap.size a H) (first|exact(P.below (aq (ag _ _))).ps.pg.bel|exact u|go_keep) (first|(go_at_call 307;refine dj (w _) ?_)|(refine Pq.stp P (aq (ag _ _)) (by with_reducible exact aj (C.out _ _ _ _ _ (by decide) (by assumption) (by assumption))) ?_;intro o P u))))
  all_goals
   go_wp2_with (go_at_call 307;refine dj (w _) ?_)
   go_end0
   exact Pq.fin P (by simp only[be])
theorem sz2{a s:ByteArray}(b:a.size<=100)(c:s.size<=1000000):(a++s).size<=100000000:=by rw[ax];omega
theorem sz3{a s b:ByteArray}(c:a.size<=100)(e:s.size<=1000000)(d:b.size<=100):(a++s++b).size<=100000000:=by rw[ax,ax];omega
section
variable (w0 : World) (vb : Nat) (L : List Im) (t : Nat)
inductive MN (N:Nd) (i:Nat):FuncId->ByteArray->Prop
 |let0:Hid (N.k=2)->N.ks.length=0->MN N i 49 (⟨#[108,101,116,32]⟩++bK N.nm)
 |let1 {X:ByteArray}:Hid (N.k=2)->0<N.ks.length->LX w0 vb L t N.ks X->MN N i 49 (⟨#[108,101,116,32]⟩++bK N.nm++(⟨#[32,61,32]⟩++X))
 |cst {X:ByteArray}:Hid (N.k=3)->LX w0 vb L t N.ks X->MN N i 50 (⟨#[99,111,110,115,116,32]⟩++bK N.nm++⟨#[32,61,32]⟩++X)
 |fns {q:Nat}{E:ByteArray}:Hid (N.k=4)->N.ks[0]?=some (q:Int)->Hid (VX w0 vb L t 134 q E)->MN N i 51 (⟨#[102,110,32]⟩++bK N.nm++E)
 |try_ {q r:Nat}{E F:ByteArray}:Hid (N.k=14)->N.ks[0]?=some (q:Int)->N.ks[1]?=some (r:Int)->Hid (VX w0 vb L t 83 q E)->Hid (VX w0 vb L t 83 r F)->MN N i 61 (⟨#[116,114,121,32]⟩++E++⟨#[32,99,97,116,99,104,32]⟩++bK N.nm++⟨#[32]⟩++F)
 |eac {q:Nat}{X E:ByteArray}:Hid (N.k=10)->N.ks.length=2->LX w0 vb L t (N.ks.take 1) X->N.ks[1]?=some (q:Int)->Hid (VX w0 vb L t 83 q E)->MN N i 57 (⟨#[102,111,114,32]⟩++bK N.nm++⟨#[32,105,110,32]⟩++X++⟨#[32]⟩++E)
 |fr {k q:Nat}{X E:ByteArray}:Hid (N.k=9)->k=2\/k=3->N.ks.length=k+1->LX w0 vb L t (N.ks.take k) X->N.ks[k]?=some (q:Int)->Hid (VX w0 vb L t 83 q E)->MN N i 56 (⟨#[102,111,114,32]⟩++bK N.nm++⟨#[32,61,32]⟩++X++⟨#[32]⟩++E)
end
theorem m_n{a:World}{c:Nat}{E:List Nd}{L:List Im}{base:Nat}{a4:Value}(J:Tp a E L base a4){t i:Nat}(ht:t<=100000)(ar:i<E.length){N:Nd}(am:ae E i=N)(bk:N.ks.length<=1048576)(av:N.nm.length<=1048576)(g:(bK N.nm).size<=1000000){f:FuncId}{p:ByteArray}(K:MN a c L t N i f p):
  Pw a c f #[vP c,fJ a t,nV (jo L i)] p:=by
 intro ak l m
 obtain⟨v,a3,a7,a2,q,A,d⟩:=rx J ar
 rw[am]at A d
 have B:=fun l=>de v l
 have bl:=fun l=>mj a.heap.size (ek t) l
 have bn:=fun l=>sw a.heap.size (ek t) l
 have a1:=d.hn
 have ad:dL N.k=0:=by cases K<;>(rw[(by with_reducible assumption:Hid (N.k=_)).out];rfl)
 have a0:=fun l=>mq 0 v l
 have H:Hid (∀b:ByteArray,b.size<=100000000->Pw a c 306 #[kF a t,.string b] b):=fun b m=>iw a c t b m
 have I:Hid (∀(b h:ByteArray)(k:Value),b.size<=100000000->Hid (Pw a c 135 #[vP c,fJ a t,k] h)->Pw a c 133 #[vP c,fJ a t,.string b,k] (b++h)):=fun b h k m z=>jJ a c t b h m k z
 have G:Hid (∀(b h p:ByteArray)(k o:Value),b.size<=100000000->Hid (Pw a c 135 #[vP c,fJ a t,k] h)->Hid (Pw a c 83 #[vP c,fJ a t,o] p)->Pw a c 137 #[vP c,fJ a t,.string b,k,o] (b++h++⟨#[32]⟩++p)):=fun b h p k o m z n=>si a c t b (b++h) p k o (jJ a c t b h m k z) n
 have F:Hid (∀e,Below a.heap.size a e->Calls Tryz.prog 132 #[.iface 109 (.pointer (some ⟨v,0,none⟩))] e fun y a5=>y= .returned (.string (bK N.nm))/\Below e.heap.size e a5):=fun e r=>Fg e v a3 N.nm (d.nm.below r) d.jn av (by omega) ((d.cells r).2.2 _ (by rw[ad];rfl))
 have br:=fun e (r:Below a.heap.size a e)=>(d.cells r).1
 have bs:=fun e (r:Below a.heap.size a e)=>(d.cells r).2.1
 have s:=m.pg.bel
 have P:Hid (Pq a c l ak l):=⟨m,Kq.refl _ _⟩
 have u:=aj d
 cases K
 case' let1 hX=>have x:=aj (hX _ d.ks);have bc:(0:Int)<(a2:Int):=by omega
 case' cst hX=>have x:=aj (hX _ d.ks)
 case' eac hX _ _=>have x:=aj (hX _ (d.ks.take 1 (by omega)))
 case' fr hk _ hX _ _=>have x:=aj (hX _ (d.ks.take _ (by omega)));obtain rfl|rfl:=hk
 all_goals
  try (have o:=a1.symm.trans (by with_reducible assumption:N.ks.length=_);subst o)
  try (have o:=d.ks.get (by with_reducible assumption:N.ks[_]?=some _);obtain⟨bo,rfl,bb, -⟩:=o)
  (try have bv:=u.kid0 (by with_reducible assumption))
  (try have bw:=u.kid (j:=1) (by with_reducible assumption) (by decide))
  (try have bx:=u.kid (j:=2) (by with_reducible assumption) (by decide))
  (try have bA:=u.kid (j:=3) (by with_reducible assumption) (by decide))
  try (have bd:=nI (by with_reducible assumption:N.ks[0]?=some _))
  try (have bf:=nI (by with_reducible assumption:N.ks[1]?=some _))
  try (have ba:¬q=0:=by omega)
  try (have an:(1:Int)<=(q:Int)/\1<=q:=(by omega);obtain⟨_,_⟩:=an)
  try (have ao:(2:Int)<=(q:Int)/\2<=q:=(by omega);obtain⟨_,_⟩:=ao)
  try (have ap:(3:Int)<=(q:Int)/\3<=q:=(by omega);obtain⟨_,_⟩:=ap)
  rw[A,ad]
  simp only[jd]at a0⊢
  generalize bK N.nm=af at *
  have a8:∀n:Nat,n<=100->¬9223372036854775807<n+af.size:=fun n _=>by omega
  have a9:∀n C:Nat,n<=100->C<=100->¬9223372036854775807<n+af.size+C:=fun n C _ _=>by omega
  try unfold VX at *
  unfold fJ kF at *
  generalize ek t=bt at *
  clear m d A J
  go_in
  repeat' (go_wp2_with (first|(go_at_call 307;refine dj (B _) ?_)|(go_at_call 132;refine(F.out _ s).mono ?_;rintro y a6 ⟨rfl,w⟩;have P:=aj (P.below w);have s:=P.ps.pg.bel));first|(refine Pq.stp P (ag _ _) (by with_reducible first|assumption|exact aj (H.out _ (by first|decide|exact sz2 (by decide) g|exact sz3 (by decide) g (by decide)))|exact aj (I.out _ _ _ (by first|decide|exact sz2 (by decide) g|exact sz3 (by decide) g (by decide)) (by assumption))|exact aj (G.out _ _ _ _ _ (by first|decide|exact sz2 (by decide) g|exact sz3 (by decide) g (by decide)) (by assumption) (by assumption))) ?_;intro e P s)|(go_region_held3 (fun al=>Below a.heap.size a al) (first|exact(P.below (aq (ag _ _))).ps.pg.bel|exact((P.below (aq (ag _ _))).below w).ps.pg.bel|exact s|go_keep) (first|(go_at_call 307;refine dj (B _) ?_)|(go_at_call 132;refine(F.out _ (P.below (aq (ag _ _))).ps.pg.bel).mono ?_;rintro y a6 ⟨rfl,w⟩)|(refine Pq.stp P (by first|exact aq (ag _ _)|exact(aq (ag _ _)).trans w) (by with_reducible first|assumption|exact aj (H.out _ (by first|decide|exact sz2 (by decide) g|exact sz3 (by decide) g (by decide)))|exact aj (I.out _ _ _ (by first|decide|exact sz2 (by decide) g|exact sz3 (by decide) g (by decide)) (by assumption))|exact aj (G.out _ _ _ _ _ (by first|decide|exact sz2 (by decide) g|exact sz3 (by decide) g (by decide)) (by assumption) (by assumption))) ?_;intro e P s))))
  all_goals
   go_wp2_with (go_at_call 307;refine dj (B _) ?_)
   go_end0
   exact Pq.fin P (by simp only[be])
section
variable (w0 : World) (vb : Nat) (L : List Im) (t : Nat)
inductive MV (N:Nd) (i:Nat):FuncId->ByteArray->Prop
 |flt:Hid (N.k=24)->MV N i 68 N.x
 |nam:Hid (N.k=26)->MV N i 70 N.x
 |str:Hid (N.k=25)->MV N i 69 (eI (iK N.x))
 |nmd {X:ByteArray}:Hid (N.k=42)->LX w0 vb L t N.ks X->MV N i 82 (⟨#[46]⟩++N.x++⟨#[32,61,32]⟩++X)
 |fld {q:Nat}{E:ByteArray}:Hid (N.k=33)->N.ks[0]?=some (q:Int)->Hid (VX w0 vb L t 144 q E)->MV N i 75 (E++(⟨#[46]⟩++N.x))
 |int_:Hid (N.k=23)->Lm w0-> -9223372036854775808<=N.n->N.n<=9223372036854775807->MV N i 67 (wu N.n)
 |set {m:Nat}{X Z:ByteArray}:Hid (N.k=5)->Hid (N.n=(m:Int))->1<=m/\m<N.ks.length->LX w0 vb L t (N.ks.take m) X->LX w0 vb L t (N.ks.drop m) Z->MV N i 52 (X++(⟨#[32,61,32]⟩++Z))
end
theorem m_v{a:World}{j:Nat}{B:List Nd}{L:List Im}{base:Nat}{a5:Value}(G:Tp a B L base a5){t i:Nat}(ht:t<=100000)(ar:i<B.length){N:Nd}(am:ae B i=N)(bt:N.ks.length<=1048576)(a0:N.x.size<=4000){f:FuncId}{H:ByteArray}(an:MV a j L t N i f H):
  Pw a j f #[vP j,fJ a t,nV (jo L i)] H:=by
 intro af c e
 obtain⟨n,a4,a9,A,r,y,g⟩:=rx G ar
 rw[am]at y g
 have z:=fun c=>de n c
 have bv:=fun c=>mj a.heap.size (ek t) c
 have bx:=fun c=>sw a.heap.size (ek t) c
 have bw:=g.hn
 have J:=fun c=>mq (dL N.k) n c
 have E:Hid (∀h:ByteArray,h.size<=100000000->Pw a j 306 #[kF a t,.string h] h):=fun h e=>iw a j t h e
 have F:Hid (∀(h m:ByteArray)(v:Value),h.size<=100000000->Hid (Pw a j 135 #[vP j,fJ a t,v] m)->Pw a j 133 #[vP j,fJ a t,.string h,v] (h++m)):=fun h m v e al=>jJ a j t h m e v al
 have bA:=fun b (l:Below a.heap.size a b)=>(g.cells l).2.1
 have p:=e.pg.bel
 have P:Hid (Pq a j c af c):=⟨e,Kq.refl _ _⟩
 have K:=aj g
 have u:N.x.size<=1000000:=by omega
 cases an
 case' str e=>
  have w:Hid (∀b,Below a.heap.size a b->Calls Tryz.prog 88 #[.string N.x] b fun o C=>o= .returned (.string (eI (iK N.x)))/\Below b.heap.size b C):=fun b l=>Hh N.x a0 b
  have I:=uy N.x
  unfold aaw at I
  have av:(eI (iK N.x)).size<=100000000:=by omega
  generalize eI (iK N.x)=a3 at *
 case' int_ e hLay h0 h1=>
  have w:Hid (∀b,Below a.heap.size a b->Calls Tryz.prog 138 #[.int .i64 N.n] b fun o C=>o= .returned (.string (wu N.n))/\Below b.heap.size b C):=fun b l=>Ej N.n h0 h1 b (hLay.below l (ah _))
  have I:=uK N.n h1
  have av:(wu N.n).size<=100000000:=by omega
  have q:dL N.k=2:=by rw[e.out];rfl
  generalize wu N.n=a3 at *
 case' set d m Z e hm h1 hX hZ=>
  have q:dL N.k=1:=by rw[e.out];rfl
  obtain⟨a1,rfl,ap, -⟩:=g.ks.get (aF (show 0<N.ks.length by omega))
  have ad:=aj (hX _ (g.ks.take d (by omega)))
  have a8:=aj (hZ _ (g.ks.drop d (A-d) (by omega) (by omega)))
  have bk:¬r=0:=by omega
  have bl:(d:Int)<=(r:Int):=by omega
  have bn:¬r=d:=by omega
  have bo:(0:Int)<=(d:Int):=by omega
  have br:(d:Int)<=(A:Int):=by omega
  have ao:d<=A/\d<=r:=by omega
  obtain⟨_,_⟩:=ao
 case' nmd hX=>have ad:=aj (hX _ g.ks)
 all_goals
  try (have q:dL N.k=3:=by rw[(by with_reducible assumption:Hid (N.k=_)).out];rfl)
  have a2:=fun b (l:Below a.heap.size a b)=>(g.cells l).2.2 _ (show(exT N a4 (dL N.k))[0]?=some _ by rw[q];rfl)
  try (rw[(by with_reducible assumption:Hid (N.n=_)).out]at a2)
  try (have a7:=g.ks.get (by with_reducible assumption:N.ks[_]?=some _);obtain⟨a1,rfl,ap, -⟩:=a7)
  (try have bE:=K.kid0 (by with_reducible assumption))
  try (have bs:=nI (by with_reducible assumption:N.ks[0]?=some _))
  rw[y,q]
  rw[q]at J
  simp only[jd]at J⊢
  have bc:=fun c=>ajJ n c
  have bd:=fun c=>ajK n c
  have bf:=fun c=>ajL n c
  have ba:∀k:Nat,k<=100->¬9223372036854775807<k+N.x.size:=fun k _=>by omega
  have bb:∀k d:Nat,k<=100->d<=100->¬9223372036854775807<k+N.x.size+d:=fun k d _ _=>by omega
  try unfold VX at *
  unfold fJ kF at *
  generalize ek t=bD at *
  clear e g y G
  go_in
  repeat' (go_wp2_with (first|(go_at_call 307;refine dj (z _) ?_)|((first|go_at_call 88|go_at_call 138);refine(w.out _ p).mono ?_;rintro o a6 ⟨rfl,s⟩;have P:=aj (P.below s);have p:=P.ps.pg.bel));first|(refine Pq.stp P (ag _ _) (by with_reducible first|assumption|exact aj (E.out _ (by first|assumption|decide|omega|exact sz2 (by decide) u))|exact aj (F.out _ _ _ (by first|decide|exact sz3 (by decide) u (by decide)) (by assumption))) ?_;intro b P p)|(go_region_held3 (fun ak=>Below a.heap.size a ak) (first|exact(P.below (aq (ag _ _))).ps.pg.bel|exact((P.below (aq (ag _ _))).below s).ps.pg.bel|exact p|go_keep) (first|(go_at_call 307;refine dj (z _) ?_)|((first|go_at_call 88|go_at_call 138);refine(w.out _ (P.below (aq (ag _ _))).ps.pg.bel).mono ?_;rintro o a6 ⟨rfl,s⟩)|(refine Pq.stp P (by first|exact aq (ag _ _)|exact(aq (ag _ _)).trans s) (by with_reducible first|assumption|exact aj (E.out _ (by first|assumption|decide|omega|exact sz2 (by decide) u))|exact aj (F.out _ _ _ (by first|decide|exact sz3 (by decide) u (by decide)) (by assumption))) ?_;intro b P p))))
  all_goals
   go_wp2_with (go_at_call 307;refine dj (z _) ?_)
   go_end0
   exact Pq.fin P (by simp only[be])
section
variable (w0 : World) (vb : Nat) (L : List Im) (t : Nat)
inductive MD (N:Nd) (i:Nat):FuncId->UInt8->ByteArray->Prop
 |tab {X:ByteArray}:LX w0 vb L t N.ks X->MD N i 77 125 (⟨#[123]⟩++X)
 |call {q:Nat}{E X:ByteArray}:N.ks[0]?=some (q:Int)->Hid (VX w0 vb L t 144 q E)->LX w0 vb L t (N.ks.drop 1) X->MD N i 76 41 (E++⟨#[40]⟩++X)
end
theorem m_d{a:World}{d:Nat}{p:List Nd}{L:List Im}{base:Nat}{al:Value}(s:Tp a p L base al){t i:Nat}(ht:t<=100000)(ad:i<p.length){N:Nd}(H:ae p i=N)(ar:N.ks.length<=1048576){f:FuncId}{z:UInt8}{u:ByteArray}(I:MD a d L t N i f z u):
  Pw a d f #[vP d,fJ a t,nV (jo L i)] (u++⟨#[z]⟩):=by
 intro g b e
 obtain⟨v,a7,am,h,w,o,c⟩:=rx s ad
 rw[H]at o c
 have y:=fun b=>de v b
 have av:=fun b=>mj a.heap.size (ek t) b
 have a2:=fun b=>sw a.heap.size (ek t) b
 have a1:=c.hn
 have a0:=fun b=>mq (dL N.k) v b
 have F:Hid (∀j:ByteArray,j.size<=100000000->Pw a d 306 #[kF a t,.string j] j):=fun j e=>iw a d t j e
 have E:Hid (∀g b,Ps a d g b->∀m,CallsD Tryz.prog 306 #[kF a t,.string ⟨#[z]⟩] m b fun x A B=>A=m/\(x= .returned (.tuple #[])/\Ps a d (g++⟨#[z]⟩) B/\Kq a.heap.size b B)):=fun g b e m=>jC a d t _ g (by show(1:Nat)<=100000000;decide) m b e
 have a3:=fun l (n:Below a.heap.size a l)=>(c.cells n).1
 have a4:=fun l (n:Below a.heap.size a l)=>(c.cells n).2.1
 have G:=e.pg.bel
 have P:Hid (Pq a d b g b):=⟨e,Kq.refl _ _⟩
 have C:=aj c
 cases I
 case' tab hX=>have r:=aj (hX _ c.ks)
 case' call hq _ hX=>
  obtain⟨q,rfl,an, -⟩:=c.ks.get hq
  have ao:=nI hq
  have ap:(0:Int)<(h:Int):=by omega
  have J:(1:Int)<=(h:Int)/\1<=h:=by omega
  obtain⟨_,_⟩:=J
  have a9:=C.kid0 hq
  by_cases K:w=1
  case' pos=>
   obtain rfl:h=1:=by omega
   subst K
   have r:=aj (hX (.slice (some q) 0 0) (.inl ⟨by rw[List.drop_eq_nil_iff];omega,_,_,rfl⟩))
  case' neg=>have r:=aj (hX (.slice (some ⟨q.block,q.off+1,none⟩) (h-1) (w-1)) (c.ks.drop 1 (h-1) (by omega) (by omega)))
 all_goals
  rw[o]
  generalize jd (dL N.k)=a6 at *
  try unfold VX at *
  unfold fJ kF at *
  generalize ek t=a5 at *
  clear e c o s
  first|go_enter_defers Tryz.func77,Tryz.ntmps77|go_enter_defers Tryz.func76,Tryz.ntmps76
  repeat (go_wp2_with (go_at_call 307;refine dj (y _) ?_);refine Pq.stp P (ag _ _) (by with_reducible first|assumption|exact aj (F.out _ (by decide))) ?_;intro l P G)
  go_wp2_with (go_at_call 307;refine dj (y _) ?_)
  refine pf (f:=306) (by simp) (pE _ _ _ _) ?_
  refine(E.out _ _ P.ps .returning).mono ?_
  rintro x A a8 ⟨rfl,rfl,ak,af⟩
  refine⟨_,gx rfl _ _ _,rfl,?_,P.kq.trans af⟩
  simpa only[be] using ak
section
variable (w0 : World) (vb : Nat) (L : List Im) (t : Nat)
inductive BO (ns:List Nd) (N:Nd) (word:ByteArray):ByteArray->Prop
 |two {q:Nat}{X E:ByteArray}:N.ks.length=2->LX w0 vb L t (N.ks.take 1) X->N.ks[1]?=some (q:Int)->Hid (VX w0 vb L t 83 q E)->BO ns N word (word++X++⟨#[32]⟩++E)
 |elf {q r:Nat}{X E Z:ByteArray}:N.ks.length=3->LX w0 vb L t (N.ks.take 1) X->N.ks[1]?=some (q:Int)->Hid (VX w0 vb L t 83 q E)->N.ks[2]?=some (r:Int)->r<ns.length->(ae ns r).k=7->Hid (Pw w0 vb 136 #[vP vb,fJ w0 t,.string ⟨#[32,101,108,105,102,32]⟩,nV (jo L (r:Int))] Z)->BO ns N word (word++X++⟨#[32]⟩++E++Z)
 |els {q r:Nat}{X E F:ByteArray}:N.ks.length=3->LX w0 vb L t (N.ks.take 1) X->N.ks[1]?=some (q:Int)->Hid (VX w0 vb L t 83 q E)->N.ks[2]?=some (r:Int)->r<ns.length->(ae ns r).k≠7->Hid (VX w0 vb L t 83 r F)->BO ns N word (word++X++⟨#[32]⟩++E++(⟨#[32,101,108,115,101,32]⟩++F))
end
theorem b_w{a:World}{b:Nat}{f:List Nd}{L:List Im}{base:Nat}{a8:Value}(u:Tp a f L base a8){t i:Nat}(ht:t<=100000)(av:i<f.length){N:Nd}(ao:ae f i=N)(ba:N.ks.length<=1048576){C:ByteArray}(bf:C.size<=100){k:ByteArray}(ap:BO a b L t f N C k):
  Pw a b 136 #[vP b,fJ a t,.string C,nV (jo L i)] k:=by
 intro ad c l
 obtain⟨w,bs,a9,bk,y,A,e⟩:=rx u av
 rw[ao]at A e
 have B:=fun (w:Nat) c=>de w c
 have bb:=fun c=>mj a.heap.size (ek t) c
 have bd:=fun c=>sw a.heap.size (ek t) c
 have a1:=e.hn
 have bc:=fun c=>mq (dL N.k) w c
 have K:Hid (∀d:ByteArray,d.size<=100000000->Pw a b 306 #[kF a t,.string d] d):=fun d l=>iw a b t d l
 have J:Hid (∀(d h k:ByteArray)(s o:Value),d.size<=100000000->Hid (Pw a b 135 #[vP b,fJ a t,s] h)->Hid (Pw a b 83 #[vP b,fJ a t,o] k)->Pw a b 137 #[vP b,fJ a t,.string d,s,o] (d++h++⟨#[32]⟩++k)):=fun d h k s o l am a3=>si a b t d (d++h) k s o (jJ a b t d h l s am) a3
 have bl:=fun g (m:Below a.heap.size a g)=>(e.cells m).1
 have bn:=fun g (m:Below a.heap.size a g)=>(e.cells m).2.1
 have z:=l.pg.bel
 have P:Hid (Pq a b c ad c):=⟨l,Kq.refl _ _⟩
 have v:=aj e
 cases ap
 case' two hX hq _=>obtain⟨I,rfl,H, -⟩:=e.ks.get hq;have G:=aj (hX _ (e.ks.take 1 (by omega)))
 case' elf q r h E Z _ hX hq _ hr hl h7 hZ=>
  obtain⟨I,rfl,H, -⟩:=e.ks.get hq
  have G:=aj (hX _ (e.ks.take 1 (by omega)))
  obtain⟨x,a7,ak,a5,al,n,p⟩:=rx u hl
  have a0:=fun c=>mq (dL (ae f r).k) x c
  have an:=Hz h7
  rw[n]at hZ
  have z0:=fun g (m:Below a.heap.size a g)=>(p.cells m).1
  have F:=v.kid hr (by decide)
  rw[n]at F
  clear p n h7
  generalize jd (dL (ae f r).k)=a6 at *
  generalize (ae f r).k=a4 at *
 case' els q r h E Z _ hX hq _ hr hl h7 hZ=>
  obtain⟨I,rfl,H, -⟩:=e.ks.get hq
  have G:=aj (hX _ (e.ks.take 1 (by omega)))
  obtain⟨x,a7,ak,a5,al,n,p⟩:=rx u hl
  have a0:=fun c=>mq (dL (ae f r).k) x c
  have an:=beq_eq_false_iff_ne.2 h7
  unfold VX at hZ
  rw[n]at hZ
  have z0:=fun g (m:Below a.heap.size a g)=>(p.cells m).1
  have F:=v.kid hr (by decide)
  rw[n]at F
  clear p n h7
  generalize jd (dL (ae f r).k)=a6 at *
  generalize (ae f r).k=a4 at *
 all_goals
  try (have o:=a1.symm.trans (by with_reducible assumption:N.ks.length=_);subst o)
  have bt:=v.kid (j:=1) (by with_reducible assumption) (by decide)
  have ar:(1:Int)<=(y:Int)/\1<=y/\¬y=0:=by omega
  obtain⟨_,_,_⟩:=ar
  rw[A]
  generalize jd (dL N.k)=br at *
  try unfold VX at *
  unfold fJ kF at *
  generalize ek t=bo at *
  clear l e A u
  go_in
  repeat' (go_wp2_with (go_at_call 307;refine dj (B _ _) ?_);first|(refine Pq.stp P (ag _ _) (by with_reducible first|assumption|exact aj (K.out _ (by decide))) ?_;intro g P z)|(go_region_held3 (fun af=>Below a.heap.size a af) (first|exact(P.below (aq (ag _ _))).ps.pg.bel|exact z|go_keep) (first|(go_at_call 307;refine dj (B _ _) ?_)|(refine Pq.stp P (aq (ag _ _)) (by with_reducible exact aj (J.out _ _ _ _ _ (by omega) (by assumption) (by assumption))) ?_;intro g P z))))
  all_goals
   go_wp2_with (go_at_call 307;refine dj (B _ _) ?_)
   first|go_end0|refine aH (gx rfl _ _ _) rfl ?_
   exact Pq.fin P (by simp only[be])
