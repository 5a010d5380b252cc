import Derived.Test.YtkdijoogonigpaaGreatDoorHUk12
import Derived.Laws.AppendOwnNone
set_option linter.all false
set_option maxRecDepth 100000
set_option maxHeartbeats 1600000
open Bool renaming false->M,true->Q
open Go.Value renaming bool->O,string->Y
open Go.RowKit renaming Below->R,Hid->U
open Go.Proofs.Tryz renaming prog->S
open Go.Ending renaming returned->T
open Go renaming World->V,Value->W,Calls->X
namespace Go.Proofs.YtkdijoogonigpaaGreatDoor
open Go.RowKit
theorem vw(l:List Int):∀r:ByteArray,(l.foldl (fun r n=>r.push (UInt8.ofNat n.toNat)) r).data.toList=r.data.toList++l.map (fun n=>UInt8.ofNat n.toNat):=by
 induction l with
 |nil=>intro r;simp
 |cons b l a=>intro r;simp only[ni,fo];rw[a];simp[ByteArray.push]
theorem pg(l:List Int):(co l).data.toList=l.map (fun n=>UInt8.ofNat n.toNat):=by
 unfold co;rw[vw,show ByteArray.empty.data.toList=[] from rfl,jF]
theorem Gu(s:ByteArray)(i:Nat):ao s i=((s.data.toList[i]?).map (fun b=>(b.toNat:Int))).getD (-1):=by
 unfold ao;by_cases a:i<s.size
 ·rw[jK a,aF (by simpa using a)];rfl
 ·rw[dif_neg a,dL (by simpa using a)];rfl
theorem og(l:List Int)(b:∀x∈l,0<=x/\x<256)(i:Nat):ao (co l) i=(l[i]?).getD (-1):=by
 rw[Gu,pg,dj,Option.map_map];by_cases a:i<l.length
 ·rw[aF a];have:=b _ (lG a);simp only[uc,ga,Function.comp];rw[UInt8.toNat_ofNat'];omega
 ·rw[dL (by omega)];rfl
def cD(s:ByteArray):List Int:=s.data.toList.map fun a=>(a.toNat:Int)
theorem Dn(s:ByteArray):co (cD s)=s:=by
 apply lF;apply Array.toList_inj.1;rw[pg];unfold cD;rw[List.map_map]
 conv=>rhs;rw[<-List.map_id s.data.toList]
 apply List.map_congr_left;intro a _;simp
theorem qi(s:ByteArray):(cD s).length=s.size:=by simp[cD]
theorem Bv(s:ByteArray)(k:Nat)(a:k<s.size):(cD s).take (k+1)=(cD s).take k++[(s[k].toNat:Int)]:=by
 have b:k<(cD s).length:=by rw[qi];exact a
 rw[List.take_succ_eq_append_getElem b]
 congr 2
 simp[cD];rfl
theorem zA(d:Int)(a:0<=d)(b:d<16):32<=gg d/\gg d<=126:=by unfold gg;split<;>omega
theorem ade(c:Int)(e:0<=c)(f:c<256):∀x∈esc c,32<=x/\x<=126:=by
 unfold esc;split
 ·simp
 split
 ·simp
 split
 ·rename_i d;simp;omega
 split
 ·have a:=zA (c / 16) (by omega) (by omega);have b:=zA (c%16) (by omega) (by omega);simp;omega
 ·simp;omega
theorem zB(s:ByteArray)(k:Nat)(a:k<s.size):0<=(s[k].toNat:Int)/\(s[k].toNat:Int)<256:=by have:=s[k].toNat_lt;omega
theorem acd(s:ByteArray):∀k,k<=s.size->∀x∈qt s k,32<=x/\x<=126
 |0,_=>by simp[qt]
 |k+1,a=>by
  intro x hx;rw[np s k (by omega),Eu]at hx;rcases hx with hx|hx
  ·exact acd s k (by omega) x hx
  ·exact ade _ (zB s k (by omega)).1 (zB s k (by omega)).2 x hx
theorem mD(s:ByteArray):∀x∈bG s,32<=x/\x<=126:=by
 intro x hx;unfold bG at hx;rw[Eu]at hx;rcases hx with hx|hx
 ·exact acd s s.size (ag _) x hx
 ·simp at hx;omega
theorem vx(s:ByteArray)(k:Nat):∀n,k+n<=s.size->∃a,qt s (k+n)=qt s k++a
 |0,_=>⟨[],by simp⟩
 |n+1,c=>by
  obtain⟨a,b⟩:=vx s k n (by omega);exact⟨a++esc (s[k+n].toNat:Int),by rw[show k+(n+1)=(k+n)+1 by omega,np s (k+n) (by omega),b,dG]⟩
theorem IH(s:ByteArray)(k:Nat)(c:k<s.size):∃a,bG s=qt s k++(esc (s[k].toNat:Int)++a):=by
 obtain⟨a,b⟩:=vx s (k+1) (s.size-(k+1)) (by omega);rw[show k+1+(s.size-(k+1))=s.size by omega,np s k c]at b;exact⟨a++[34],by unfold bG;rw[b];simp⟩
theorem Gv(s:ByteArray)(k j:Nat)(b:k<s.size)(a:j<(esc (s[k].toNat:Int)).length):ao (co (bG s)) ((qt s k).length+j)=(esc (s[k].toNat:Int))[j]:=by
 rw[og _ (fun e d=>by have:=mD s e d;omega)];obtain⟨f,c⟩:=IH s k b;rw[c,jc (by omega),show(qt s k).length+j-(qt s k).length=j by omega,jG a,aF a];rfl
theorem Gw(s:ByteArray):ao (co (bG s)) (qt s s.size).length=34:=by
 rw[og _ (fun b a=>by have:=mD s b a;omega)];unfold bG;rw[jc (by omega)];simp
theorem II(s:ByteArray):ao (co (bG s)) 0=34:=by
 rw[og _ (fun b a=>by have:=mD s b a;omega)];unfold bG qt;simp
theorem yc(s:ByteArray):(bG s).length=(qt s s.size).length+1:=by unfold bG;simp
theorem Gx:∀d:Fin 16,dE (gg (d.val:Int))=(d.val:Int):=by decide
theorem qj(d:Int)(b:0<=d)(c:d<16):dE (gg d)=d:=by
 have:=Gx ⟨d.toNat,by omega⟩;have a:((d.toNat:Nat):Int)=d:=by omega
 simp only[a]at this;exact this
theorem IJ(s:ByteArray):∀(n k c:Nat),k+n=s.size->(co (bG s)).size<(qt s k).length+c->
  bH (co (bG s)) c (qt s k).length ((cD s).take k)=(Q,(co (bG s)).size,cD s):=by
 have E:(co (bG s)).size=(qt s s.size).length+1:=by rw[kF,yc]
 intro n
 induction n with
 |zero=>
  intro k c z w;obtain rfl:k=s.size:=by omega
  obtain⟨c,rfl⟩:∃p,c=p+1:=⟨c-1,by omega⟩;unfold bH;rw[aa (by omega),Gw,ab rfl,E,cC (by rw[qi];omega)]
 |succ n H=>
  intro k c z w;have o:k<s.size:=by omega
  have al:=zB s k o;have C:=np s k o;have F:=Bv s k o;have d:=fun I y=>Gv s k I o y;have A:(qt s (k+1)).length<=(qt s s.size).length:=by
   obtain⟨an,r⟩:=vx s (k+1) n (by omega);rw[show k+1+n=s.size by omega]at r;rw[r];simp
  have e:=fun v x=>H (k+1) v (by omega) x;rw[F]at e;generalize (s[k].toNat:Int)=a at *;have B:(qt s (k+1)).length=(qt s k).length+(esc a).length:=by rw[C];simp
  generalize am:co (bG s)=b at *;generalize ak:(qt s k).length=P at *;generalize af:(cD s).take k=L at *;obtain⟨c,rfl⟩:∃p,c=p+1:=⟨c-1,by omega⟩;rw[B]at e A;unfold bH;rw[aa (by omega)];by_cases j:a=10
  ·subst j;have f:ao b P=92:=d 0 (by decide);have g:ao b (P+1)=110:=d 1 (by decide);have h:ed b (P+1)=(10,P+1+1,Q):=by unfold ed;rw[g];rfl
   rw[f,aa (by decide),aa (by decide),ab rfl,h,ab rfl];exact e c (by have:(esc 10).length=2:=rfl;omega)
  by_cases l:a=9
  ·subst l;have f:ao b P=92:=d 0 (by decide);have g:ao b (P+1)=116:=d 1 (by decide);have h:ed b (P+1)=(9,P+1+1,Q):=by unfold ed;rw[g];rfl
   rw[f,aa (by decide),aa (by decide),ab rfl,h,ab rfl];exact e c (by have:(esc 9).length=2:=rfl;omega)
  by_cases m:a=34\/a=92
  ·have i:esc a=[92,a]:=by unfold esc;rw[aa j,aa l,ab m]
   rw[i]at d e;have f:ao b P=92:=d 0 (by simp);have g:ao b (P+1)=a:=d 1 (by simp);have h:ed b (P+1)=(a,P+1+1,Q):=by unfold ed;rw[g,aa (by omega),aa (by omega),ab m]
   rw[f,aa (by decide),aa (by decide),ab rfl,h,ab rfl];exact e c (by simp;omega)
  by_cases q:a<32\/126<a
  ·have i:esc a=[92,120,gg (a / 16),gg (a%16)]:=by unfold esc;rw[aa j,aa l,aa m,ab q]
   rw[i]at d e;have f:ao b P=92:=d 0 (by simp);have g:ao b (P+1)=120:=d 1 (by simp);have t:ao b (P+1+1)=gg (a / 16):=d 2 (by simp);have u:ao b (P+1+1+1)=gg (a%16):=d 3 (by simp);have J:=qj (a / 16) (by omega) (by omega);have K:=qj (a%16) (by omega) (by omega);have G:hexI b (P+1+1)=(a,P+1+1+1+1,Q):=by
    unfold hexI;rw[t,u,J,K,aa (by omega),aa (by omega)]
    congr 1;omega
   have h:ed b (P+1)=(a,P+1+1+1+1,Q):=by unfold ed;rw[g,aa (by decide),aa (by decide),aa (by decide),ab rfl,G]
   rw[f,aa (by decide),aa (by decide),ab rfl,h,ab rfl];exact e c (by simp;omega)
  ·have i:esc a=[a]:=by unfold esc;rw[aa j,aa l,aa m,aa q]
   rw[i]at d e;have f:ao b P=a:=d 0 (by simp);rw[f,aa (by omega),aa (by omega),aa (by omega)];exact e c (by simp;omega)
def qk(x:ByteArray):Bool:=decide (x.toList=[])
def aA(N:Nd)(op b c a:Bool):Bool:=(op||N.op==0)&&(b||N.n==0)&&(c||qk N.x)&&(a||decide (N.nm.length=0))
theorem bJ(w:V)(N:Nd)(vn vk:W)(l:cj w vn N.nm)(j:aJ w vk N.ks)(k:N.nm.length<=1048576):
  X S 156 #[cE N vn vk,O M,O M,O M,O M] w fun e r=>e= T (O (aA N M M M M))/\R w.heap.size w r:=by
 have d:∀f,R w.heap.size w (w.alloc f):=fun f=>(aq _ w).alloc (ag _) f;obtain⟨t,v,rfl⟩:=l.form;obtain⟨u,x,rfl⟩:=j.form;clear l j;obtain⟨c,a⟩:=aD (aA N M M M M);rw[a];unfold cE;generalize N.ks.length=s;obtain⟨z,y,C,B,p,n,q,o,A⟩:=N;simp only at k⊢;unfold aA qk at a;simp only at a;obtain⟨g,i⟩:=aD o.length;rw[i]at k a⊢;clear i;cases t1:(p==0) with
 |false=>
  rw[t1]at a;have b:U (M=c):=by first|exact a|simpa using a
  clear a;go_in;go_wp2;go_ret;exact⟨by rw[<-b.out];rfl,d _⟩
 |true=>
  rw[t1]at a;cases t2:(n==0) with
  |false=>
   rw[t2]at a;have b:U (M=c):=by first|exact a|simpa using a
   clear a;go_in;go_wp2;go_ret;exact⟨by rw[<-b.out];rfl,d _⟩
  |true=>
   rw[t2]at a;by_cases m:q.toList=[]
   case neg=>
    rw[bk m]at a;have b:U (M=c):=by first|exact a|simpa using a
    clear a;go_in;go_wp2;go_ret;exact⟨by rw[<-b.out];rfl,d _⟩
   rw[cG m]at a;by_cases h:g=0
   ·subst h;have b:U (Q=c):=by first|exact a|simpa using a
    clear a;go_in;go_wp2;go_ret;exact⟨by rw[<-b.out];rfl,d _⟩
   ·have E:((g:Int)==0)=M:=by rw[aC];omega
    rw[bk h]at a;have b:U (M=c):=by first|exact a|simpa using a
    clear a;go_in;go_wp2;go_ret;exact⟨by rw[<-b.out];rfl,d _⟩
theorem ig(w:V)(N:Nd)(vn vk:W)(j:cj w vn N.nm)(h:aJ w vk N.ks)(i:N.nm.length<=1048576):
  X S 156 #[cE N vn vk,O M,O M,O M,O Q] w fun e p=>e= T (O (aA N M M M Q))/\R w.heap.size w p:=by
 have d:∀f,R w.heap.size w (w.alloc f):=fun f=>(aq _ w).alloc (ag _) f;obtain⟨s,u,rfl⟩:=j.form;obtain⟨t,v,rfl⟩:=h.form;clear j h;obtain⟨c,a⟩:=aD (aA N M M M Q);rw[a];unfold cE;generalize N.ks.length=r;obtain⟨y,x,B,A,n,l,o,m,z⟩:=N;simp only at i⊢;unfold aA qk at a;simp only at a;obtain⟨q,g⟩:=aD m.length;rw[g]at i a⊢;clear g;cases t1:(n==0) with
 |false=>
  rw[t1]at a;have b:U (M=c):=by first|exact a|simpa using a
  clear a;go_in;go_wp2;go_ret;exact⟨by rw[<-b.out];rfl,d _⟩
 |true=>
  rw[t1]at a;cases t2:(l==0) with
  |false=>
   rw[t2]at a;have b:U (M=c):=by first|exact a|simpa using a
   clear a;go_in;go_wp2;go_ret;exact⟨by rw[<-b.out];rfl,d _⟩
  |true=>
   rw[t2]at a;by_cases k:o.toList=[]
   case neg=>
    rw[bk k]at a;have b:U (M=c):=by first|exact a|simpa using a
    clear a;go_in;go_wp2;go_ret;exact⟨by rw[<-b.out];rfl,d _⟩
   rw[cG k]at a;have b:U (Q=c):=by first|exact a|simpa using a
   clear a;go_in;go_wp2;go_ret;exact⟨by rw[<-b.out];rfl,d _⟩
theorem jw(w:V)(N:Nd)(vn vk:W)(l:cj w vn N.nm)(j:aJ w vk N.ks)(k:N.nm.length<=1048576):
  X S 156 #[cE N vn vk,O M,O Q,O M,O M] w fun e q=>e= T (O (aA N M Q M M))/\R w.heap.size w q:=by
 have d:∀f,R w.heap.size w (w.alloc f):=fun f=>(aq _ w).alloc (ag _) f;obtain⟨s,u,rfl⟩:=l.form;obtain⟨t,v,rfl⟩:=j.form;clear l j;obtain⟨c,a⟩:=aD (aA N M Q M M);rw[a];unfold cE;generalize N.ks.length=r;obtain⟨y,x,C,A,o,B,p,n,z⟩:=N;simp only at k⊢;unfold aA qk at a;simp only at a;obtain⟨g,i⟩:=aD n.length;rw[i]at k a⊢;clear i;cases t1:(o==0) with
 |false=>
  rw[t1]at a;have b:U (M=c):=by first|exact a|simpa using a
  clear a;go_in;go_wp2;go_ret;exact⟨by rw[<-b.out];rfl,d _⟩
 |true=>
  rw[t1]at a;by_cases m:p.toList=[]
  case neg=>
   rw[bk m]at a;have b:U (M=c):=by first|exact a|simpa using a
   clear a;go_in;go_wp2;go_ret;exact⟨by rw[<-b.out];rfl,d _⟩
  rw[cG m]at a;by_cases h:g=0
  ·subst h;have b:U (Q=c):=by first|exact a|simpa using a
   clear a;go_in;go_wp2;go_ret;exact⟨by rw[<-b.out];rfl,d _⟩
  ·have E:((g:Int)==0)=M:=by rw[aC];omega
   rw[bk h]at a;have b:U (M=c):=by first|exact a|simpa using a
   clear a;go_in;go_wp2;go_ret;exact⟨by rw[<-b.out];rfl,d _⟩
theorem jx(w:V)(N:Nd)(vn vk:W)(l:cj w vn N.nm)(j:aJ w vk N.ks)(k:N.nm.length<=1048576):
  X S 156 #[cE N vn vk,O M,O M,O Q,O M] w fun e p=>e= T (O (aA N M M Q M))/\R w.heap.size w p:=by
 have d:∀f,R w.heap.size w (w.alloc f):=fun f=>(aq _ w).alloc (ag _) f;obtain⟨r,t,rfl⟩:=l.form;obtain⟨s,u,rfl⟩:=j.form;clear l j;obtain⟨c,a⟩:=aD (aA N M M Q M);rw[a];unfold cE;generalize N.ks.length=q;obtain⟨x,v,A,z,o,m,B,n,y⟩:=N;simp only at k⊢;unfold aA qk at a;simp only at a;obtain⟨g,i⟩:=aD n.length;rw[i]at k a⊢;clear i;cases t1:(o==0) with
 |false=>
  rw[t1]at a;have b:U (M=c):=by first|exact a|simpa using a
  clear a;go_in;go_wp2;go_ret;exact⟨by rw[<-b.out];rfl,d _⟩
 |true=>
  rw[t1]at a;cases t2:(m==0) with
  |false=>
   rw[t2]at a;have b:U (M=c):=by first|exact a|simpa using a
   clear a;go_in;go_wp2;go_ret;exact⟨by rw[<-b.out];rfl,d _⟩
  |true=>
   rw[t2]at a;by_cases h:g=0
   ·subst h;have b:U (Q=c):=by first|exact a|simpa using a
    clear a;go_in;go_wp2;go_ret;exact⟨by rw[<-b.out];rfl,d _⟩
   ·have C:((g:Int)==0)=M:=by rw[aC];omega
    rw[bk h]at a;have b:U (M=c):=by first|exact a|simpa using a
    clear a;go_in;go_wp2;go_ret;exact⟨by rw[<-b.out];rfl,d _⟩
theorem ty(w:V)(N:Nd)(vn vk:W)(l:cj w vn N.nm)(j:aJ w vk N.ks)(k:N.nm.length<=1048576):
  X S 156 #[cE N vn vk,O Q,O M,O M,O M] w fun e q=>e= T (O (aA N Q M M M))/\R w.heap.size w q:=by
 have d:∀f,R w.heap.size w (w.alloc f):=fun f=>(aq _ w).alloc (ag _) f;obtain⟨s,u,rfl⟩:=l.form;obtain⟨t,v,rfl⟩:=j.form;clear l j;obtain⟨c,a⟩:=aD (aA N Q M M M);rw[a];unfold cE;generalize N.ks.length=r;obtain⟨y,x,C,A,B,n,p,o,z⟩:=N;simp only at k⊢;unfold aA qk at a;simp only at a;obtain⟨g,i⟩:=aD o.length;rw[i]at k a⊢;clear i;cases t2:(n==0) with
 |false=>
  rw[t2]at a;have b:U (M=c):=by first|exact a|simpa using a
  clear a;go_in;go_wp2;go_ret;exact⟨by rw[<-b.out];rfl,d _⟩
 |true=>
  rw[t2]at a;by_cases m:p.toList=[]
  case neg=>
   rw[bk m]at a;have b:U (M=c):=by first|exact a|simpa using a
   clear a;go_in;go_wp2;go_ret;exact⟨by rw[<-b.out];rfl,d _⟩
  rw[cG m]at a;by_cases h:g=0
  ·subst h;have b:U (Q=c):=by first|exact a|simpa using a
   clear a;go_in;go_wp2;go_ret;exact⟨by rw[<-b.out];rfl,d _⟩
  ·have E:((g:Int)==0)=M:=by rw[aC];omega
   rw[bk h]at a;have b:U (M=c):=by first|exact a|simpa using a
   clear a;go_in;go_wp2;go_ret;exact⟨by rw[<-b.out];rfl,d _⟩
theorem Bw(w:V)(N:Nd)(vn vk:W)(j:cj w vn N.nm)(h:aJ w vk N.ks)(i:N.nm.length<=1048576):
  X S 156 #[cE N vn vk,O Q,O M,O M,O Q] w fun e o=>e= T (O (aA N Q M M Q))/\R w.heap.size w o:=by
 have d:∀f,R w.heap.size w (w.alloc f):=fun f=>(aq _ w).alloc (ag _) f;obtain⟨r,t,rfl⟩:=j.form;obtain⟨s,u,rfl⟩:=h.form;clear j h;obtain⟨c,a⟩:=aD (aA N Q M M Q);rw[a];unfold cE;generalize N.ks.length=q;obtain⟨x,v,B,z,A,l,n,m,y⟩:=N;simp only at i⊢;unfold aA qk at a;simp only at a;obtain⟨p,g⟩:=aD m.length;rw[g]at i a⊢;clear g;cases t2:(l==0) with
 |false=>
  rw[t2]at a;have b:U (M=c):=by first|exact a|simpa using a
  clear a;go_in;go_wp2;go_ret;exact⟨by rw[<-b.out];rfl,d _⟩
 |true=>
  rw[t2]at a;by_cases k:n.toList=[]
  case neg=>
   rw[bk k]at a;have b:U (M=c):=by first|exact a|simpa using a
   clear a;go_in;go_wp2;go_ret;exact⟨by rw[<-b.out];rfl,d _⟩
  rw[cG k]at a;have b:U (Q=c):=by first|exact a|simpa using a
  clear a;go_in;go_wp2;go_ret;exact⟨by rw[<-b.out];rfl,d _⟩
open Go.Maps Go.WideMaps
def IK(base:Nat)(b:V)(v:W)(a:List ByteArray):Prop:=b.ownsRow base 9 1 v a.length (a.map Y)
theorem IK.form{base:Nat}{d:V}{v:W}{b:List ByteArray}(e:IK base d v b):∃a c,v= .slice a b.length c:=ey e
theorem IK.below{base:Nat}{a b:V}{v:W}{c:List ByteArray}(d:IK base a v c)(e:R a.heap.size a b):IK base b v c:=ei d e
theorem IL:(Tryz.prog.info? 9).map (fun i=>(i.zero,i.size,i.bytes))=some (some (.string ⟨#[]⟩),1,16):=by kernel_rfl
